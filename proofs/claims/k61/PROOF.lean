import PyProof.Rows.All
import Wide.All
import OpenK.AllK
import Wide.FinOn
import Lean
import PyProof.EqAt
import PyProof.EqKinds
import PyProof.TupleCall
import PyProof.Walks
import PyProof.ZipIter
import PyProof.EnumIter
import PyProof.EnumFor
import PyProof.EnumStmt
import PyProof.ListRange
import PyProof.Conv_int_bool
import PyProof.SetRoads
import PyProof.Rows.SetFrom
import PyProof.WalksMore
import KE.KLam
import KE.KNestM
import KE.KRevSl
import KE.KRevIter
import KE.KDictList
import KE.KSortTup
import KE.KSortKey
import PyProof.TupleOfSeq
import PyProof.WalkInts
import PyProof.EqLayable
import PySem.Challenge.RW_storejudge_k61_pieces
import KE.KTryMore
import KE.KIsAll
import PyProof.FString
import PyProof.TupleKey
import PyProof.DictTable
import PyProof.Rows.TupDisplay
import PyProof.DictFindH
set_option genInjectivity false
set_option compiler.extract_closed false
set_option bootstrap.genMatcherCode false
set_option genSizeOf false
section
open PySem PySem.W PyProof.Rows
set_option Elab.async false
set_option maxRecDepth 100000
set_option maxHeartbeats 0
structure PySem.W.Fast:Prop where
 (tw8200471697830512917 tw861502493610598483 tw17484971600754064407 tw7774113678449685934 tw4038046598495731775 tw6947009327936982059 tw17071660069713835940 tw10931757524730887808 tw6154823086004874393 tw1310944521214732992 tw2343285291557775378 tw9872438946963307937 tw13171189065178304875 tw16216476560635493584 tw16097043368106609894 tw15797354312348517276 tw5010956058597451964 tw4705034193704625203 tw17267597263503486738 tw15568320322881618571 tw126342902990734186 tw14221096863170989933 tw17659185236578331656 tw10988312798546598065 tw14903569129155370506 tw13913613514976480042 tw5031154709326756923 tw4290864757253303354 tw9433028549170029634 tw8997383693586321770 tw5960047855520388891 tw9972681490609642005 tw9317495090193701157 tw9304451534382375720 tw15142666989864626641 tw18418582437962087742 tw7480016910919988345 tw2595585439558603231 tw4309217394794523951 tw3916924956782111165 tw14760874974797668852 tw8047209995159408440 tw2474200967059427378 tw1467881925912835984 tw140001813534094272 tw1717767836212652739 tw2913531160240911109 tw16203366879757453535 tw4906484309439969231 tw1922157984580058403 tw16012446641787371758 tw4849480874435393781 tw11481637867367846703 tw14284835775768690865 tw6125853113672642322 tw991626836265849350 tw13567515925198824819 tw8752102160057688731 tw1205604411410820431 tw14963028359598502718 tw15433366417846715934 tw13307065042914920193 tw14154597600763967237 tw1864683662541468164 tw4334401890000744311 tw14664691819916384248 tw539538531456391632 tw10295913840692754127 tw6278996535519779258 tw10826640976665885199 tw599730875272715187 tw10611411778653204182 tw2135409205425526673 tw15235614512728720 tw10510019762269167821 tw384561282630992784 tw1158361714356455011 tw11962351593759143498 tw4313010194945074917 tw8498532028676091811 tw7086961617601330827 tw6945566481307383155 tw7424060955962978353 tw9947508896943372755 tw726351398001015727 tw18293242582946804979 tw11824586356888161845 tw3992765435912101610 tw4562827626845409882 tw7374399212775623666 tw9848817304349107530 tw16860917588515726111 tw5101696844757716304 tw9592300441314626372 tw3303267245142563540 tw16756451883985382160 tw16203965252921439515 tw9615563845995560447 tw16925712312323332580 tw10741264400317747893 tw87601786513091389 tw542563422162235373 tw5725222548895626118 tw11853640710764476214 tw18095796173783872564 tw17658959251048325594 tw4096438862311573950 tw16248296213531012650 tw7322748291113730364 tw18094105663378112561 tw10842938092177581297 tw6170744672141170255 tw9536688357841153863 tw12138319994727072339 tw13855379610559885079 tw12773500944031208451 tw13053770412826190925 tw8318101203651539667 tw9977182230042388008 tw11212356425047092601 tw4547051000311932777 tw13547939009206843870 tw17339309145561079191 tw5467331546851215429 tw3671519592330383864 tw1207101557538958131 tw12772213712371865176 tw14424681132571578402 tw8222940686941784037 tw5362036446546632119 tw17292613610259460706 tw6128145076113358165 tw18383651708701053236 tw14341141199694864594 tw17980500129456985241 tw12903330217458380548 tw9646623106273453227 tw12408111787983249662 tw16873086082458093902 tw17334828202450815106 tw6128106870883400570 tw3049343062529576306 tw14226173905949225808 tw463774138113389760 tw10294118229990073760 tw15752536640612570366 tw8733291241859026926 tw15590096980072825465 tw890339118813698166 tw3042748168174471775 tw17348111734160510231 tw15779231459743154856 tw14859695947638507448 tw2694234056635809718 tw3110587219445414310 tw12528533614272120300 tw1293241653719404408 tw6229817132586351632 tw16864618592142003386 tw247591363613054380 tw9592521066531166775 tw12382822922155266910 tw12099505692703838030 tw8186657734068701312 tw4884199854448574 tw12147665669636231765 tw16626521671886133394 tw3520257249291928256 tw3238445694619138142 tw16226643914720891334 tw15042883488752021643 tw11898673842065290130 tw17852080271459398996 tw1835071406663858368 tw17397653436517662659 tw17817366049700826239 tw6549852094080907030 tw5217270863462422736 tw3985964047577975286 tw7164969610272591079 tw17483705464198625004 tw3382625519597670723 tw17351735930882485243 tw2244103112122482387 tw4635989785427082552 tw12003660372656728261 tw615563214671542189 tw7921390202802761869 tw9387514328989991554 tw14842496431369740429 tw17691633702590694504 tw13160504802963445071 tw13622603851894308203 tw13215348057498601715 tw6105849179199505303 tw18105302477358141223 tw11564986514327137767 tw10792498714594961201 tw523537741815420091 tw4039707410889071942 tw15438627641174518403 tw10510056951384868246 tw896239598344801917 tw6472337539984862722 tw13421457143807847188 tw1840220198017710270 tw5459702643516471331 tw14689541978594310382 tw4684226298888400098 tw4804111812005502284 tw740290905518256060 tw18031968618487185184 tw17338325484393633139 tw7538781388859322016 tw2295934692909999376 tw11692469974320434101 tw8995945545434573385 tw1342123614928995077 tw5072417060200589145 tw10698057553749749337 tw6822071536725586909 tw1708089923452030704 tw1950803216711332702 tw896878414759379649 tw4483904966330829159 tw4321966507151631593 tw6858818405166986180 tw16682895059504647277 tw2080317491765294665 tw13953587524928339648 tw9331231397406362311 tw3778530596728393105 tw16003985067176294414 tw17464319187374939960 tw16607193741793207195 tw6690350156832105676 tw4971374062829452455 tw3897268976836264337 tw5323657890516693427 tw8157277791214410489 tw11662115353561507501 tw15895094517606616290 tw8737599933303070863 tw14074196154385387334 tw3365755272349913518 tw4015202173357781934 tw5289818103960998278 tw2483420100392427323 tw15831126876759372255 tw6575520176995025181 tw6782663255696616371 tw6607644564249050058 tw17382457898008728272 tw5285915839522022235 tw6060609690816243450 tw2931988195819169919 tw6084841979344569690 tw3953844824629472508 tw6248682570935725439 tw9757595895972200118 tw12717557048674177747 tw13462424878891718212 tw4859391219904099992 tw9456574344343218679 tw12740759652641322565 tw7943549864190904611 tw12843764043397292189 tw2741014181512449073 tw9320515035125037321 tw2187251505897268136 tw13437419889732721216 tw15166322114958858414 tw9919008367099125623 tw14849461344987154502 tw11429584451438056573 tw1956260828630720203 tw7485256538410118956 tw12798174099139212305 tw16053306600634468012 tw17592209452093105858 tw14219159868682941630 tw561727478393794602 tw13813548295540068894 tw15127105006835628225 tw9806118890596472461 tw5702276774652866934 tw4075453323654395381 tw2400638427578300857 tw14022695629967993375 tw11317637306720784765 tw10519837036962490867 tw1915925776726481438 tw17883462748017686043 tw4436474186459923750 tw3075201292733833056 tw17590705303994421779 tw14703100239697439463 tw17435391645217708394 tw10861573186032746274 tw9689729476882780088 tw6124413428159637790 tw258204147387103276 tw2646887283097553488 tw8739830900816887780 tw9116068151291705539 tw11266997524610791606 tw17613222154834848340 tw11421057715548341654 tw2789304352393801511 tw14538725608371270373 tw5002640475654186023 tw2144661209622563809 tw12770481643036789091 tw2455152089536381482 tw3681537716864247207 tw866652123128751154 tw1495895850433845275 tw6469784823511061222 tw6056707288978253535 tw3328118118096588273 tw2576523973992343609 tw7091221385724896812 tw17678831435119133177 tw772564365185477556 tw16670775579421159206 tw6162269159774324313 tw8432719020341155521 tw5832305185047221409 tw14061609134260724683 tw18367749455379333440 tw16298917771340976007 tw3721919958574915784 tw14727194681476072466 tw11738243743197964597 tw7220529860990300233 tw8899516883271353254 tw2692750590507578028 tw5344687154915797982 tw14782954611325821827 tw6828597562223498359 tw15577281813014381367 tw17916429707943930468 tw14592624751514493413 tw7592715696027808041 tw11033627544408312984 tw4490611911172417597 tw18328257000508772394 tw12768989823518198380 tw2353497105660221152 tw13711697494001597007 tw12287027617447088827 tw3543459598558145280 tw13831308528885131752 tw8171798328758944481 tw1532491051758110099 tw938635154573522699 tw12669407529647801677 tw8865387616306378214 tw2084650752826471497 tw3374319085511977134 tw1000662321505670351 tw12269216009862288129 tw4734895289157585001 tw12727641955093265886 tw9879335643197240621 tw17518593693041627797 tw18101783494082082527 tw17013487888433625170 tw11153475782318119604 tw16108870410212019532 tw13385558918117058561 tw15254633091992210921 tw443766864951011646 tw1172684022675603355 tw643336161829623379 tw10374632558016547081 tw15805137534098808535 tw3641951560692057861 tw13034982811429478159 tw8949853181751564097 tw10258873121960336067 tw3419001889969749887 tw11823594873375168262 tw16140922888777852060 tw1725486776273817318 tw3235425350174046738 tw6968137755033780318 tw13810262117814702294 tw17260811203177919210 tw4171853373547519906 tw1972164579936704799 tw10879749546641988924 tw14387916025512776202 tw6953138203311097117 tw5537553045615171315 tw13946496683202179788 tw6702445572142316249 tw12917704675397863716 tw7212858340449540239 tw6148498323302512570 tw3215387988796971590 tw2314633323536394700 tw14564479935002850509 tw16902440903046159558 tw3308634892276815127 tw3300257896294614128 tw4683681711962371626 tw15685335758407661847 tw2827255003249426055 tw16822532161544500889 tw7933485763601977624 tw15227483606004533461 tw16919654943277366748 tw12550775161083096063 tw694261584828832409 tw7046044490832178742 tw4480162626587320490 tw5498123283257192965 tw4493901809537577575 tw17318462890700432884:True)
open_top hd for PySem.Challenge.rw_storejudge_k61_pieces
end
noncomputable section
theorem ZR0 (h:True:=by rfl):True:=h
def ZR:Lean.Syntax:=ZR0._auto_1
theorem ZD0 (h:True:=by decide):True:=h
def ZD:Lean.Syntax:=ZD0._auto_1
theorem ZI0 (h:True:=by intro _;rfl):True:=h
def ZI:Lean.Syntax:=ZI0._auto_1
theorem ZW0 (h:True:=by with_unfolding_all rfl):True:=h
def ZW:Lean.Syntax:=ZW0._auto_1
set_option Elab.async false
set_option linter.all false
set_option maxRecDepth 100000
set_option maxHeartbeats 4000000
namespace L2
open PySem PySem.Spec PyProof.Rows

abbrev Key:=Sum Int Str
noncomputable def keyIs:Key->Value->Bool
 | .inl k,v=>Value.isInt k v
 | .inr x,v=>Value.isStrOf x v
noncomputable def cK5 (w:World):Key->Int
 | .inl k=>hashInt k
 | .inr x=>hashStr w x
theorem keyIs_shape:∀ {k:Key} {v:Value},keyIs k v=true->(∃ i t,k=Sum.inl i/\v=Value.int i t)\/(∃ x t,k=Sum.inr x/\v=Value.str x t)
 | .inl i,v,h=>by
  obtain ⟨t,e⟩:=Value.isInt_shape (k:=i) (v:=v) h;exact .inl ⟨i,t,rfl,e⟩
 | .inr x,v,h=>by
  obtain ⟨t,e⟩:=Value.isStrOf_shape (x:=x) (v:=v) h;exact .inr ⟨x,t,rfl,e⟩
def zF (i:Int) (t:Tok):keyIs (.inl i) (.int i t)=true:=by simp [keyIs,Value.isInt]
def zG (x:Str) (t:Tok):keyIs (.inr x) (.str x t)=true:=by simp [keyIs,Value.isStrOf]
def bD0 (a b:Int):decide ((Sum.inl a:Key)=Sum.inl b)=(a==b):=by
 by_cases e:a=b
 ·subst e;simp
 ·have h:¬ (Sum.inl a:Key)=Sum.inl b:=fun q=>e (Sum.inl.inj q);rw [decide_eq_false h];exact (beq_eq_false_iff_ne.mpr e).symm
def bD1 (a b:Str):decide ((Sum.inr a:Key)=Sum.inr b)=decide (a=b):=by
 by_cases e:a=b
 ·subst e;simp
 ·have h:¬ (Sum.inr a:Key)=Sum.inr b:=fun q=>e (Sum.inr.inj q);rw [decide_eq_false h,decide_eq_false e]
def bD2 (a:Int) (b:Str):decide ((Sum.inl a:Key)=Sum.inr b)=false:=decide_eq_false (fun q=>nomatch q)
def bD3 (a:Str) (b:Int):decide ((Sum.inr a:Key)=Sum.inl b)=false:=decide_eq_false (fun q=>nomatch q)

def cM (prog:Program) (w:World):PySem.KeyKind prog w Key where
 is:=keyIs
 hash:=cK5 w
 inj:=fun v a b ha hb=>by
  rcases keyIs_shape ha with ⟨i,t,rfl,rfl⟩ | ⟨x,t,rfl,rfl⟩
  ·rcases keyIs_shape hb with ⟨j,u,rfl,e⟩ | ⟨y,u,rfl,e⟩
   ·injection e with e1 _;rw [e1]
   ·exact nomatch e
  ·rcases keyIs_shape hb with ⟨j,u,rfl,e⟩ | ⟨y,u,rfl,e⟩
   ·exact nomatch e
   ·injection e with e1 _;rw [e1]
 byValue:=fun k v h=>by
  rcases keyIs_shape h with ⟨i,t,rfl,rfl⟩ | ⟨x,t,rfl,rfl⟩<;>rfl
 pyHash:=fun hv h=>by
  rcases keyIs_shape hv with ⟨i,t,rfl,rfl⟩ | ⟨x,t,rfl,rfl⟩
  ·exact wpAny_pyHash_int h
  ·exact wpAny_pyHash_str h
 eqBool:=fun hu hv h=>by
  rcases keyIs_shape hu with ⟨i,t,rfl,rfl⟩ | ⟨x,t,rfl,rfl⟩
  ·rcases keyIs_shape hv with ⟨j,u,rfl,rfl⟩ | ⟨y,u,rfl,rfl⟩
   ·rw [bD0] at h;exact wpAny_eqBool_int h
   ·rw [bD2] at h;exact SeqAt.EqAt.int_str i t y u _ _ _ _ h
  ·rcases keyIs_shape hv with ⟨j,u,rfl,rfl⟩ | ⟨y,u,rfl,rfl⟩
   ·rw [bD3] at h;exact SeqAt.EqAt.str_int x t j u _ _ _ _ h
   ·rw [bD1] at h;exact wpAny_eqBool_str h
 «strs»:=fun k x t v h=>by
  rcases keyIs_shape h with ⟨i,u,rfl,e⟩ | ⟨y,u,rfl,e⟩
  ·exact nomatch e
  ·injection e with e1 _
   subst e1;cases v<;>rfl

def kS (prog:Program) (w:World) (i:Int) (t:Tok):(cM prog w).is (.inl i) (.int i t)=true:=zF i t
def rV (prog:Program) (w:World) (x:Str) (t:Tok):(cM prog w).is (.inr x) (.str x t)=true:=zG x t
end L2

namespace DL
open PySem PySem.Spec PyProof.Rows L2
set_option genInjectivity true in
inductive W where
 | d (x:PyData)
 | c (i:Nat)
set_option genInjectivity true in
inductive Cell where
 | l (xs:List PyData)
 | k (kvs:List (PyData×W))
 | o (C:Addr) (fs:List (Str×W))
 | r (ws:List W)
 | n (kvs:List (PyData×PyData))
 | t (qs:List (Pos×Str))
abbrev aA:=List Cell
abbrev DSt:=List (Option W)
noncomputable def cQ:PyData->Option Key
 | .int i=>some (.inl i)
 | .str x=>if PyData.strOk x=true then some (.inr x) else none
 | _=>none
section
variable {α β γ:Type} {F G:α->β->Prop}
theorem uO (f:∀ a b,F a b->G a b):∀ {l:List α} {r:List β},Paired F l r->Paired G l r
 | _,_,.nil=>.nil
 | _,_,.cons h t=>.cons (f _ _ h) (uO f t)
theorem lV:∀ {l:List α} {r:List β} {i:Nat} {a:α},Paired F l r->l[i]?=some a->∃ b,r[i]?=some b/\F a b
 | _,_,_,_,.nil,e=>by simp at e
 | _,_,0,_,.cons h _,e=>by simp at e;subst e;exact ⟨_,rfl,h⟩
 | _,_,i+1,a,.cons _ t,e=>by
  obtain ⟨b,h1,h2⟩:=lV (i:=i) (a:=a) t (by simpa using e);exact ⟨b,by simpa using h1,h2⟩
theorem bD4 {a:α} {b:β} (h:F a b):∀ {l:List α} {r:List β} (i:Nat),Paired F l r->Paired F (l.set i a) (r.set i b)
 | _,_,_,.nil=>.nil
 | _,_,0,.cons _ t=>.cons h t
 | _,_,i+1,.cons q t=>.cons q (bD4 h i t)
theorem zH:∀ {l l':List α} {r r':List β},Paired F l r->Paired F l' r'->Paired F (l++l') (r++r')
 | _,_,_,_,.nil,s=>s
 | _,_,_,_,.cons h t,s=>.cons h (zH t s)
theorem aD2:∀ {l:List α} {r:List β} (n:Nat),Paired F l r->Paired F (l.take n) (r.take n)
 | _,_,0,_=>.nil
 | _,_,_+1,.nil=>.nil
 | _,_,n+1,.cons h t=>.cons h (aD2 n t)
theorem aD3:∀ {l:List α} {r:List β} (n:Nat),Paired F l r->Paired F (l.drop n) (r.drop n)
 | _,_,0,h=>h
 | _,_,_+1,.nil=>.nil
 | _,_,n+1,.cons _ t=>aD3 n t
def cK6 {l:List α} {r:List β} (h:Paired F l r):Paired F l.reverse r.reverse:=by
 induction h with
 | nil=>exact .nil
 | cons a _ ih=>rw [List.reverse_cons,List.reverse_cons];exact Paired.snoc ih a
theorem rW {f:γ->α}:∀ {l:List γ} {r:List β},Paired (fun a b=>F (f a) b) l r->Paired F (l.map f) r
 | _,_,.nil=>.nil
 | _,_,.cons h t=>.cons h (rW t)
theorem aZ9 {f:γ->α}:∀ {l:List γ} {r:List β},Paired F (l.map f) r->Paired (fun a b=>F (f a) b) l r
 | [],_,h=>by cases h;exact .nil
 | _::_,_,h=>by cases h with | cons h t=>exact .cons h (aZ9 t)
end
structure Sx where
 P:Program
 w:World
 K:PySem.W.Frag
 mg:Str->Option Value
 base:Heap
 os:OsState
 tb:Array Value
 tp:Addr
 hm:Bool
abbrev Zm:=Addr->Option Obj
structure Mp where
 Z:Zm
 m:List (Addr×Addr)
abbrev Kp:=Addr->Option (Bool×Obj)
def SqO (n:String) (o:Obj) (us:List Value):Prop:=(∃ k,o={ cls:=.type n,data:=.seq us.toArray k })/\us.length<=sizeLine
def DcO (S:Sx) (a:Addr) (o:Obj) (vs:List (Key×Value)):Prop:=(a==sysModules)=false/\vs.length<=sizeLine/\∀ h:Heap,h.get? a=some o->h.DictOf (cM S.P S.w) a vs
noncomputable def lW:List (PyData×PyData)->Option Str
 | [(.none,.str g)]=>some g
 | _=>none
def aP6 {kvs:List (PyData×PyData)} {g:Str} (e:lW kvs=some g):kvs=[(.none,.str g)]:=by
 unfold lW at e;split at e
 ·cases e;rfl
 ·cases e
mutual
noncomputable def Rep (S:Sx) (Z:Zm):PyData->Value->Prop
 | .none,u=>u=.none
 | .bool b,u=>u=.bool b
 | .int i,u=>∃ t,u=.int i t
 | .str x,u=>(∃ t,u=.str x t)/\PyData.strOk x=true
 | .list xs,u=>∃ a o us,u=.ref a/\Z a=some o/\SqO "list" o us/\Reps S Z xs us
 | .tuple xs,u=>∃ a o us,u=.ref a/\Z a=some o/\SqO "tuple" o us/\Reps S Z xs us
 | .dict kvs,u=>(∃ g a,lW kvs=some g/\u=.ref a/\S.mg g=some u)\/∃ a o vs,u=.ref a/\Z a=some o/\DcO S a o vs/\RepKs S Z kvs vs
noncomputable def Reps (S:Sx) (Z:Zm):List PyData->List Value->Prop
 | [],us=>us=[]
 | x::xs,us=>∃ u r,us=u::r/\Rep S Z x u/\Reps S Z xs r
noncomputable def RepKs (S:Sx) (Z:Zm):List (PyData×PyData)->List (Key×Value)->Prop
 | [],vs=>vs=[]
 | p::kvs,vs=>∃ q r,vs=q::r/\RepP S Z p q/\RepKs S Z kvs r
noncomputable def RepP (S:Sx) (Z:Zm):PyData×PyData->Key×Value->Prop
 | (k,x),q=>cQ k=some q.1/\Rep S Z x q.2
end
section
variable {S:Sx} {Z Z':Zm}
theorem reps_iff:∀ {xs:List PyData} {us:List Value},Reps S Z xs us ↔ Paired (Rep S Z) xs us
 | [],us=>by rw [Reps];exact ⟨fun e=>e ▸ .nil,fun h=>by cases h;rfl⟩
 | x::xs,us=>by
  rw [Reps];exact ⟨fun ⟨u,r,e,h,t⟩=>e ▸ .cons h (reps_iff.mp t),fun h=>by cases h with | cons h t=>exact ⟨_,_,rfl,h,reps_iff.mpr t⟩⟩
abbrev aP7 (S:Sx) (Z:Zm):List (PyData×PyData)->List (Key×Value)->Prop:=Paired fun p q=>cQ p.1=some q.1/\Rep S Z p.2 q.2
theorem repks_iff:∀ {xs:List (PyData×PyData)} {us:List (Key×Value)},RepKs S Z xs us ↔ aP7 S Z xs us
 | [],us=>by rw [RepKs];exact ⟨fun e=>e ▸ .nil,fun h=>by cases h;rfl⟩
 | (k,x)::xs,us=>by
  rw [RepKs];exact ⟨fun ⟨u,r,e,h,t⟩=>by rw [RepP] at h;exact e ▸ .cons h (repks_iff.mp t),fun h=>by cases h with | cons h t=>exact ⟨_,_,rfl,by rw [RepP];exact h,repks_iff.mpr t⟩⟩
def rep_l {xs:List PyData} {u:Value}:Rep S Z (.list xs) u ↔ ∃ a o us,u=.ref a/\Z a=some o/\SqO "list" o us/\Paired (Rep S Z) xs us:=by rw [Rep];simp only [reps_iff]
def rep_t {xs:List PyData} {u:Value}:Rep S Z (.tuple xs) u ↔ ∃ a o us,u=.ref a/\Z a=some o/\SqO "tuple" o us/\Paired (Rep S Z) xs us:=by rw [Rep];simp only [reps_iff]
def aP8 {xs:List (PyData×PyData)} {vs:List (Key×Value)} (r:aP7 S Z xs vs):lW xs=none:=by
 cases e:lW xs with
 | none=>rfl
 | some g=>rw [aP6 e] at r;cases r with | cons h _=>cases h.1
def bA0 {xs:List (PyData×PyData)} {u:Value} (hf:lW xs=none):Rep S Z (.dict xs) u ↔ ∃ a o vs,u=.ref a/\Z a=some o/\DcO S a o vs/\aP7 S Z xs vs:=by
 rw [Rep];simp only [repks_iff];exact ⟨fun h=>h.elim (fun ⟨g,_,e,_⟩=>by rw [hf] at e;cases e) id,.inr⟩
def bD5 {xs:List (PyData×PyData)} {u:Value} {g:Str} (hf:lW xs=some g):Rep S Z (.dict xs) u ↔ (∃ a,u=.ref a)/\S.mg g=some u:=by
 rw [Rep];simp only [repks_iff];refine ⟨fun h=>h.elim (fun ⟨g',a,e,e2,e3⟩=>?_) (fun ⟨a,o,vs,_,_,_,r⟩=>?_),fun ⟨⟨a,e⟩,h⟩=>.inl ⟨g,a,hf,e,h⟩⟩
 ·rw [hf] at e;cases e;exact ⟨⟨a,e2⟩,e3⟩
 ·rw [aP8 r] at hf;cases hf
def rep_n {u:Value}:Rep S Z .none u ↔ u=.none:=by rw [Rep]
def rep_b {b:Bool} {u:Value}:Rep S Z (.bool b) u ↔ u=.bool b:=by rw [Rep]
def rep_i {i:Int} {u:Value}:Rep S Z (.int i) u ↔ ∃ t,u=.int i t:=by rw [Rep]
def rep_s {x:Str} {u:Value}:Rep S Z (.str x) u ↔ (∃ t,u=.str x t)/\PyData.strOk x=true:=by rw [Rep]
mutual
theorem Rep.go (hs:∀ a o,Z a=some o->Z' a=some o):∀ {d:PyData} {v:Value},Rep S Z d v->Rep S Z' d v
 | .none,_,h=>by rw [Rep] at h ⊢;exact h
 | .bool _,_,h=>by rw [Rep] at h ⊢;exact h
 | .int _,_,h=>by rw [Rep] at h ⊢;exact h
 | .str _,_,h=>by rw [Rep] at h ⊢;exact h
 | .list xs,_,h=>by rw [Rep] at h ⊢;obtain ⟨a,o,us,e,z,q,r⟩:=h;exact ⟨a,o,us,e,hs _ _ z,q,Reps.go hs r⟩
 | .tuple xs,_,h=>by rw [Rep] at h ⊢;obtain ⟨a,o,us,e,z,q,r⟩:=h;exact ⟨a,o,us,e,hs _ _ z,q,Reps.go hs r⟩
 | .dict xs,_,h=>by rw [Rep] at h ⊢;exact h.elim .inl fun ⟨a,o,us,e,z,q,r⟩=>.inr ⟨a,o,us,e,hs _ _ z,q,RepKs.go hs r⟩
theorem Reps.go (hs:∀ a o,Z a=some o->Z' a=some o):∀ {ds:List PyData} {vs:List Value},Reps S Z ds vs->Reps S Z' ds vs
 | [],_,h=>by rw [Reps] at h ⊢;exact h
 | x::xs,_,h=>by rw [Reps] at h ⊢;obtain ⟨v,r,e,h1,h2⟩:=h;exact ⟨v,r,e,Rep.go hs h1,Reps.go hs h2⟩
theorem RepKs.go (hs:∀ a o,Z a=some o->Z' a=some o):∀ {ds:List (PyData×PyData)} {vs:List (Key×Value)},RepKs S Z ds vs->RepKs S Z' ds vs
 | [],_,h=>by rw [RepKs] at h ⊢;exact h
 | x::xs,_,h=>by rw [RepKs] at h ⊢;obtain ⟨v,r,e,h1,h2⟩:=h;exact ⟨v,r,e,RepP.go hs h1,RepKs.go hs h2⟩
theorem RepP.go (hs:∀ a o,Z a=some o->Z' a=some o):∀ {p:PyData×PyData} {q:Key×Value},RepP S Z p q->RepP S Z' p q
 | (k,x),q,h=>by rw [RepP] at h ⊢;exact ⟨h.1,Rep.go hs h.2⟩
end
end
def RepW (S:Sx) (M:Mp):W->Value->Prop
 | .d x,u=>Rep S M.Z x u
 | .c i,u=>∃ p,M.m[i]?=some p/\u=.ref p.1
abbrev Reps' (S:Sx) (M:Mp):List PyData->List Value->Prop:=Paired (Rep S M.Z)
abbrev RepWs (S:Sx) (M:Mp):List W->List Value->Prop:=Paired (RepW S M)
abbrev RepKW (S:Sx) (M:Mp):List (PyData×W)->List (Key×Value)->Prop:=Paired fun p q=>cQ p.1=some q.1/\RepW S M p.2 q.2
structure Le (M M':Mp):Prop where
 z:∀ a o,M.Z a=some o->M'.Z a=some o
 m:∃ n,M'.m=M.m++n
def Le.refl {M:Mp}:Le M M:=⟨fun _ _ e=>e,[],by simp⟩
def Le.trans {M N O:Mp} (a:Le M N) (b:Le N O):Le M O:=⟨fun x o e=>b.z x o (a.z x o e),let ⟨n,e⟩:=a.m;let ⟨k,q⟩:=b.m;⟨n++k,by rw [q,e,List.append_assoc]⟩⟩
def Le.at {M M':Mp} (l:Le M M') {i:Nat} {p:Addr×Addr} (e:M.m[i]?=some p):M'.m[i]?=some p:=by
 obtain ⟨n,q⟩:=l.m;rw [q,List.getElem?_append_left (List.getElem?_eq_some_iff.mp e).1,e]
section
variable {S:Sx} {M M':Mp}
def RepW.go (l:Le M M') {w:W} {u:Value} (r:RepW S M w u):RepW S M' w u:=by
 cases w with
 | d x=>exact Rep.go l.z r
 | c i=>obtain ⟨p,e,q⟩:=r;exact ⟨p,l.at e,q⟩
def RepWs.go (l:Le M M') {w:List W} {u:List Value} (r:RepWs S M w u):RepWs S M' w u:=uO (fun _ _ h=>h.go l) r
def Reps'.go (l:Le M M') {w:List PyData} {u:List Value} (r:Reps' S M w u):Reps' S M' w u:=uO (fun _ _ h=>Rep.go l.z h) r
def RepKW.go (l:Le M M') {w:List (PyData×W)} {u:List (Key×Value)} (r:RepKW S M w u):RepKW S M' w u:=uO (fun _ _ h=>⟨h.1,h.2.go l⟩) r
end
def RelO (S:Sx) (M:Mp):Option W->Option Value->Prop
 | some v,some u=>RepW S M v u
 | none,none=>True
 | _,_=>False
theorem RelO.go {S:Sx} {M M':Mp} (l:Le M M'):∀ {a:Option W} {b:Option Value},RelO S M a b->RelO S M' a b
 | some _,some _,h=>RepW.go l h
 | none,none,h=>h
 | some _,none,h=>h.elim
 | none,some _,h=>h.elim
end DL

namespace CI
open PySem
mutual
noncomputable def aM:Nat->PyData->Bool
 | _,.none=>true
 | _,.bool _=>true
 | _,.int _=>true
 | _,.str _=>true
 | n+1,.list xs=>plainsB n xs
 | n+1,.tuple xs=>plainsB n xs
 | _,_=>false
noncomputable def plainsB:Nat->List PyData->Bool
 | _,[]=>true
 | n,x::xs=>aM n x&&plainsB n xs
end
mutual
noncomputable def peq:PyData->PyData->Bool
 | .none,.none=>true
 | .bool a,.bool b=>a==b
 | .int a,.int b=>a==b
 | .str a,.str b=>a==b
 | .list a,.list b=>peqs a b
 | .tuple a,.tuple b=>peqs a b
 | _,_=>false
noncomputable def peqs:List PyData->List PyData->Bool
 | [],[]=>true
 | x::a,y::b=>peq x y&&peqs a b
 | _,_=>false
end
end CI
namespace DL
open PySem PySem.Spec PyProof.Rows L2 CI
section
variable {S:Sx}
mutual
theorem Rep.reads {Z:Zm} {hp:Heap} (k:∀ a o,Z a=some o->hp.get? a=some o):∀ {d:PyData} {u:Value} (n:Nat),Rep S Z d u->aM n d=true->(∃ as,Reads hp u d as)/\d.canLay0=true/\d.depth<=n
 | .none,_,n,h,_=>by rw [Rep] at h;subst h;exact ⟨⟨_,Reads.none⟩,by simp [PyData.canLay0,PyData.depth]⟩
 | .bool _,_,n,h,_=>by rw [Rep] at h;subst h;exact ⟨⟨_,Reads.bool _⟩,by simp [PyData.canLay0,PyData.depth]⟩
 | .int _,_,n,h,_=>by rw [Rep] at h;obtain ⟨t,rfl⟩:=h;exact ⟨⟨_,Reads.int _ _⟩,by simp [PyData.canLay0,PyData.depth]⟩
 | .str _,_,n,h,_=>by rw [Rep] at h;obtain ⟨⟨t,rfl⟩,z⟩:=h;exact ⟨⟨_,Reads.str _ _⟩,by simp [PyData.canLay0,PyData.depth,z]⟩
 | .list xs,_,0,_,p=>by cases p
 | .tuple xs,_,0,_,p=>by cases p
 | .list xs,_,n+1,h,p=>by
  rw [Rep] at h;obtain ⟨a,o,us,rfl,z,⟨⟨m,rfl⟩,_⟩,r⟩:=h;obtain ⟨⟨as,q⟩,c,l⟩:=Reps.reads k n r (show plainsB n xs=true from p);exact ⟨⟨_,Reads.list (k _ _ z) rfl rfl (by simpa using q)⟩,by simp [PyData.canLay0,PyData.depth,c,l]⟩
 | .tuple xs,_,n+1,h,p=>by
  rw [Rep] at h;obtain ⟨a,o,us,rfl,z,⟨⟨m,rfl⟩,_⟩,r⟩:=h;obtain ⟨⟨as,q⟩,c,l⟩:=Reps.reads k n r (show plainsB n xs=true from p);exact ⟨⟨_,Reads.tuple (k _ _ z) rfl rfl (by simpa using q)⟩,by simp [PyData.canLay0,PyData.depth,c,l]⟩
 | .dict _,_,n,_,p=>by cases n<;>cases p
theorem Reps.reads {Z:Zm} {hp:Heap} (k:∀ a o,Z a=some o->hp.get? a=some o):∀ {d:List PyData} {u:List Value} (n:Nat),Reps S Z d u->plainsB n d=true->(∃ as,ReadsAll hp u d as)/\PyData.canLayAll0 d=true/\PyData.depthAll d<=n
 | [],_,n,h,_=>by rw [Reps] at h;subst h;exact ⟨⟨_,ReadsAll.nil⟩,by simp [PyData.canLayAll0,PyData.depthAll]⟩
 | x::xs,_,n,h,p=>by
  rw [Reps] at h;obtain ⟨v,r,rfl,h1,h2⟩:=h
  replace p:(aM n x&&plainsB n xs)=true:=p
  rw [Bool.and_eq_true] at p;obtain ⟨⟨as,q1⟩,c1,l1⟩:=Rep.reads k n h1 p.1;obtain ⟨⟨bs,q2⟩,c2,l2⟩:=Reps.reads k n h2 p.2;refine ⟨⟨_,ReadsAll.cons q1 q2⟩,?_⟩;simp [PyData.canLayAll0,PyData.depthAll,c1,c2];omega
end
end
end DL

namespace DL
open PySem PySem.Spec PyProof.Rows L2
noncomputable def bR2:List (Pos×Str)->List Addr->List Value
 | q::qs,c::cs=>rawInt q.1.line::rawInt q.1.col::.ref c::bR2 qs cs
 | _,_=>[]
def bR3 (Z:Zm) (q:Pos×Str) (c:Addr):Prop:=∃ o vs t,Z c=some o/\o.data=.fields vs/\vs[1]?=some (.str q.2 t)
abbrev bQ (us:List Value) (n:Nat):Obj:={ cls:=.type "list",data:=.seq us.toArray n }
def CellOk (S:Sx) (M:Mp) (h:Heap) (p:Addr×Addr):Cell->Prop
 | .l xs=>∃ us n,h.get? p.1=some (bQ us n)/\us.length<=sizeLine/\Reps' S M xs us
 | .r is=>∃ us n,h.get? p.1=some (bQ us n)/\us.length<=sizeLine/\RepWs S M is us
 | .k kvs=>∃ vs,h.DictOf (cM S.P S.w) p.1 vs/\RepKW S M kvs vs/\(p.1==sysModules)=false/\vs.length<=sizeLine
 | .n _=>True
 | .t qs=>∃ cs,h.get? p.1=some { cls:=.none,data:=.fields (S.tb++(bR2 qs cs).toArray) }/\Paired (bR3 M.Z) qs cs/\p=(S.tp,S.tp)
 | .o C fs=>p.2≠p.1/\fs.length<=1000/\h.get? p.1=some (PySem.W.instObj C p.2)/\∃ mA,h.Ns1 p.2 mA/\(∀ f,RelO S M (fs.lookup f) (mA f))/\PySem.Within mA (fs.map (·.1))
def CellOk.go {S:Sx} {M M':Mp} {h h':Heap} {p:Addr×Addr} {c:Cell} (l:Le M M') (k:∀ a o,(a=p.1\/a=p.2)->h.get? a=some o->h'.get? a=some o) (x:CellOk S M h p c):CellOk S M' h' p c:=by
 cases c with
 | l xs=>obtain ⟨us,n,e,z,r⟩:=x;exact ⟨us,n,k _ _ (.inl rfl) e,z,r.go l⟩
 | r xs=>obtain ⟨us,n,e,z,r⟩:=x;exact ⟨us,n,k _ _ (.inl rfl) e,z,r.go l⟩
 | k xs=>obtain ⟨vs,⟨o,es,ep,e,q⟩,r,z⟩:=x;exact ⟨vs,⟨o,es,ep,k _ _ (.inl rfl) e,q⟩,r.go l,z⟩
 | t qs=>obtain ⟨cs,e,r,ep⟩:=x;exact ⟨cs,k _ _ (.inl rfl) e,uO (fun _ _ ⟨o,vs,t,a,b⟩=>⟨o,vs,t,l.z _ _ a,b⟩) r,ep⟩
 | n xs=>exact True.intro
 | o C fs=>obtain ⟨a,b,e,mA,⟨o,es,ep,e2,q⟩,r,z⟩:=x;exact ⟨a,b,k _ _ (.inl rfl) e,mA,⟨o,es,ep,k _ _ (.inr rfl) e2,q⟩,fun f=>(r f).go l,z⟩
def aU (κ:Kp) (M:Mp) (a:Addr):Prop:=M.Z a=none/\κ a=none/\∀ p∈M.m,p.1≠a/\p.2≠a
structure Mem (S:Sx) (κ:Kp) (M:Mp) (h:aA) (s:Shared):Prop where
 z:∀ a o,M.Z a=some o->s.heap.get? a=some o
 k:∀ a b o,κ a=some (b,o)->(b=true->s.heap.get? a=some o)/\(∃ sl,s.heap.get? a=some { o with slots:=sl })/\M.Z a=none
 len:M.m.length=h.length
 ap:∀ (i j:Nat) (p q:Addr×Addr),M.m[i]?=some p->M.m[j]?=some q->i≠j->p.1≠q.1/\p.1≠q.2/\p.2≠q.1/\p.2≠q.2
 off:∀ p∈M.m,∀ a,a=p.1\/a=p.2->M.Z a=none/\κ a=none/\∃ o,s.heap.get? a=some o
 cel:∀ (i:Nat) p c,M.m[i]?=some p->h[i]?=some c->CellOk S M s.heap p c
 base:∀ a o,S.base.get? a=some o->M.Z a=some o
 bare:AllBare s.gens
 os:s.os=S.os
section
variable {S:Sx} {κ:Kp} {M M':Mp} {h:aA} {s s':Shared} {h':Heap} {a:Addr} {o:Obj}
def Mem.bk (R:Mem S κ M h s):∀ b o,S.base.get? b=some o->s.heap.get? b=some o:=fun b o e=>R.z b o (R.base b o e)
def Mem.new (R:Mem S κ M h s) (e:s.heap.get? a=none):aU κ M a:=by
 refine ⟨?_,?_,fun p hp=>?_⟩
 ·cases q:M.Z a with
  | none=>rfl
  | some o=>rw [R.z a o q] at e;cases e
 ·cases q:κ a with
  | none=>rfl
  | some x=>obtain ⟨_,⟨_,z⟩,_⟩:=R.k a x.1 x.2 q;rw [z] at e;cases e
 ·refine ⟨fun z=>?_,fun z=>?_⟩
  ·obtain ⟨_,_,_,q⟩:=R.off p hp a (.inl z.symm);rw [q] at e;cases e
  ·obtain ⟨_,_,_,q⟩:=R.off p hp a (.inr z.symm);rw [q] at e;cases e
def Mem.size (R:Mem S κ M h s):aU κ M s.heap.objs.size:=R.new (Heap.get?_none_of_le (Nat.le_refl _))
def Mem.keep (R:Mem S κ M h s) (k:∀ b o,s.heap.get? b=some o->¬ aU κ M b->s'.heap.get? b=some o) (hg:AllBare s'.gens) (ho:s'.os=s.os):Mem S κ M h s' where
 z:=fun b o e=>k b o (R.z b o e) fun f=>by rw [f.1] at e;cases e
 k:=fun b t o e=>by
  have nf:¬ aU κ M b:=fun f=>by rw [f.2.1] at e;cases e
  obtain ⟨h1,⟨sl,h2⟩,h3⟩:=R.k b t o e;exact ⟨fun z=>k b o (h1 z) nf,⟨sl,k b _ h2 nf⟩,h3⟩
 len:=R.len
 ap:=R.ap
 off:=fun p hp b hb=>by
  obtain ⟨h1,h2,o,h3⟩:=R.off p hp b hb;exact ⟨h1,h2,o,k b o h3 fun f=>by rcases hb with e | e;exact (f.2.2 p hp).1 e.symm;exact (f.2.2 p hp).2 e.symm⟩
 cel:=fun i p c e1 e2=>(R.cel i p c e1 e2).go .refl fun b o hb q=>k b o q fun f=>by
  have hp:=List.mem_of_getElem? e1;rcases hb with e | e;exact (f.2.2 p hp).1 e.symm;exact (f.2.2 p hp).2 e.symm
 base:=R.base
 bare:=hg
 os:=ho.trans R.os
def Mem.kept {t:Nat} (R:Mem S κ M h s) (k:∀ b o,s.heap.get? b=some o->h'.get? b=some o):Mem S κ M h { s with heap:=h',toks:=t }:=R.keep (fun b o e _=>k b o e) R.bare rfl
def Mem.tok (R:Mem S κ M h s) (t:Nat):Mem S κ M h { s with toks:=t }:=R.kept (h':=s.heap) fun _ _ e=>e
noncomputable def Mp.add (M:Mp) (a:Addr) (o:Obj):Mp:=⟨fun b=>if b=a then some o else M.Z b,M.m⟩
def iT:(M.add a o).Z a=some o:=if_pos rfl
def Le.add (f:M.Z a=none):Le M (M.add a o):=⟨fun b u e=>by
 show (if b=a then some o else M.Z b)=some u;rw [if_neg (fun z=>by rw [z,f] at e;cases e)];exact e,[],by simp [Mp.add]⟩
def Mem.frz (R:Mem S κ M h s) (f:aU κ M a) (e:s.heap.get? a=some o):Mem S κ (M.add a o) h s where
 z:=fun b u q=>by
  by_cases hb:b=a
  ·subst hb;rw [iT] at q;cases q;exact e
  ·exact R.z b u (by rw [<- q];exact (if_neg hb).symm)
 k:=fun b t u q=>by
  obtain ⟨h1,h2,h3⟩:=R.k b t u q;refine ⟨h1,h2,?_⟩;show (if b=a then some o else M.Z b)=none;rw [if_neg (fun z=>by rw [z,f.2.1] at q;cases q)];exact h3
 len:=R.len
 ap:=R.ap
 off:=fun p hp b hb=>by
  obtain ⟨h1,h2,h3⟩:=R.off p hp b hb;refine ⟨?_,h2,h3⟩;show (if b=a then some o else M.Z b)=none;rw [if_neg (fun z=>by rcases hb with e | e;exact (f.2.2 p hp).1 (e.symm.trans z);exact (f.2.2 p hp).2 (e.symm.trans z))];exact h1
 cel:=fun i p c e1 e2=>(R.cel i p c e1 e2).go (.add f.1) fun _ _ _ q=>q
 base:=fun b u q=>(Le.add f.1).z b u (R.base b u q)
 bare:=R.bare
 os:=R.os
noncomputable def Mp.cel (M:Mp) (p:Addr×Addr):Mp:=⟨M.Z,M.m++[p]⟩
def Le.cel {p:Addr×Addr}:Le M (M.cel p):=⟨fun _ _ e=>e,[p],rfl⟩
def snoc_at {α:Type} {l:List α} {x y:α} {i:Nat} (e:(l++[x])[i]?=some y):l[i]?=some y\/(i=l.length/\y=x):=by
 by_cases hi:i < l.length
 ·rw [List.getElem?_append_left hi] at e;exact .inl e
 ·rw [List.getElem?_append_right (by omega)] at e;have:i - l.length=0:=by
   have:=(List.getElem?_eq_some_iff.mp e).1;simp at this;omega
  rw [this] at e;exact .inr ⟨by omega,by simpa using e.symm⟩
def Mem.add {p:Addr×Addr} {c:Cell} (R:Mem S κ M h s) (f:aU κ M p.1) (g:aU κ M p.2) (ep:(∃ o,s.heap.get? p.1=some o)/\∃ o,s.heap.get? p.2=some o) (x:CellOk S (M.cel p) s.heap p c):Mem S κ (M.cel p) (h++[c]) s where
 z:=R.z
 k:=R.k
 len:=by show (M.m++[p]).length=_;simp [R.len]
 ap:=fun i j q r e1 e2 ne=>by
  rcases snoc_at (show (M.m++[p])[i]?=some q from e1) with z1 | ⟨z1,y1⟩<;>rcases snoc_at (show (M.m++[p])[j]?=some r from e2) with z2 | ⟨z2,y2⟩
  ·exact R.ap i j q r z1 z2 ne
  ·have hq:=List.mem_of_getElem? z1;rw [y2];exact ⟨(f.2.2 q hq).1,(g.2.2 q hq).1,(f.2.2 q hq).2,(g.2.2 q hq).2⟩
  ·have hq:=List.mem_of_getElem? z2;rw [y1];exact ⟨(f.2.2 r hq).1.symm,(f.2.2 r hq).2.symm,(g.2.2 r hq).1.symm,(g.2.2 r hq).2.symm⟩
  ·omega
 off:=fun q hq b hb=>by
  rcases List.mem_append.mp (show q∈M.m++[p] from hq) with hq | hq
  ·exact R.off q hq b hb
  ·rw [List.mem_singleton.mp hq] at hb;rcases hb with e | e
   ·subst e;exact ⟨f.1,f.2.1,ep.1⟩
   ·subst e;exact ⟨g.1,g.2.1,ep.2⟩
 cel:=fun i q d e1 e2=>by
  rcases snoc_at (show (M.m++[p])[i]?=some q from e1) with e3 | ⟨e3,rfl⟩
  ·rw [List.getElem?_append_left (by rw [<- R.len];exact (List.getElem?_eq_some_iff.mp e3).1)] at e2;exact (R.cel i q d e3 e2).go .cel fun _ _ _ q=>q
  ·rcases snoc_at e2 with e2 | ⟨e2,rfl⟩
   ·have:=(List.getElem?_eq_some_iff.mp e2).1;rw [<- R.len] at this;omega
   ·exact x
 base:=R.base
 bare:=R.bare
 os:=R.os
def Mem.wr {i:Nat} {p:Addr×Addr} {c:Cell} (R:Mem S κ M h s) (ei:M.m[i]?=some p) (k:∀ b o,b≠p.1->b≠p.2->s.heap.get? b=some o->s'.heap.get? b=some o) (ep:(∃ o,s'.heap.get? p.1=some o)/\∃ o,s'.heap.get? p.2=some o)
  (hg:AllBare s'.gens) (ho:s'.os=s.os) (x:CellOk S M s'.heap p c):Mem S κ M (h.set i c) s':=by
 have hp:=List.mem_of_getElem? ei;have o1:=R.off p hp p.1 (.inl rfl);have o2:=R.off p hp p.2 (.inr rfl);refine ⟨fun b u e=>k b u (fun z=>?_) (fun z=>?_) (R.z b u e),fun b t u e=>?_,by rw [List.length_set];exact R.len,R.ap,fun q hq b hb=>?_,fun j q d e1 e2=>?_,R.base,hg,ho.trans R.os⟩
 ·rw [z,o1.1] at e;cases e
 ·rw [z,o2.1] at e;cases e
 ·obtain ⟨h1,⟨sl,h2⟩,h3⟩:=R.k b t u e;have n1:b≠p.1:=fun z=>by rw [z,o1.2.1] at e;cases e
  have n2:b≠p.2:=fun z=>by rw [z,o2.2.1] at e;cases e
  exact ⟨fun z=>k b u n1 n2 (h1 z),⟨sl,k b _ n1 n2 h2⟩,h3⟩
 ·obtain ⟨h1,h2,u,h3⟩:=R.off q hq b hb;refine ⟨h1,h2,?_⟩
  by_cases z1:b=p.1
  ·rw [z1];exact ep.1
  by_cases z2:b=p.2
  ·rw [z2];exact ep.2
  exact ⟨u,k b u z1 z2 h3⟩
 ·by_cases ij:i=j
  ·subst ij;rw [ei] at e1;cases e1;rw [List.getElem?_set_self (by rw [<- R.len];exact (List.getElem?_eq_some_iff.mp ei).1)] at e2;cases e2;exact x
  ·rw [List.getElem?_set_ne ij] at e2;obtain ⟨a1,a2,a3,a4⟩:=R.ap i j p q ei e1 ij;refine (R.cel j q d e1 e2).go .refl fun b u hb e=>k b u ?_ ?_ e
   ·rcases hb with z | z;exact fun y=>a1 (y.symm.trans z);exact fun y=>a2 (y.symm.trans z)
   ·rcases hb with z | z;exact fun y=>a3 (y.symm.trans z);exact fun y=>a4 (y.symm.trans z)
def Mem.less {κ':Kp} (R:Mem S κ' M h s) (k:∀ a x,κ a=some x->κ' a=some x):Mem S κ M h s :=
 ⟨R.z,fun a b o e=>R.k a b o (k a _ e),R.len,R.ap,fun p hp a ha=>(by
  obtain ⟨h1,h2,h3⟩:=R.off p hp a ha;refine ⟨h1,?_,h3⟩;cases q:κ a with
  | none=>rfl
  | some x=>rw [k a x q] at h2;cases h2),R.cel,R.base,R.bare,R.os⟩
noncomputable def Kp.up (κ:Kp) (a:Addr) (x:Bool×Obj):Kp:=fun b=>if b=a then some x else κ b
def eZ {x:Bool×Obj}:κ.up a x a=some x:=if_pos rfl
def cC {x:Bool×Obj} {b:Addr} (h:b≠a):κ.up a x b=κ b:=if_neg h
def Mem.more {b:Bool} (R:Mem S κ M h s) (f:M.Z a=none/\∀ p∈M.m,p.1≠a/\p.2≠a) (e:s.heap.get? a=some o):Mem S (κ.up a (b,o)) M h s :=
 ⟨R.z,fun c t u q=>by
  by_cases hc:c=a
  ·subst hc;rw [eZ] at q;cases q;exact ⟨fun _=>e,⟨_,e⟩,f.1⟩
  ·rw [cC hc] at q;exact R.k c t u q,R.len,R.ap,fun p hp c hc=>(by
  obtain ⟨h1,h2,h3⟩:=R.off p hp c hc;refine ⟨h1,?_,h3⟩;rw [cC fun z=>?_];exact h2;rcases hc with q | q;exact (f.2 p hp).1 (q.symm.trans z);exact (f.2 p hp).2 (q.symm.trans z)),R.cel,R.base,R.bare,R.os⟩
def Mem.kc {x:Bool×Obj} (R:Mem S κ M h s) (ea:κ a=some x):∀ p∈M.m,p.1≠a/\p.2≠a:=fun p hp =>
 have t:∀ b,b=p.1\/b=p.2->b≠a:=fun b hb z=>by
  have:=(R.off p hp b hb).2.1;rw [z,ea] at this;cases this
 ⟨t _ (.inl rfl),t _ (.inr rfl)⟩
def Mem.own {x:Bool×Obj} {b:Bool} (R:Mem S κ M h s) (ea:κ a=some x) (k:∀ b o,b≠a->s.heap.get? b=some o->s'.heap.get? b=some o) (e:s'.heap.get? a=some o) (hg:AllBare s'.gens) (ho:s'.os=s.os):Mem S (κ.up a (b,o)) M h s':=by
 have za:=(R.k a x.1 x.2 ea).2.2;have ca:∀ p∈M.m,p.1≠a/\p.2≠a:=R.kc ea;refine ⟨fun c u q=>k c u (fun z=>by rw [z,za] at q;cases q) (R.z c u q),fun c t u q=>?_,R.len,R.ap,fun p hp c hc=>?_,fun i p d e1 e2=>?_,R.base,hg,ho.trans R.os⟩
 ·by_cases hc:c=a
  ·subst hc;rw [eZ] at q;cases q;exact ⟨fun _=>e,⟨_,e⟩,za⟩
  ·rw [cC hc] at q;obtain ⟨h1,⟨sl,h2⟩,h3⟩:=R.k c t u q;exact ⟨fun z=>k c u hc (h1 z),⟨sl,k c _ hc h2⟩,h3⟩
 ·obtain ⟨h1,h2,u,h3⟩:=R.off p hp c hc;have hca:c≠a:=by rcases hc with q | q;exact q ▸ (ca p hp).1;exact q ▸ (ca p hp).2
  exact ⟨h1,by rw [cC hca];exact h2,u,k c u hca h3⟩
 ·have hp:=List.mem_of_getElem? e1;refine (R.cel i p d e1 e2).go .refl fun c u hc q=>k c u ?_ q;rcases hc with q | q;exact q ▸ (ca p hp).1;exact q ▸ (ca p hp).2
end
end DL

namespace HT
open PySem PyProof.Rows

section
open PySem.SeqAt
open PySem.AutoSeq1 (wpAny_loadPart')
open PySem.MeetsSeq PySem.MeetsSeq2 PySem.MeetsSeq3

end

section
variable {prog:Program} {w:World} {A:Around} {E:Value->Shared->Prop} {s:Shared}

def cat_tup {t b:Addr} {vs ws:List Value} {Q:Value->Shared->Prop} (ht:IsTup s.heap t vs.toArray) (hb:IsTup s.heap b ws.toArray) (hv:vs≠[])
  (h1:ws=[]->Q (.ref t) s) (h2:ws≠[]->Q (.ref s.heap.objs.size) { s with heap:=s.heap.push { cls:=.type "tuple",data:=.seq (vs++ws).toArray } })
  (hsz:vs.length+ws.length<=sizeLine):wpAny (model prog w) A (binaryOp .Add (.ref t) (.ref b)) Q E s:=by
 obtain ⟨⟨cls,dd,data,sl⟩,ho,hc,n,hd⟩:=id ht;obtain ⟨⟨cls2,dd2,data2,sl2⟩,ho2,hc2,n2,hd2⟩:=id hb;simp only at hc hd hc2 hd2;subst hc hd hc2 hd2;have e:vs.toArray++ws.toArray=(vs++ws).toArray:=by simp
 by_cases hw:ws=[]
 ·exact concat_meets ⟨_,ho,rfl⟩ ⟨_,ho2,rfl⟩ noFill_tuple_add seq_tuple_add PySem.F.slot_tuple_add PySem.F.entry_tuple_add (PySem.F.args_tuple_add_2 _ _)
   (tuple_addW1 t b vs.toArray ws.toArray n n2 dd dd2 sl sl2 (by simpa using hv) (by simp [hw])) ⟨ho,ho2,h1 hw⟩
 ·refine concat_meets ⟨_,ho,rfl⟩ ⟨_,ho2,rfl⟩ noFill_tuple_add seq_tuple_add PySem.F.slot_tuple_add PySem.F.entry_tuple_add (PySem.F.args_tuple_add_2 _ _)
   (tuple_addW2 t b vs.toArray ws.toArray n n2 dd dd2 sl sl2 (by simpa using hv) (by simpa using hw) (by rw [List.size_toArray,List.size_toArray];exact hsz)) ⟨ho,ho2,?_⟩
  rw [e];exact h2 hw

noncomputable def sIx (n d:Nat):Option Int->Nat
 | none=>d
 | some v=>if v < 0 then (v+(n:Int)).toNat else min v.toNat n
def bD6 (n d:Nat) (hd:d<=n) (o:Option Int):sIx n d o<=n:=by
 cases o with
 | none=>exact hd
 | some v =>
  show (if v < 0 then (v+(n:Int)).toNat else min v.toNat n)<=n
  by_cases hv:v < 0
  ·rw [if_pos hv];omega
  ·rw [if_neg hv];exact Nat.min_le_right _ _
def wY (v:Int) (n d:Nat):(if v < 0 then max (v+(n:Int)) 0 else min v (n:Int))=((sIx n d (some v):Nat):Int):=by
 show (if v < 0 then max (v+(n:Int)) 0 else min v (n:Int))=(((if v < 0 then (v+(n:Int)).toNat else min v.toNat n):Nat):Int)
 by_cases hv:v < 0
 ·simp only [if_pos hv];omega
 ·simp only [if_neg hv];omega
def uP (lo hi:Option Int) (n:Nat):Builtin.Slice.sliceAdjust lo hi 1 (n:Int)=(((sIx n 0 lo:Nat):Int),((sIx n n hi:Nat):Int)):=by
 have h1:¬ ((1:Int) < 0):=by omega
 unfold Builtin.Slice.sliceAdjust;simp only [h1,if_false];refine Prod.ext ?_ ?_
 ·cases lo with
  | none=>rfl
  | some v=>exact wY v n 0
 ·cases hi with
  | none=>rfl
  | some v=>exact wY v n n
def uQ (i j:Nat):Builtin.Slice.slicePlaces (i:Int) (j:Int) 1=j - i:=by
 unfold Builtin.Slice.slicePlaces;have h1:(1:Int) > 0:=by omega
 simp only [h1,if_true,Int.ediv_one];split<;>omega
def lX {v:Value} {o:Option Int} {Q:Option Int->Shared->Prop} (p:IsPart v o) (h:Q o s):wpAny (model prog w) A (Builtin.Slice.slicePartIndex v) Q E s:=by
 cases p with
 | none=>exact slicePart_none h
 | int i t=>exact slicePart_int h
def sliceApplied_gen {sl:Addr} {vl vu:Value} {lo hi:Option Int} {n:Nat} {Q:Int×Int×Nat->Shared->Prop} (hs:s.heap.IsSliceOf sl vl vu .none) (pl:IsPart vl lo) (pu:IsPart vu hi)
  (h:Q (((sIx n 0 lo:Nat):Int),1,sIx n n hi - sIx n 0 lo) s):wpAny (model prog w) A (Builtin.Slice.sliceApplied (.ref sl) (pure (n:Int))) Q E s:=by
 obtain ⟨os,hos,hcs,hds⟩:=id hs;unfold Builtin.Slice.sliceApplied Builtin.Slice.sliceFields;refine wpAny_bind (wpAny_bind (wpAny_field hos hds (x:=vl) rfl (wpAny_bind (wpAny_field hos hds (x:=vu) rfl (wpAny_bind (wpAny_field hos hds (x:=.none) rfl (wpAny_pure ?_)))))));refine wpAny_bind (slicePart_none ?_);show wpAny _ _ (if ((1:Int)==0)=true then _ else _) _ _ s;rw [if_neg (by decide)];refine wpAny_bind (lX pl (wpAny_bind (lX pu (wpAny_bind (wpAny_pure ?_)))));show wpAny _ _ (match Builtin.Slice.sliceAdjust lo hi 1 (n:Int) with | (lo,hi)=>pure (lo,(1:Int),Builtin.Slice.slicePlaces lo hi 1)) _ _ s;rw [uP lo hi n];show wpAny _ _ (pure (((sIx n 0 lo:Nat):Int),(1:Int),Builtin.Slice.slicePlaces ((sIx n 0 lo:Nat):Int) ((sIx n n hi:Nat):Int) 1)) _ _ s;rw [uQ];exact wpAny_pure h
def aD4 (xs:Array Value) (i k:Nat):((List.range k).filterMap fun (m:Nat)=>xs[((i:Int)+(m:Int)*1).toNat]?).toArray=((xs.toList.drop i).take k).toArray:=by
 have e:(fun (m:Nat)=>xs[((i:Int)+(m:Int)*1).toNat]?)=fun m=>xs[i+m]?:=by
  funext m
  have:((i:Int)+(m:Int)*1).toNat=i+m:=by omega
  rw [this]
 rw [e];have:=pick_run xs i k;rw [List.filterMap_map] at this;have e2:((fun x=>xs[x]?) ∘ fun x=>i+x)=fun m=>xs[i+m]?:=rfl;rw [e2] at this;rw [this]

def getItem_tuple_cut {t sl:Addr} {items:Array Value} {vl vu:Value} {lo hi:Option Int} {Q:Value->Shared->Prop} (ht:IsTup s.heap t items) (hs:s.heap.IsSliceOf sl vl vu .none) (pl:IsPart vl lo) (pu:IsPart vu hi)
  (hw:¬ (sIx items.size 0 lo=0/\sIx items.size items.size hi=items.size))
  (h:Q (.ref s.heap.objs.size) { s with heap:=s.heap.push { cls:=.type "tuple",data:=.seq ((items.toList.drop (sIx items.size 0 lo)).take (sIx items.size items.size hi - sIx items.size 0 lo)).toArray } })
  (hsz:items.size<=sizeLine):wpAny (model prog w) A (getItem (.ref t) (.ref sl)) Q E s:=by
 have htake:sizeOk (.seq ((items.toList.drop (sIx items.size 0 lo)).take (sIx items.size items.size hi - sIx items.size 0 lo)).toArray):=by
  show ((items.toList.drop (sIx items.size 0 lo)).take (sIx items.size items.size hi - sIx items.size 0 lo)).toArray.size<=sizeLine;rw [List.size_toArray,List.length_take,List.length_drop,Array.length_toList];omega
 have hj:sIx items.size items.size hi<=items.size:=bD6 _ _ (Nat.le_refl _) hi;obtain ⟨os,hos,hcs,hds⟩:=id hs;have hTs:s.TypeIs (.ref sl) "slice":=⟨os,hos,hcs⟩;unfold getItem;try with_reducible refine wpAny_holding ?_
 first | refine wpAny_bind (wpAny_pure ?_) | skip
 refine wpAny_bind (wpAny_sequenceKey ht.typeIs (by decide) ?_);refine wpAny_bind (wpAny_callSpecial?_slot (name:=Str.ofString "__getitem__") ht.typeIs PyProof.Rows.slot_tuple_getitem
  (wpAny_call_entry PyProof.Rows.slot_tuple_getitem ht.typeIs entry_tuple_getitem ?_ (args_tuple_getitem _ _)))
 show wpAny _ _ (Builtin.Tuple.tupleItemsOf (.ref t) >>= _) _ _ s;refine wpAny_bind (tupleItemsOf_ ht ?_);refine wpAny_bind (wpAny_typeOf hTs ?_);rw [if_pos (by decide)];refine wpAny_bind (sliceApplied_gen hs pl pu ?_);have hno:¬ ((((sIx items.size 0 lo:Nat):Int)==0&&(1:Int)==1&&(sIx items.size items.size hi - sIx items.size 0 lo)==items.size)=true):=by
  intro q;rw [Bool.and_eq_true,Bool.and_eq_true] at q;have q1:((sIx items.size 0 lo:Nat):Int)=0:=eq_of_beq q.1.1;have q2:sIx items.size items.size hi - sIx items.size 0 lo=items.size:=eq_of_beq q.2;exact hw ⟨by omega,by omega⟩
 show wpAny _ _ (if (((sIx items.size 0 lo:Nat):Int)==0&&(1:Int)==1&&(sIx items.size items.size hi - sIx items.size 0 lo)==items.size)=true then _ else _) _ _ s;rw [if_neg hno,aD4]
 first
  | exact wpAny_bind (m:=Builtin.Tuple.tupleExact _) (wpAny_newObj_type (wpAny_pure ⟨_,rfl,wpAny_pure h⟩) htake)
  | exact wpAny_bind (m:=Builtin.Tuple.tupleExact _) (wpAny_newObj_type (wpAny_bind (wpAny_pure (wpAny_pure ⟨_,rfl,wpAny_pure h⟩))) htake)
  | exact wpAny_bind (wpAny_bind (m:=Builtin.Tuple.tupleExact _) (wpAny_newObj_type (wpAny_pure (wpAny_pure ⟨_,rfl,wpAny_pure h⟩)) htake))
  | exact wpAny_bind (wpAny_bind (m:=Builtin.Tuple.tupleExact _) (wpAny_newObj_type (wpAny_pure ⟨_,rfl,wpAny_pure h⟩) htake))
end
end HT

namespace L2
open PySem
noncomputable def dN (s:Stmt):Arguments:=match s with
 | .FunctionDef _ a _ _ _ _ _ _ _ _=>a
 | _=>{ posonlyargs:=[],args:=[],vararg:=none,kwonlyargs:=[],kw_defaults:=[],kwarg:=none,defaults:=[] }
noncomputable def aV (s:Stmt):List Stmt:=match s with
 | .FunctionDef _ _ b _ _ _ _ _ _ _=>b
 | _=>[]
noncomputable def defScope (s:Stmt):Scope:=match s with
 | .FunctionDef _ _ _ _ _ _ sc _ _ _=>sc
 | _=>{ kind:=.module,names:=[],isGenerator:=false,isCoroutine:=false,more:=[] }
noncomputable def ixN (n:Nat) (i:Int):Option Nat:=if 0<=i then (if i < n then some i.toNat else none) else if -(n:Int)<=i then some (i+n).toNat else none
def atI {α:Type} (xs:List α) (i:Int):Option α:=(ixN xs.length i).bind fun j=>xs[j]?
end L2
namespace ST
open PySem PyProof.Rows
noncomputable def dd (ns:List Int):List Int:=ns.foldl step_dedup []
noncomputable def srt (ns:List Int):List Int:=ns.mergeSort fun a b=>decide (a<=b)
end ST
namespace DL
open PySem PySem.Spec PyProof.Rows L2
noncomputable def ref (h:aA):W->Option PyData
 | .d x=>some x
 | .c i=>match h[i]? with
  | some (.l xs)=>some (.list xs)
  | _=>none
noncomputable def aD5:W->List Nat
 | .c i=>[i]
 | _=>[]
def cRefs:Cell->List Nat
 | .o _ fs=>(fs.map fun p=>aD5 p.2).flatten
 | .k kvs=>(kvs.map fun p=>aD5 p.2).flatten
 | .r is=>(is.map aD5).flatten
 | _=>[]
def okP (h h1:aA):Prop:=∀ (i:Nat) (c:Cell),i < h.length->h1[i]?=some c->(∀ j∈cRefs c,j < h.length)\/h[i]?=some c
noncomputable def isSame:PyData->PyData->Option Bool
 | .none,.none=>some true
 | .bool a,.bool b=>some (a==b)
 | .none,.bool _=>some false
 | .bool _,.none=>some false
 | .int _,.none=>some false
 | .int _,.bool _=>some false
 | .str _,.none=>some false
 | .str _,.bool _=>some false
 | .list _,.none=>some false
 | .list _,.bool _=>some false
 | .tuple _,.none=>some false
 | .tuple _,.bool _=>some false
 | _,_=>none
noncomputable def cT:List PyData->Option (List Bool)
 | []=>some []
 | .bool b::r=>(cT r).map (b::·)
 | _::_=>none
noncomputable def fS:PyData->String
 | .none=>"NoneType"
 | .bool _=>"bool"
 | .int _=>"int"
 | .str _=>"str"
 | .list _=>"list"
 | .tuple _=>"tuple"
 | .dict _=>"dict"
def noD:PyData->Bool
 | .dict kvs=>(lW kvs).isNone
 | _=>true
def isi (d:PyData) (T:String):Bool:=fS d==T||(fS d=="bool"&&T=="int")
def lY {α:Type} (kvs:List (PyData×α)) (k:PyData) (v:α):List (PyData×α) :=
 if (kvs.any fun p=>decide (cQ p.1=cQ k))=true then kvs.map (fun p=>if cQ p.1=cQ k then (p.1,v) else p) else kvs++[(k,v)]
noncomputable def cK7:PyData->Bool
 | .tuple _=>true
 | _=>false
def cut (xs:List PyData) (lo hi:Option Int):List PyData:=(xs.drop (HT.sIx xs.length 0 lo)).take (HT.sIx xs.length xs.length hi - HT.sIx xs.length 0 lo)
noncomputable def cD (ixs:List (Option Nat)) (δ:DSt):DSt:=ixs.map fun o=>o.bind fun i=>(δ[i]?).bind id
noncomputable def cN (N:List Str) (ws:List W):DSt:=ws.map some++List.replicate (N.length - ws.length) none
noncomputable def rng (lo:Int) (n:Nat):List PyData:=(List.range n).map fun (i:Nat)=>.int (lo+(i:Int))
noncomputable def lZ:W->Option (List PyData)
 | .d (.list xs)=>some xs
 | .d (.tuple xs)=>some xs
 | _=>none
noncomputable def jW (xs ys:List PyData):List PyData:=List.zipWith (fun x y=>.tuple [x,y]) xs ys
noncomputable def hX (k:Nat):List PyData->List PyData
 | []=>[]
 | x::r=>.tuple [.int k,x]::hX (k+1) r
def bK (xs:List PyData):List PyData:=hX 0 xs
noncomputable def bZ:List PyData->Option (List Int)
 | []=>some []
 | .int i::r=>(bZ r).map (i::·)
 | _=>none
noncomputable def cO:List W->Option (List PyData)
 | []=>some []
 | .d x::r=>(cO r).map (x::·)
 | _::_=>none
end DL

namespace DL
open PySem PySem.Spec PyProof.Rows L2
def HkA (A:Around) (h:Heap):Prop:=A.handled=none\/∃ b ob ws,A.handled=some (.ref b)/\h.get? b=some ob/\ob.data=.fields ws/\ws[2]?=some .none
def HkA.keepN {A A':Around} {h h':Heap} (H:HkA A h) (e:A'.handled=A.handled) {it:Addr} {oi:Obj} (hi:h.get? it=some oi) (hn:∀ ws,oi.data=.fields ws->ws[2]?≠some .none) (k:∀ b o,b≠it->h.get? b=some o->h'.get? b=some o):HkA A' h':=by
 rcases H with H | ⟨b,ob,ws,h1,h2,h3,h4⟩
 ·exact .inl (e.trans H)
 ·refine .inr ⟨b,ob,ws,e.trans h1,k b ob (fun z=>?_) h2,h3,h4⟩;subst z;rw [hi] at h2;cases h2;exact hn ws h3 h4
def HkA.keep {A A':Around} {h h':Heap} (H:HkA A h) (e:A'.handled=A.handled) {it:Addr} {oi:Obj} {vi:Array Value} (hi:h.get? it=some oi) (hd:oi.data=.fields vi) (hs:vi.size<=2) (k:∀ b o,b≠it->h.get? b=some o->h'.get? b=some o):HkA A' h' :=
 H.keepN e hi (fun ws h3 h4=>by
  rw [hd] at h3;cases h3;have:=(Array.getElem?_eq_some_iff.mp h4).1;omega) k
def HkA.up {A:Around} {h h':Heap} (H:HkA A h) (k:∀ b o,h.get? b=some o->h'.get? b=some o):HkA A h' :=
 H.imp id fun ⟨b,ob,ws,h1,h2,h3⟩=>⟨b,ob,ws,h1,k _ _ h2,h3⟩
def oO:entryFor table "proto.unchain"=some Builtin.«proto.unchain»:=entryFor_of_fast (by kernel_rfl)
section
variable {prog:Program} {w:World} {A:Around} {E:Value->Shared->Prop} {s:Shared}
def rX {α:Type} {a:Addr} {o:Obj} {vs:Array Value} {Q:α->Shared->Prop} {h0:Heap} (H:HkA A h0) (k0:∀ b o,A.handled=some (.ref b)->h0.get? b=some o->b≠a/\s.heap.get? b=some o) (ha:s.heap.get? a=some o) (had:o.data=.fields vs) (hz:2 < vs.size)
  (h:∀ h',(∀ x u,x≠a->s.heap.get? x=some u->h'.get? x=some u)->(∀ vs',(vs'=vs\/∃ b,A.handled=some (.ref b)/\vs'=vs.setIfInBounds 2 (.ref b))->∀ ob,ob={ o with data:=.fields vs' }->h'.get? a=some ob->E (.ref a) { s with heap:=h' })):wpAny (model prog w) A (raiseNew (α:=α) (.ref a)) Q E s:=by
 unfold raiseNew;refine wpAny_bind (wpAny_handled ?_);rcases H with H | ⟨b,ob,ws,h1,h2,h3,h4⟩
 ·rw [H];exact wpAny_throw (h s.heap (fun _ _ _ e=>e) vs (.inl rfl) o (by rw [<- had]) ha)
 ·obtain ⟨ne,hb⟩:=k0 b ob h1 h2;rw [h1];dsimp only;have e1:((Value.ref b) != (Value.ref a))=true:=by simp [ne]
  rw [e1];refine wpAny_bind (wpAny_holding (wpAny_runValue (codeAny_builtin oO ?_)));unfold Builtin.«proto.unchain»;refine wpAny_bind (wpAny_field hb h3 h4 ?_);rw [if_pos (by decide)];refine wpAny_pure ?_;refine wpAny_bind ?_;unfold updateField;refine wpAny_bind (wpAny_load ha ?_);rw [had];dsimp only;rw [if_pos hz];refine wpAny_update ha (wpAny_throw (h _ (fun x u hx e=>(Heap.get?_update_other _ _ (Ne.symm hx)).trans e) _ (.inr ⟨b,h1,rfl⟩) _ rfl ?_));have:=Heap.get?_update_self (Obj.mapFields (·.setIfInBounds 2 (.ref b))) ha (Obj.isFreed_of_fields (Obj.data_mapFields had _));rw [this];obtain ⟨c1,d1,dt,sl⟩:=o;cases had;rfl
def wZ {α:Type} {it:Addr} {oi:Obj} {vi:Array Value} {Q:α->Shared->Prop} {h0:Heap} (H:HkA A h0) (hi:h0.get? it=some oi) (hd:oi.data=.fields vi) (hs:vi.size<=2) (k:∀ b o,b≠it->h0.get? b=some o->s.heap.get? b=some o)
  (hE:∀ h' e,Heap.ExtBut it h0 h'->(∃ o,h'.get? e=some o/\o.cls=.type "StopIteration")->E (.ref e) { s with heap:=h' }):wpAny (model prog w) A (newExc (.type "StopIteration") [] >>= fun e=>raiseNew (α:=α) e) Q E s:=by
 refine wpAny_bind ?_;simp only [newExc,newTuple];refine wpAny_bind (wpAny_newObj_type ?_ (by size_fits));refine wpAny_bind (m:=firstArgMember _ _) (wpAny_of_eq (a:=Value.none) (by first | rfl | (simp only [firstArgMember];rfl)) ?_);refine wpAny_newObj_type ?_ (by size_fits);refine rX (H.keep rfl hi hd hs k) (fun b o _ e=>⟨Nat.ne_of_lt (Heap.lt_size (Heap.get?_push_of_some _ e)),Heap.get?_push_of_some _ (Heap.get?_push_of_some _ e)⟩) (Heap.get?_push_size _ rfl) rfl (by rw [Array.size_append];exact Nat.lt_of_lt_of_le (by decide:2 < 6) (Nat.le_add_right _ _)) fun h' kk vs' _ ob eo ho=>?_;refine hE h' _ (fun b o hb e=>kk b o (Nat.ne_of_lt (Heap.lt_size (Heap.get?_push_of_some _ (k b o hb e)))) (Heap.get?_push_of_some _ (Heap.get?_push_of_some _ (k b o hb e)))) ⟨ob,ho,by rw [eo]⟩
def aD6 {it l:Addr} {i:Nat} {items:Array Value} {Q:Fin->Shared->Prop} (H:HkA A s.heap) (hit:s.heap.IsListIter it l i) (hl:s.heap.IsList l items) (hx:items[i]?=none)
  (hE:∀ h' e,Heap.ExtBut it s.heap h'->(∃ o,h'.get? e=some o/\o.cls=.type "StopIteration")->E (.ref e) { s with heap:=h' }):wpAny (model prog w) A (Builtin.«list_iterator.__next__» ⟨[.ref it],[]⟩) Q E s:=by
 obtain ⟨oi,hoi,hci,hdi⟩:=id hit;obtain ⟨ol,hol,_,nl,hdl⟩:=hl;show wpAny _ _ (field (.ref it) 0 >>= _) _ _ s;refine wpAny_bind (wpAny_field hoi hdi (x:=.ref l) rfl ?_);show wpAny _ _ (if (Value.ref l==Value.none)=true then _ else _) _ _ s;rw [if_neg (show ¬ ((Value.ref l==Value.none)=true) from Bool.false_ne_true)];show wpAny _ _ (field (.ref it) 1 >>= _) _ _ s;refine wpAny_bind (wpAny_field hoi hdi (x:=.int i 0) rfl ?_);show wpAny _ _ (seqItems? (.ref l) >>= _) _ _ s;refine wpAny_bind (wpAny_seqItems hol hdl ?_);simp only [Int.toNat_natCast,hx];refine wpAny_bind (wpAny_rule (wpAny_bind (wpAny_setField hoi hdi (by simp) ?_)));exact wZ H hoi hdi (by simp) (fun b o hb e=>(Heap.get?_update_other _ _ (Ne.symm hb)).trans e) hE
def aD7 {it l:Addr} {i:Nat} {items:Array Value} {Q:Fin->Shared->Prop} (H:HkA A s.heap) (hit:s.heap.IsTupleIter it l i) (hl:s.heap.IsTuple l items) (hx:items[i]?=none)
  (hE:∀ h' e,Heap.ExtBut it s.heap h'->(∃ o,h'.get? e=some o/\o.cls=.type "StopIteration")->E (.ref e) { s with heap:=h' }):wpAny (model prog w) A (Builtin.«tuple_iterator.__next__» ⟨[.ref it],[]⟩) Q E s:=by
 obtain ⟨o,ho,hc,hd⟩:=id hit;obtain ⟨ol,hol,hlc,nl,hdl⟩:=hl;refine wpAny_bind (wpAny_pure (a:=(Value.ref it,[])) ?_);refine wpAny_bind (wpAny_field ho hd rfl ?_);rw [if_neg (by exact Bool.false_ne_true)];refine wpAny_bind (wpAny_field ho hd rfl ?_);refine wpAny_bind (wpAny_seqItems hol hdl ?_);show wpAny _ _ (match items[((i:Int)).toNat]? with | some x=>_ | none=>_) _ _ _;rw [Int.toNat_natCast,hx];refine wpAny_bind (wpAny_rule ?_);refine wpAny_bind (wpAny_setField ho hd (by simp) ?_);exact wZ H ho hd (by simp) (fun b o hb e=>(Heap.get?_update_other _ _ (Ne.symm hb)).trans e) hE
def HkA.in1 {h:Heap} (H:HkA A h):HkA A.in1 h:=H
def lM {it l:Addr} {i:Nat} {items:Array Value} {Q:Option Value->Shared->Prop} (H:HkA A s.heap) (hit:s.heap.IsListIter it l i) (hl:s.heap.IsList l items) (hx:items[i]?=none) (hQ:∀ h',Heap.ExtBut it s.heap h'->Q none { s with heap:=h' }):wpAny (model prog w) A (pyNext (.ref it)) Q E s:=by
 unfold pyNext;refine wpAny_bind (wpAny_attempt (wpAny_callSpecial?_slot (name:=Str.ofString "__next__") hit.typeIs slot_listiter_next (wpAny_call_entry slot_listiter_next hit.typeIs entry_listiter_next (aD6 (A:=A.in1) H.in1 hit hl hx fun h' e k ⟨o,ho,hc⟩=>?_) (args_listiter_next _))));exact wpAny_bind (wpAny_isInstance (T:="StopIteration") (b:=true) ⟨_,ho,hc⟩ isSubtype_stop (wpAny_pure (hQ _ k)))
def xA {it l:Addr} {i:Nat} {items:Array Value} {Q:Option Value->Shared->Prop} (H:HkA A s.heap) (hit:s.heap.IsTupleIter it l i) (hl:s.heap.IsTuple l items) (hx:items[i]?=none) (hQ:∀ h',Heap.ExtBut it s.heap h'->Q none { s with heap:=h' }):wpAny (model prog w) A (pyNext (.ref it)) Q E s:=by
 unfold pyNext;refine wpAny_bind (wpAny_attempt (wpAny_callSpecial?_slot (name:=Str.ofString "__next__") hit.typeIs F.slot_tuple_iterator_next (wpAny_call_entry F.slot_tuple_iterator_next hit.typeIs F.entry_tuple_iterator_next (aD7 (A:=A.in1) H.in1 hit hl hx fun h' e k ⟨o,ho,hc⟩=>?_) (F.args_tuple_iterator_next_1 _))));exact wpAny_bind (wpAny_isInstance (T:="StopIteration") (b:=true) ⟨_,ho,hc⟩ isSubtype_stop (wpAny_pure (hQ _ k)))
def nextOf_le {it l:Addr} {i:Nat} {items:Array Value} {Q:Value->Shared->Prop} (H:HkA A s.heap) (hit:s.heap.IsListIter it l i) (hl:s.heap.IsList l items) (hx:items[i]?=none)
  (hE:∀ h' e,Heap.ExtBut it s.heap h'->(∃ o,h'.get? e=some o/\o.cls=.type "StopIteration")->E (.ref e) { s with heap:=h' }):wpAny (model prog w) A (Builtin.SmallTypes.nextOf (.ref it)) Q E s:=by
 unfold Builtin.SmallTypes.nextOf;exact wpAny_bind (wpAny_callSpecial?_slot (hit.typeIs) slot_listiter_next (wpAny_call_entry slot_listiter_next hit.typeIs entry_listiter_next (aD6 (A:=A.in1) H.in1 hit hl hx hE) (args_listiter_next _)))
def nextOf_te {it l:Addr} {i:Nat} {items:Array Value} {Q:Value->Shared->Prop} (H:HkA A s.heap) (hit:s.heap.IsTupleIter it l i) (hl:s.heap.IsTuple l items) (hx:items[i]?=none)
  (hE:∀ h' e,Heap.ExtBut it s.heap h'->(∃ o,h'.get? e=some o/\o.cls=.type "StopIteration")->E (.ref e) { s with heap:=h' }):wpAny (model prog w) A (Builtin.SmallTypes.nextOf (.ref it)) Q E s:=by
 unfold Builtin.SmallTypes.nextOf;exact wpAny_bind (wpAny_callSpecial?_slot (hit.typeIs) F.slot_tuple_iterator_next (wpAny_call_entry F.slot_tuple_iterator_next hit.typeIs F.entry_tuple_iterator_next (aD7 (A:=A.in1) H.in1 hit hl hx hE) (F.args_tuple_iterator_next_1 _)))
def hkL (A:Around):List Addr:=match A.handled with
 | some (.ref b)=>[b]
 | _=>[]
def HkA.fp {h h':Heap} (H:HkA A h) (k:∀ b∈hkL A,∀ o,h.get? b=some o->h'.get? b=some o):HkA A h':=by
 rcases H with H | ⟨b,ob,ws,h1,h2,h3⟩
 ·exact .inl H
 ·exact .inr ⟨b,ob,ws,h1,k b (by unfold hkL;rw [h1];exact List.mem_cons_self) ob h2,h3⟩
def rY (I ax:Addr) (hne:ax≠I) (items:Array Value) :
  Walks prog w A I ([I,ax]++hkL A) [I] items.size (fun i v=>items[i]?=some v) (fun i h=>(h.IsListIter I ax i/\h.IsList ax items)/\HkA A h) where
 sub:=fun b hb=>by simp at hb;simp [hb]
 frame:=fun _ _ _ st hk=>⟨⟨st.1.1.at fun o e=>hk I (by simp) o e,st.1.2.at fun o e=>hk ax (by simp) o e⟩,st.2.fp fun b hb=>hk b (List.mem_append_right _ hb)⟩
 item:=fun i s Q E hi st hQ=>by
  obtain ⟨oi,h1,_,h3⟩:=id st.1.1;refine wpAny_pyNext_list_item st.1.1 st.1.2 (x:=items[i]) (by simp [hi]) fun h' hit' hs'=>?_;exact hQ _ h' s.toks (by simp [hi]) ⟨⟨hit',st.1.2.extBut hs'.extBut hne⟩,st.2.keep rfl h1 h3 (by simp) hs'.extBut⟩ fun b o hb e=>hs'.extBut b o (fun h=>hb (by simp [h])) e
 done:=fun s Q E st hQ=>lM st.2 st.1.1 st.1.2 (by simp) fun h' he'=>hQ h' s.toks fun b o hb e=>he' b o (fun h=>hb (by simp [h])) e
 self:=fun _ _ _ _ st hQ=>wpAny_pyIter_listiter st.1.1 hQ
def zI {t:Addr} {items:Array Value} {Q:List Value->Shared->Prop} (H:HkA A s.heap) (ht:s.heap.IsTuple t items) (hQ:∀ h',Heap.ExtBut s.heap.objs.size s.heap h'->Q items.toList { s with heap:=h' }):wpAny (model prog w) A (unpackItems (.ref t) items.size none) Q E s:=by
 have k0:∀ b o,s.heap.get? b=some o->(s.heap.push { cls:=.type "tuple_iterator",data:=.fields #[.ref t,.int 0 0] }).get? b=some o:=fun b o e=>Heap.get?_push_of_some _ e;have tlt:t < s.heap.objs.size:=by obtain ⟨o,e,_⟩:=id ht;exact Heap.lt_size e
 unfold unpackItems notIterableAtAll;refine wpAny_bind (wpAny_bind (wpAny_specialOf (ht.typeIs) slot_tuple_iter.lookup (wpAny_pure ?_)));refine wpAny_bind (wpAny_holding (wpAny_pyIter_tuple ht ?_));dsimp only;have hi:(s.heap.push { cls:=.type "tuple_iterator",data:=.fields #[.ref t,.int 0 0] }).get? s.heap.objs.size=some { cls:=.type "tuple_iterator",data:=.fields #[.ref t,.int 0 0] }:=Heap.get?_push_size _ rfl;refine wpAny_bind (wpAny_holding (wpAny_draw_tuple (Nat.ne_of_lt tlt) items.size 0 _ _ ⟨_,hi,rfl,rfl⟩ (ht.at fun o e=>k0 _ _ e) (by omega) fun h' hit sb=>?_));have el:List.take items.size (List.drop 0 items.toList)=items.toList:=by rw [List.drop_zero];exact List.take_of_length_le (by simp)
 rw [el,if_neg (by simp)];have k1:∀ b o,b≠s.heap.objs.size->s.heap.get? b=some o->h'.get? b=some o:=fun b o hb e=>(sb.2 b hb).trans (k0 b o e);obtain ⟨oi,h1,_,h3⟩:=id hit;refine wpAny_bind (wpAny_holding (xA (i:=0+items.size) (l:=t) (items:=items) ?_ hit (ht.at fun o e=>k1 _ _ (Nat.ne_of_lt tlt) e) (by simp) fun h2 k2=>wpAny_pure (hQ h2 fun b o hb e=>k2 b o hb (k1 b o hb e))));exact (H.up k0).keep rfl hi rfl (by simp) fun b o hb e=>(sb.2 b hb).trans e
def zJ {env:Env} {elts:List Expr} {x1:Nat} {pos:Pos} {t:Addr} {items:Array Value} {Q:Unit->Shared->Prop} (H:HkA A s.heap) (ht:s.heap.IsTuple t items) (hl:(assignEach elts env).length=items.size) (hn:List.findIdx? (fun x=>x.fst) (assignEach elts env)=none)
  (hQ:∀ h',Heap.ExtBut s.heap.objs.size s.heap h'->wpAny (model prog w) A (assignInOrder (List.map (fun x=>x.snd) (assignEach elts env)) items.toList) Q E { s with heap:=h' }):wpAny (model prog w) A (assign (.Tuple elts x1 pos) env (.ref t)) Q E s:=by
 rw [arm_assign_Tuple];refine wpAny_bind (wpAny_standAt ?_);unfold unpack;rw [hl,hn];exact wpAny_bind (wpAny_holding (zI H ht hQ))
end
end DL

namespace PySem
open PyProof.Rows
section
variable {prog:Program} {w:World} {A:Around} {E:Value->Shared->Prop} {s:Shared}
def iU {it t:Addr} {i:Nat} {items:Array Value} {x:Value} {Q:Value->Shared->Prop} (hit:s.heap.IsTupleIter it t i) (hl:s.heap.IsTuple t items) (hx:items[i]?=some x)
  (hQ:∀ h',h'.IsTupleIter it t (i+1)->Heap.SameBut it s.heap h'->Q x { s with heap:=h' }):wpAny (model prog w) A (Builtin.SmallTypes.nextOf (.ref it)) Q E s:=by
 obtain ⟨o,ho,hc,hd⟩:=id hit;obtain ⟨ol,hol,hlc,nl,hdl⟩:=hl;unfold Builtin.SmallTypes.nextOf;refine wpAny_bind (wpAny_callSpecial?_slot (hit.typeIs) F.slot_tuple_iterator_next (wpAny_call_entry F.slot_tuple_iterator_next hit.typeIs F.entry_tuple_iterator_next ?_ (F.args_tuple_iterator_next_1 _)));refine wpAny_bind (wpAny_pure (a:=(Value.ref it,[])) ?_);refine wpAny_bind (wpAny_field ho hd rfl ?_);rw [if_neg (by exact Bool.false_ne_true)];refine wpAny_bind (wpAny_field ho hd rfl ?_);refine wpAny_bind (wpAny_seqItems hol hdl ?_);show wpAny _ _ (match items[((i:Int)).toNat]? with | some x=>_ | none=>_) _ _ _;rw [Int.toNat_natCast,hx];refine wpAny_bind (wpAny_setField ho hd (by simp) ?_);refine wpAny_pure ⟨x,rfl,wpAny_pure (hQ _ ⟨_,Heap.get?_update_self _ ho (Obj.isFreed_of_fields (Obj.data_mapFields hd _)),(Obj.cls_mapFields o _).trans hc,?_⟩ (Heap.SameBut.update _ _ _))⟩;rw [Obj.data_mapFields hd];rfl
noncomputable def SqAt:Bool->Heap->Addr->Array Value->Prop
 | true,h,l,xs=>h.IsTuple l xs
 | false,h,l,xs=>h.IsList l xs
noncomputable def ItAt:Bool->Heap->Addr->Addr->Nat->Prop
 | true,h,it,l,k=>h.IsTupleIter it l k
 | false,h,it,l,k=>h.IsListIter it l k
def iV (b:Bool) (l:Addr):Obj:={ cls:=.type (if b=true then "tuple_iterator" else "list_iterator"),data:=.fields #[.ref l,.int 0 0] }
def SqAt.keep {b:Bool} {h h':Heap} {l:Addr} {xs:Array Value} (x:SqAt b h l xs) (k:∀ o,h.get? l=some o->h'.get? l=some o):SqAt b h' l xs:=by
 cases b<;>exact let ⟨o,h1,h2⟩:=x;⟨o,k o h1,h2⟩
def ItAt.keep {b:Bool} {h h':Heap} {it l:Addr} {i:Nat} (x:ItAt b h it l i) (k:∀ o,h.get? it=some o->h'.get? it=some o):ItAt b h' it l i:=by
 cases b<;>exact let ⟨o,h1,h2⟩:=x;⟨o,k o h1,h2⟩
def ItAt.new {b:Bool} {h:Heap} {it l:Addr} (e:h.get? it=some (iV b l)):ItAt b h it l 0:=by
 cases b<;>exact ⟨_,e,rfl,rfl⟩
def ItAt.hk {A:Around} {b:Bool} {h h':Heap} {it l:Addr} {i:Nat} (x:ItAt b h it l i) (H:DL.HkA A h) (k:∀ a,a≠it->h'.get? a=h.get? a):DL.HkA A h':=by
 cases b<;>exact let ⟨o,h1,_,h3⟩:=x;H.keep rfl h1 h3 (by simp) fun b o n e=>(k b n).trans e
def dT {b:Bool} {l:Addr} {xs:Array Value} {Q:Value->Shared->Prop} (hl:SqAt b s.heap l xs) (h:Q (.ref s.heap.objs.size) { s with heap:=s.heap.push (iV b l) }):wpAny (model prog w) A (pyIter (.ref l)) Q E s:=by
 cases b
 ·exact wpAny_pyIter_list hl h
 ·exact wpAny_pyIter_tuple hl h
def eK {b:Bool} {it l:Addr} {i:Nat} {items:Array Value} {x:Value} {Q:Value->Shared->Prop} (hit:ItAt b s.heap it l i) (hl:SqAt b s.heap l items) (hx:items[i]?=some x)
  (hQ:∀ h',ItAt b h' it l (i+1)->Heap.SameBut it s.heap h'->Q x { s with heap:=h' }):wpAny (model prog w) A (Builtin.SmallTypes.nextOf (.ref it)) Q E s:=by
 cases b
 ·exact wpAny_nextOf_list_item hit hl hx hQ
 ·exact iU hit hl hx hQ
def iF {b:Bool} {it l:Addr} {i:Nat} {items:Array Value} {Q:Value->Shared->Prop} (hh:DL.HkA A s.heap) (hit:ItAt b s.heap it l i) (hl:SqAt b s.heap l items) (hx:items[i]?=none)
  (hE:∀ h' e,Heap.ExtBut it s.heap h'->(∃ o,h'.get? e=some o/\o.cls=.type "StopIteration")->E (.ref e) { s with heap:=h' }):wpAny (model prog w) A (Builtin.SmallTypes.nextOf (.ref it)) Q E s:=by
 cases b
 ·exact DL.nextOf_le hh hit hl hx hE
 ·exact DL.nextOf_te hh hit hl hx hE
abbrev zH1 (b:Bool) (h:Heap) (l1:Addr):Heap:=h.push (iV b l1)
abbrev zH2 (b c:Bool) (h:Heap) (l1 l2:Addr):Heap:=(zH1 b h l1).push (iV c l2)
abbrev zH3 (b c:Bool) (h:Heap) (l1 l2:Addr):Heap:=(zH2 b c h l1 l2).push { cls:=.type "tuple",data:=.seq #[.ref h.objs.size,.ref (zH1 b h l1).objs.size] }
abbrev zH4 (b c:Bool) (h:Heap) (l1 l2:Addr):Heap:=(zH3 b c h l1 l2).push { cls:=.type "tuple",data:=.seq #[.none,.none] }
abbrev zH5 (b c:Bool) (h:Heap) (l1 l2:Addr):Heap:=(zH4 b c h l1 l2).push { cls:=.type "zip",data:=.fields #[.none,.bool false,.bool false,.ref (zH2 b c h l1 l2).objs.size,.ref (zH3 b c h l1 l2).objs.size] }
def aP9 (b c:Bool) (l1 l2:Addr) (xs ys:Array Value):Meets (Builtin.«zip.__new__» { pos:=[.type "zip",.ref l1,.ref l2] }) fun _ R s=>SqAt b s.heap l1 xs/\SqAt c s.heap l2 ys /\
  R (.ok (.ret (.ref (zH4 b c s.heap l1 l2).objs.size))) { s with heap:=zH5 b c s.heap l1 l2 }:=by
 refine Meets.of_wp fun prog w A R s h=>?_;obtain ⟨h1,h2,h⟩:=h;unfold Builtin.«zip.__new__»;refine wpAny_bind (wpAny_pure (a:=(Value.type "zip",[Value.ref l1,Value.ref l2])) ?_);dsimp only;rw [if_neg (by decide)];refine wpAny_bind ?_;unfold Builtin.SmallTypes.iterAll;refine wpAny_bind ?_;rw [List.forIn_cons];refine wpAny_bind (wpAny_bind (wpAny_holding (dT h1 (wpAny_pure ?_))));dsimp only;rw [List.forIn_cons];refine wpAny_bind (wpAny_bind (wpAny_holding (dT (h2.keep fun o e=>Heap.get?_push_of_some _ e) (wpAny_pure ?_))));dsimp only;rw [List.forIn_nil];refine wpAny_pure (wpAny_pure ?_);refine wpAny_bind (wpAny_newObj_type ?_ (by show (_:Array Value).size<=sizeLine;simp [sizeLine_eq]));refine wpAny_bind (wpAny_newObj_type ?_ (by show (_:Array Value).size<=sizeLine;simp [sizeLine_eq]));refine wpAny_bind ?_;unfold Builtin.SmallTypes.newRecord;refine wpAny_newObj_type (wpAny_pure ⟨_,rfl,h⟩) ?_;simp [sizeOk,Builtin.SmallTypes.ownedTupleFields,sizeLine_eq]
def aD8 {b c:Bool} {l1 l2:Addr} {xs ys:Array Value} {Q:Value->Shared->Prop} (h1:SqAt b s.heap l1 xs) (h2:SqAt c s.heap l2 ys)
  (h:∀ h',IsZip h' (s.heap.objs.size+4) (s.heap.objs.size+2) (s.heap.objs.size+3) .none->IsPair h' (s.heap.objs.size+2) (.ref s.heap.objs.size) (.ref (s.heap.objs.size+1))->IsPair h' (s.heap.objs.size+3) .none .none ->
   ItAt b h' s.heap.objs.size l1 0->ItAt c h' (s.heap.objs.size+1) l2 0->h'.objs.size=s.heap.objs.size+5->(∀ a o,s.heap.get? a=some o->h'.get? a=some o)->Q (.ref (s.heap.objs.size+4)) { s with heap:=h' }) :
  wpAny (model prog w) A (call (.type "zip") [.ref l1,.ref l2]) Q E s:=by
 have z1:(zH1 b s.heap l1).objs.size=s.heap.objs.size+1:=Heap.size_push ..;have z2:(zH2 b c s.heap l1 l2).objs.size=s.heap.objs.size+2:=by rw [zH2,Heap.size_push,z1]
 have z3:(zH3 b c s.heap l1 l2).objs.size=s.heap.objs.size+3:=by rw [zH3,Heap.size_push,z2]
 have z4:(zH4 b c s.heap l1 l2).objs.size=s.heap.objs.size+4:=by rw [zH4,Heap.size_push,z3]
 have z5:(zH5 b c s.heap l1 l2).objs.size=s.heap.objs.size+5:=by rw [zH5,Heap.size_push,z4]
 have g5:(zH5 b c s.heap l1 l2).get? (zH4 b c s.heap l1 l2).objs.size=_:=Heap.get?_push_size _ rfl;have g4:(zH5 b c s.heap l1 l2).get? (zH3 b c s.heap l1 l2).objs.size=_:=Heap.get?_push_of_some _ (Heap.get?_push_size _ rfl);have g3:(zH5 b c s.heap l1 l2).get? (zH2 b c s.heap l1 l2).objs.size=_:=Heap.get?_push_of_some _ (Heap.get?_push_of_some _ (Heap.get?_push_size _ rfl));have g2:(zH5 b c s.heap l1 l2).get? (zH1 b s.heap l1).objs.size=_:=Heap.get?_push_of_some _ (Heap.get?_push_of_some _ (Heap.get?_push_of_some _ (Heap.get?_push_size _ rfl)));have g1:(zH5 b c s.heap l1 l2).get? s.heap.objs.size=_:=Heap.get?_push_of_some _ (Heap.get?_push_of_some _ (Heap.get?_push_of_some _ (Heap.get?_push_of_some _ (Heap.get?_push_size _ rfl))));refine callType_new F.called_zip (by decide) (F.typeCall_zip_2 _ _) (F.newCall_zip_2 _ _) (fun obj=>F.args_object_init_3 obj _ _) F.entry_zip_new (aP9 b c l1 l2 xs ys) ⟨h1,h2,?_⟩;have q:=h (zH5 b c s.heap l1 l2) (by rw [z4,z3,z2] at g5;exact g5) (by rw [z2,z1] at g3;exact g3) (by rw [z3] at g4;exact g4) (.new g1) (.new (by rw [z1] at g2;exact g2)) z5
  (fun a o e=>Heap.get?_push_of_some _ (Heap.get?_push_of_some _ (Heap.get?_push_of_some _ (Heap.get?_push_of_some _ (Heap.get?_push_of_some _ e)))))
 rw [<- z4] at q;exact ⟨⟨_,g5,rfl⟩,q⟩
def qE {h:Heap} {z TI TO:Addr} {f0 x:Value} (hz:IsZip h z TI TO f0):IsZip (h.update z (Obj.mapFields fun a=>a.setIfInBounds 0 x)) z TI TO x:=by
 refine (Heap.get?_update_self _ hz (Obj.isFreed_of_fields (Obj.data_mapFields rfl _))).trans ?_;rfl
def aD9 {h:Heap} {z TI TO:Addr} {f0:Value} (hz:IsZip h z TI TO f0):IsZip (h.update z (Obj.mapFields fun a=>a.setIfInBounds 1 (.bool false))) z TI TO f0:=by
 refine (Heap.get?_update_self _ hz (Obj.isFreed_of_fields (Obj.data_mapFields rfl _))).trans ?_;rfl
structure ZApart (z TI TO i1 i2:Addr):Prop where
 TIz:TI≠z
 TOz:TO≠z
 i1z:i1≠z
 i2z:i2≠z
 TITO:TI≠TO
 TOi1:TO≠i1
 TOi2:TO≠i2
 TIi1:TI≠i1
 TIi2:TI≠i2
 i12:i1≠i2
def zK {b c:Bool} {z TI TO i1 i2 l1 l2:Addr} {k:Nat} {xs ys:Array Value} {x y u v:Value} {Q:Value->Shared->Prop} (D:ZApart z TI TO i1 i2) (hz:IsZip s.heap z TI TO .none) (hTI:IsPair s.heap TI (.ref i1) (.ref i2)) (hTO:IsPair s.heap TO u v)
  (h1:ItAt b s.heap i1 l1 k) (h2:ItAt c s.heap i2 l2 k) (q1:SqAt b s.heap l1 xs) (q2:SqAt c s.heap l2 ys) (nz1:l1≠z) (nz2:l2≠z) (nT2:l2≠TO) (n21:l2≠i1) (hx:xs[k]?=some x) (hy:ys[k]?=some y)
  (hQ:∀ h',IsZip h' z TI TO (rawInt s.heap.objs.size)->IsPair h' TO x y->ItAt b h' i1 l1 (k+1)->ItAt c h' i2 l2 (k+1)->IsPair h' s.heap.objs.size x y->h'.objs.size=s.heap.objs.size+1 ->
   (∀ a o,a≠z->a≠TO->a≠i1->a≠i2->s.heap.get? a=some o->h'.get? a=some o)->Q (.ref s.heap.objs.size) { s with heap:=h' }) :
  wpAny (model prog w) A (Builtin.«zip.__next__» { pos:=[.ref z] }) (fun fin s'=>∃ v,fin=Fin.done (.ret v)/\Q v s') E s:=by
 unfold Builtin.«zip.__next__»;refine wpAny_bind (wpAny_pure (a:=(Value.ref z,[])) ?_);refine wpAny_bind (wpAny_field hz rfl rfl ?_);refine wpAny_bind (wpAny_field hz rfl rfl ?_);refine wpAny_bind (wpAny_seqItems hTI rfl ?_);dsimp only;rw [if_neg (by simp)];refine wpAny_bind ?_;unfold Builtin.SmallTypes.ownedTupleIsFree;refine wpAny_bind (wpAny_field hz rfl rfl ?_);refine wpAny_pure ?_;rw [if_pos rfl];refine wpAny_bind (wpAny_rule ?_);refine wpAny_bind (wpAny_field hz rfl rfl ?_);refine wpAny_bind (wpAny_setField hz rfl (by simp) ?_);have e1:=Heap.SameBut.update s.heap z (Obj.mapFields fun a=>a.setIfInBounds 0 Value.ellipsis);have hz1:=qE (x:=Value.ellipsis) hz;generalize s.heap.update z (Obj.mapFields fun a=>a.setIfInBounds 0 Value.ellipsis)=H1 at e1 hz1 ⊢;have h11:ItAt b H1 i1 l1 k:=h1.keep fun o e=>(e1.2 _ D.i1z).trans e;have q11:SqAt b H1 l1 xs:=q1.keep fun o e=>(e1.2 _ nz1).trans e;have hTO1:IsPair H1 TO u v:=(e1.2 _ D.TOz).trans hTO;refine wpAny_bind ?_;rw [show [Value.ref i1,Value.ref i2].zipIdx=[(Value.ref i1,0),(Value.ref i2,1)] from rfl,List.forIn_cons];refine wpAny_bind (wpAny_bind (wpAny_onRaise ?_))
 change wpAny _ _ (Builtin.SmallTypes.nextOf (Value.ref i1) >>= fun v=>pure (some v)) _ _ _
 refine wpAny_bind (eK h11 q11 hx fun H2 h12 e2=>wpAny_pure ?_);have hz2:IsZip H2 z TI TO .ellipsis:=(e2.2 _ D.i1z.symm).trans hz1;have hTO2:IsPair H2 TO u v:=(e2.2 _ D.TOi1).trans hTO1;refine wpAny_bind (wpAny_seqItems hTO2 rfl (wpAny_bind (wpAny_updateSeq_pair hTO2 fun H3 hTO3 e3=>wpAny_bind (wpAny_letGo (wpAny_pure ?_)))));have hTO3:IsPair H3 TO x v:=hTO3;have hz3:IsZip H3 z TI TO .ellipsis:=(e3.2 _ D.TOz.symm).trans hz2;have h23:ItAt c H3 i2 l2 k:=h2.keep fun o e=>(e3.2 _ D.TOi2.symm).trans ((e2.2 _ D.i12.symm).trans ((e1.2 _ D.i2z).trans e));have q23:SqAt c H3 l2 ys:=q2.keep fun o e=>(e3.2 _ nT2).trans ((e2.2 _ n21).trans ((e1.2 _ nz2).trans e));dsimp only;rw [List.forIn_cons];refine wpAny_bind (wpAny_bind (wpAny_onRaise ?_))
 change wpAny _ _ (Builtin.SmallTypes.nextOf (Value.ref i2) >>= fun v=>pure (some v)) _ _ _
 refine wpAny_bind (eK h23 q23 hy fun H4 h24 e4=>wpAny_pure ?_);have hz4:IsZip H4 z TI TO .ellipsis:=(e4.2 _ D.i2z.symm).trans hz3;have hTO4:IsPair H4 TO x v:=(e4.2 _ D.TOi2).trans hTO3;refine wpAny_bind (wpAny_seqItems hTO4 rfl (wpAny_bind (wpAny_updateSeq_pair hTO4 fun H5 hTO5 e5=>wpAny_bind (wpAny_letGo (wpAny_pure ?_)))));have hTO5:IsPair H5 TO x y:=hTO5;have hz5:IsZip H5 z TI TO .ellipsis:=(e5.2 _ D.TOz.symm).trans hz4;dsimp only;rw [List.forIn_nil];refine wpAny_pure ?_;refine wpAny_bind (wpAny_seqItems hTO5 rfl ?_);refine wpAny_bind (wpAny_newObj_type ?_ (by simp [sizeOk,sizeLine_eq]));have es:H5.objs.size=s.heap.objs.size:=by rw [e5.1,e4.1,e3.1,e2.1,e1.1]
 have g6:IsPair (H5.push { cls:=.type "tuple",data:=.seq #[x,y] }) H5.objs.size x y:=Heap.get?_push_size _ rfl;have k6:∀ a o,H5.get? a=some o->(H5.push { cls:=.type "tuple",data:=.seq #[x,y] }).get? a=some o:=fun a o e=>Heap.get?_push_of_some _ e;have s6:(H5.push { cls:=.type "tuple",data:=.seq #[x,y] }).objs.size=s.heap.objs.size+1:=by rw [Heap.size_push,es]
 have hz6:=k6 _ _ hz5;refine wpAny_bind ?_;unfold Builtin.SmallTypes.ownedTupleHandOut;refine wpAny_bind (wpAny_setField hz6 rfl (by simp) ?_);have hz7:=qE (x:=rawInt H5.objs.size) hz6;refine wpAny_setField hz7 rfl (by simp) ?_;have hz8:=aD9 hz7;have e7:=Heap.SameBut.update (H5.push { cls:=.type "tuple",data:=.seq #[x,y] }) z (Obj.mapFields fun a=>a.setIfInBounds 0 (rawInt H5.objs.size));have e8:=Heap.SameBut.update ((H5.push { cls:=.type "tuple",data:=.seq #[x,y] }).update z (Obj.mapFields fun a=>a.setIfInBounds 0 (rawInt H5.objs.size))) z (Obj.mapFields fun a=>a.setIfInBounds 1 (.bool false));have kk:∀ a o,a≠z->H5.get? a=some o->(((H5.push { cls:=.type "tuple",data:=.seq #[x,y] }).update z (Obj.mapFields fun a=>a.setIfInBounds 0 (rawInt H5.objs.size))).update z (Obj.mapFields fun a=>a.setIfInBounds 1 (.bool false))).get? a=some o :=
  fun a o n e=>(e8.2 a n).trans ((e7.2 a n).trans (k6 a o e))
 have nsz:H5.objs.size≠z:=fun e=>by
  have:=Heap.lt_size hz5;rw [<- e] at this;exact Nat.lt_irrefl _ this
 have g8:=(e8.2 _ nsz).trans ((e7.2 _ nsz).trans g6);have hs8:=e8.1.trans (e7.1.trans s6);have h15:ItAt b H5 i1 l1 (k+1):=h12.keep fun o e=>(e5.2 _ D.TOi1.symm).trans ((e4.2 _ D.i12).trans ((e3.2 _ D.TOi1.symm).trans e));have h25:ItAt c H5 i2 l2 (k+1):=h24.keep fun o e=>(e5.2 _ D.TOi2.symm).trans e;have q:=hQ _ (by rw [es] at hz8;rw [es];exact hz8) (kk _ _ D.TOz hTO5) (h15.keep fun o e=>kk _ _ D.i1z e) (h25.keep fun o e=>kk _ _ D.i2z e) (by rw [<- es];exact g8) hs8
  (fun a o n1 n2 n3 n4 e=>kk _ _ n1 ((e5.2 _ n2).trans ((e4.2 _ n4).trans ((e3.2 _ n2).trans ((e2.2 _ n3).trans ((e1.2 _ n1).trans e))))))
 refine wpAny_pure ⟨_,rfl,?_⟩;rw [<- es] at q;exact q
def aE0 {b c:Bool} {z TI TO i1 i2 l1 l2:Addr} {k:Nat} {xs ys:Array Value} {u v:Value} {Q:Fin->Shared->Prop} (hh:DL.HkA A s.heap) (D:ZApart z TI TO i1 i2) (hz:IsZip s.heap z TI TO .none) (hTI:IsPair s.heap TI (.ref i1) (.ref i2)) (hTO:IsPair s.heap TO u v)
  (h1:ItAt b s.heap i1 l1 k) (h2:ItAt c s.heap i2 l2 k) (q1:SqAt b s.heap l1 xs) (q2:SqAt c s.heap l2 ys) (nz1:l1≠z) (nz2:l2≠z) (nT2:l2≠TO) (n21:l2≠i1) (hn:xs[k]?=none\/ys[k]?=none)
  (hE:∀ h' e,(∀ a o,a≠z->a≠TO->a≠i1->a≠i2->s.heap.get? a=some o->h'.get? a=some o)->(∃ o,h'.get? e=some o/\o.cls=.type "StopIteration")->E (.ref e) { s with heap:=h' }) :
  wpAny (model prog w) A (Builtin.«zip.__next__» { pos:=[.ref z] }) Q E s:=by
 unfold Builtin.«zip.__next__»;refine wpAny_bind (wpAny_pure (a:=(Value.ref z,[])) ?_);refine wpAny_bind (wpAny_field hz rfl rfl ?_);refine wpAny_bind (wpAny_field hz rfl rfl ?_);refine wpAny_bind (wpAny_seqItems hTI rfl ?_);dsimp only;rw [if_neg (by simp)];refine wpAny_bind ?_;unfold Builtin.SmallTypes.ownedTupleIsFree;refine wpAny_bind (wpAny_field hz rfl rfl ?_);refine wpAny_pure ?_;rw [if_pos rfl];refine wpAny_bind (wpAny_rule ?_);refine wpAny_bind (wpAny_field hz rfl rfl ?_);refine wpAny_bind (wpAny_setField hz rfl (by simp) ?_);have e1:=Heap.SameBut.update s.heap z (Obj.mapFields fun a=>a.setIfInBounds 0 Value.ellipsis);have hz1:=qE (x:=Value.ellipsis) hz;generalize s.heap.update z (Obj.mapFields fun a=>a.setIfInBounds 0 Value.ellipsis)=H1 at e1 hz1 ⊢;have h11:ItAt b H1 i1 l1 k:=h1.keep fun o e=>(e1.2 _ D.i1z).trans e;have q11:SqAt b H1 l1 xs:=q1.keep fun o e=>(e1.2 _ nz1).trans e;have hTO1:IsPair H1 TO u v:=(e1.2 _ D.TOz).trans hTO;have hk1:DL.HkA A H1:=hh.keepN rfl hz (fun ws q=>by cases q;simp) fun b o n q=>(e1.2 b n).trans q;have ends:∀ (H4 H5:Heap) (e:Addr),IsZip H5 z TI TO .ellipsis->(∀ a o,a≠z->a≠TO->a≠i1->a≠i2->s.heap.get? a=some o->H5.get? a=some o)->(∃ o,H5.get? e=some o/\o.cls=.type "StopIteration") ->
   wpAny (model prog w) A (setField (.ref z) 0 .none) (fun _ s''=>E (.ref e) s'') E { s with heap:=H5 }:=fun H4 H5 e hz5 kk ⟨o,ho,hc⟩=>by
  refine wpAny_setField hz5 rfl (by simp) ?_;have e6:=Heap.SameBut.update H5 z (Obj.mapFields fun a=>a.setIfInBounds 0 Value.none);refine hE _ e (fun a o n1 n2 n3 n4 g=>(e6.2 _ n1).trans (kk a o n1 n2 n3 n4 g)) ⟨o,(e6.2 _ fun z'=>?_).trans ho,hc⟩;rw [z'] at ho;have hz5:H5.get? z=_:=hz5;rw [ho] at hz5;cases hz5;simp at hc
 refine wpAny_bind ?_;rw [show [Value.ref i1,Value.ref i2].zipIdx=[(Value.ref i1,0),(Value.ref i2,1)] from rfl,List.forIn_cons];refine wpAny_bind (wpAny_bind (wpAny_onRaise ?_))
 change wpAny _ _ (Builtin.SmallTypes.nextOf (Value.ref i1) >>= fun v=>pure (some v)) _ _ _
 by_cases hx:xs[k]?=none
 ·refine wpAny_bind (iF hk1 h11 q11 hx fun H2 e g2 he=>ends H2 H2 e ?_ (fun a o n1 n2 n3 n4 g=>?_) he)
  ·exact g2 _ _ D.i1z.symm hz1
  ·exact g2 _ _ n3 ((e1.2 _ n1).trans g)
 obtain ⟨x,hx⟩:=Option.ne_none_iff_exists'.mp hx;have hy:ys[k]?=none:=hn.resolve_left (by rw [hx];simp);refine wpAny_bind (eK h11 q11 hx fun H2 h12 e2=>wpAny_pure ?_);have hz2:IsZip H2 z TI TO .ellipsis:=(e2.2 _ D.i1z.symm).trans hz1;have hTO2:IsPair H2 TO u v:=(e2.2 _ D.TOi1).trans hTO1;refine wpAny_bind (wpAny_seqItems hTO2 rfl (wpAny_bind (wpAny_updateSeq_pair hTO2 fun H3 hTO3 e3=>wpAny_bind (wpAny_letGo (wpAny_pure ?_)))));have hz3:IsZip H3 z TI TO .ellipsis:=(e3.2 _ D.TOz.symm).trans hz2;have h23:ItAt c H3 i2 l2 k:=h2.keep fun o e=>(e3.2 _ D.TOi2.symm).trans ((e2.2 _ D.i12.symm).trans ((e1.2 _ D.i2z).trans e));have q23:SqAt c H3 l2 ys:=q2.keep fun o e=>(e3.2 _ nT2).trans ((e2.2 _ n21).trans ((e1.2 _ nz2).trans e));have hk3:DL.HkA A H3:=(h11.hk hk1 e2.2).keepN rfl hTO2 (fun ws q=>nomatch q) fun b o n q=>(e3.2 b n).trans q;dsimp only;rw [List.forIn_cons];refine wpAny_bind (wpAny_bind (wpAny_onRaise ?_))
 change wpAny _ _ (Builtin.SmallTypes.nextOf (Value.ref i2) >>= fun v=>pure (some v)) _ _ _
 refine wpAny_bind (iF hk3 h23 q23 hy fun H4 e g4 he=>ends H4 H4 e ?_ (fun a o n1 n2 n3 n4 g=>?_) he)
 ·exact g4 _ _ D.i2z.symm hz3
 ·exact g4 _ _ n4 ((e3.2 _ n2).trans ((e2.2 _ n3).trans ((e1.2 _ n1).trans g)))
end
end PySem
namespace PySem
open PySem.Spec PyProof.Rows
def SqAt.ob {b:Bool} {h:Heap} {l:Addr} {xs:Array Value} (x:SqAt b h l xs):∃ o,h.get? l=some o:=by cases b<;>exact ⟨_,x.choose_spec.1⟩
def ItAt.ob {b:Bool} {h:Heap} {it l:Addr} {i:Nat} (x:ItAt b h it l i):∃ o,h.get? it=some o:=by cases b<;>exact ⟨_,x.choose_spec.1⟩
def aE1 (b:Bool) (l:Addr) (xs:Array Value):Meets (Builtin.«enumerate.__new__» ⟨[.type "enumerate",.ref l],[]⟩) fun _ R s=>SqAt b s.heap l xs /\
  R (.ok (.ret (.ref (s.heap.push (iV b l)).objs.size))) { s with heap:=(s.heap.push (iV b l)).push { cls:=.type "enumerate",data:=.fields #[.none,.bool false,.ref s.heap.objs.size,rawInt 0,.none,.none] } }:=by
 refine Meets.of_wp fun prog w A R s h=>?_;obtain ⟨h1,h⟩:=h;obtain ⟨o,ho⟩:=h1.ob;obtain ⟨hp,g,d,tk,os⟩:=s;have hsub:=sub_enumerate
 wp_walk using AutoSeq1.wpAny_loadPart' ho
 refine wpAny_stack_any fun st=>wpAny_pure ?_;split
 ·rename_i c _ _ _ _ _;cases (c==Value.type "enumerate")
  ·wp_walk using AutoSeq1.wpAny_loadPart' ho,dT h1
   exact ⟨_,rfl,h⟩
  ·wp_walk using AutoSeq1.wpAny_loadPart' ho,dT h1
   exact ⟨_,rfl,h⟩
 ·wp_walk using AutoSeq1.wpAny_loadPart' ho,dT h1
  exact ⟨_,rfl,h⟩
section
variable {prog:Program} {w:World} {A:Around} {E:Value->Shared->Prop} {s:Shared}
def aQ0 {b:Bool} {e it l:Addr} {i:Nat} {items:Array Value} {x old:Value} {Q:Option Value->Shared->Prop}
  (he:IsEnum s.heap e it i old) (hit:ItAt b s.heap it l i) (hl:SqAt b s.heap l items) (hx:items[i]?=some x) (hne:e≠it)
  (hQ:∀ h',IsEnumOut h' e it ((i:Int)+1) x s.heap.objs.size->ItAt b h' it l (i+1)->h'.get? s.heap.objs.size=some { cls:=.type "tuple",data:=.seq #[.int i s.toks,x] }->h'.objs.size=s.heap.objs.size+1 ->
   (∀ c o,c≠e->c≠it->s.heap.get? c=some o->h'.get? c=some o)->Q (some (.ref s.heap.objs.size)) { s with heap:=h',toks:=s.toks+1 }):wpAny (model prog w) A (pyNext (.ref e)) Q E s:=by
 have hT:s.TypeIs (.ref e) "enumerate":=⟨_,he,rfl⟩;have ne':∀ {h1 h2:Heap},Heap.SameBut e h1 h2->∀ o,h1.get? it=some o->h2.get? it=some o:=fun sb o q=>(sb.2 _ hne.symm).trans q;unfold pyNext;refine wpAny_bind (wpAny_attempt (wpAny_callSpecial?_slot (name:=Str.ofString "__next__") hT F.slot_enumerate_next (wpAny_call_entry F.slot_enumerate_next hT F.entry_enumerate_next ?_ (F.args_enumerate_next_1 _))));unfold Builtin.«enumerate.__next__»;refine wpAny_bind (wpAny_pure (a:=(Value.ref e,[])) (wpAny_bind (wpAny_field he rfl (x:=.ref it) rfl (wpAny_bind (eK hit hl hx fun H1 it1 e1=>?_)))));have he1:IsEnum H1 e it i old:=(e1.2 _ hne).trans he;refine wpAny_bind (wpAny_field he1 rfl (x:=rawInt i) rfl ?_);dsimp only [rawInt];refine wpAny_bind (wpAny_field he1 rfl (x:=.none) rfl ?_);rw [if_pos (by rfl)];refine wpAny_bind (wpAny_mkInt ?_);refine wpAny_bind (wpAny_setField_rec he1 (by simp) fun H2 he2 s2=>wpAny_bind (wpAny_setField_rec (s:={ s with heap:=H2,toks:=s.toks+1 }) he2 (by simp) fun H3 he3 s3=>?_));have he3':IsEnum H3 e it ((i:Int)+1) old:=he3;have z3:H3.objs.size=s.heap.objs.size:=by
  have q2:H2.objs.size=H1.objs.size:=s2.1;have q3:H3.objs.size=H2.objs.size:=s3.1;rw [q3,q2];exact e1.1
 refine wpAny_bind (wpAny_newTuple (items:=[.int i s.toks,x]) ?_);have he4:IsEnum (H3.push { cls:=.type "tuple",data:=.seq #[.int i s.toks,x] }) e it ((i:Int)+1) old:=Heap.get?_push_of_some _ he3';have g4:(H3.push { cls:=.type "tuple",data:=.seq #[.int i s.toks,x] }).get? s.heap.objs.size=some { cls:=.type "tuple",data:=.seq #[.int i s.toks,x] }:=by rw [<- z3];exact Heap.get?_push_size _ rfl
 have z4:(H3.push { cls:=.type "tuple",data:=.seq #[.int i s.toks,x] }).objs.size=s.heap.objs.size+1:=by rw [Heap.size_push,z3]
 have k4:∀ c o,c≠e->c≠it->s.heap.get? c=some o->(H3.push { cls:=.type "tuple",data:=.seq #[.int i s.toks,x] }).get? c=some o:=fun c o n1 n2 q=>Heap.get?_push_of_some _ ((s3.2 _ n1).trans ((s2.2 _ n1).trans ((e1.2 _ n2).trans q)));have it4:ItAt b (H3.push { cls:=.type "tuple",data:=.seq #[.int i s.toks,x] }) it l (i+1):=it1.keep fun o q=>Heap.get?_push_of_some _ (ne' s3 o (ne' s2 o q));refine wpAny_bind ?_;unfold Builtin.SmallTypes.ownedTupleIsFree;refine wpAny_bind (wpAny_field he4 rfl (x:=.none) rfl (wpAny_pure ?_));rw [if_pos rfl];have el:s.heap.objs.size≠e:=Nat.ne_of_gt (Heap.lt_size he);refine wpAny_bind (wpAny_rule (wpAny_bind (wpAny_field he4 rfl (x:=old) rfl (wpAny_bind (wpAny_setField_rec (s:={ s with heap:=H3.push { cls:=.type "tuple",data:=.seq #[.int i s.toks,x] },toks:=s.toks+1 }) he4 (by simp) fun H5 he5 s5=>wpAny_bind ?_)))));unfold Builtin.SmallTypes.ownedTupleHandOut;rw [z3];refine wpAny_bind (wpAny_setField_rec (s:={ s with heap:=H5,toks:=s.toks+1 }) he5 (by simp) fun H6 he6 s6=>wpAny_setField_rec (s:={ s with heap:=H6,toks:=s.toks+1 }) he6 (by simp) fun H7 he7 s7=>wpAny_bind (wpAny_letGo (wpAny_pure ⟨_,rfl,wpAny_pure (hQ H7 he7 ?_ ?_ ?_ fun c o n1 n2 q=>?_)⟩)))
 ·exact it4.keep fun o q=>ne' s7 o (ne' s6 o (ne' s5 o q))
 ·exact (s7.2 _ el).trans ((s6.2 _ el).trans ((s5.2 _ el).trans g4))
 ·have q5:H5.objs.size=_:=s5.1;have q6:H6.objs.size=H5.objs.size:=s6.1;have q7:H7.objs.size=H6.objs.size:=s7.1;rw [q7,q6,q5];exact z4
 ·exact (s7.2 _ n1).trans ((s6.2 _ n1).trans ((s5.2 _ n1).trans (k4 c o n1 n2 q)))
def bD7 {b:Bool} {e it l:Addr} {i:Nat} {items:Array Value} {old:Value} {Q:Option Value->Shared->Prop} (hh:DL.HkA A s.heap) (he:IsEnum s.heap e it i old) (hit:ItAt b s.heap it l i) (hl:SqAt b s.heap l items) (hx:items[i]?=none)
  (hQ:∀ h',(∀ c o,c≠it->s.heap.get? c=some o->h'.get? c=some o)->Q none { s with heap:=h' }):wpAny (model prog w) A (pyNext (.ref e)) Q E s:=by
 have hT:s.TypeIs (.ref e) "enumerate":=⟨_,he,rfl⟩;unfold pyNext;refine wpAny_bind (wpAny_attempt (wpAny_callSpecial?_slot (name:=Str.ofString "__next__") hT F.slot_enumerate_next (wpAny_call_entry F.slot_enumerate_next hT F.entry_enumerate_next ?_ (F.args_enumerate_next_1 _))));unfold Builtin.«enumerate.__next__»;refine wpAny_bind (wpAny_pure (a:=(Value.ref e,[])) (wpAny_bind (wpAny_field he rfl (x:=.ref it) rfl (wpAny_bind (iF (A:=A.in1) hh hit hl hx fun H1 x k1 ⟨o,ho,hc⟩=>?_)))));exact wpAny_bind (wpAny_isInstance ⟨o,ho,hc⟩ isSubtype_stop (wpAny_pure (hQ H1 k1)))
end
end PySem

namespace CI
open PySem PySem.Spec PyProof.Rows L2 DL ST

abbrev XR (α:Type):=DSt->aA->Option (α×aA)
set_option genInjectivity true in
inductive Fl where
 | nx (δ:DSt) | rt (w:W) | bk (δ:DSt) | ct (δ:DSt)
abbrev XS:=DSt->aA->Option (Fl×aA)
abbrev XG:=W->DSt->aA->Option (DSt×aA)
abbrev XF:=List W->aA->Option (PyData×aA)
abbrev XFW:=List W->aA->Option (W×aA)
structure ObS where
 fnW:Str->Option XFW
 cls:Str->Option (Addr×XFW)
 om:Str->Option (Addr×XFW)
 fo:Addr->Str->Bool
noncomputable def xno {α:Type}:XR α:=fun _ _=>none
noncomputable def aF {α:Type} (a:α):XR α:=fun _ h=>some (a,h)
noncomputable def xb {α β:Type} (x:XR α) (f:α->XR β):XR β:=fun δ h=>(x δ h).bind fun p=>f p.1 δ p.2
structure Sta where
 bl:List Str
 gc:Str->Option PyData
 tk:Str->Option (Str->Option PyData)
 fn:Str->Option XF
 ac:Str->List Nat
 cv:List Str
 N:List Str
 S:Scope
 top:Bool
 fuel:Nat
 ob:ObS
 qn:Option (Str×Pos)
 hm:Bool
structure Evs where
 E:Sta->Expr->XR W
 T:Sta->Expr->XR Bool
 F:Sta->Expr->XR (List PyData)
 G:Sta->Expr->XG
 S:Sta->Stmt->XS
def Evs.no:Evs:=⟨fun _ _=>xno,fun _ _=>xno,fun _ _=>xno,fun _ _ _ _ _=>none,fun _ _ _ _=>none⟩

noncomputable def aW (x:Str):Bool:=!(x==("__debug__":Str))&&(!(x==("__classdict__":Str))&&!(x==("__name__":Str)))
noncomputable def bD8 (S:Scope) (x:Str):Bool:=match S.names.lookup x with
 | some .local=>true
 | some .cell=>true
 | some .free=>true
 | _=>false
noncomputable def oP (S:Scope) (x:Str):Bool:=match S.names.lookup x with
 | some .local=>true
 | some .cell=>true
 | _=>false
noncomputable def cG (S:Scope) (x:Str):Bool:=match S.names.lookup x with
 | some .local=>true
 | _=>false
noncomputable def glB (S:Scope) (x:Str):Bool:=match S.names.lookup x with
 | some .globalImplicit=>true
 | _=>false
noncomputable def slot (st:Sta) (x:Str):Option Nat:=st.N.findIdx? (·==x)
noncomputable def aE (i:Nat):XR W:=fun δ h=>match δ[i]? with
 | some (some w)=>some (w,h)
 | _=>none
def cR (st:Sta) (x:Str):Bool:=aW x&&glB st.S x
def xB (st:Sta) (x:Str):XR W:=if aW x=true then
  (match slot st x with
   | some i=>if bD8 st.S x=true then aE i else xno
   | none=>(match st.gc x with
    | some d=>if glB st.S x=true then aF (.d d) else xno
    | none=>xno))
 else xno
def aE2:Const->XR W
 | .none=>aF (.d .none)
 | .bool b=>aF (.d (.bool b))
 | .int i=>aF (.d (.int i))
 | .str x=>if PyData.strOk x=true then aF (.d (.str x)) else xno
 | _=>xno

noncomputable def dK (i j:Int):Bool:=(decide (-(2^64) < i)&&decide (i < 2^64))||(decide (-(2^64) < j)&&decide (j < 2^64))
noncomputable def bS (j:Int):Bool:=decide (0 < j)&&(decide (j < 1073741824)||decide (j.natAbs.log2 < 8000))
noncomputable def pG (i j:Int):Bool:=decide (0<=j)&&(decide (j<=1000000)&&decide (i.natAbs < 2^64))
def bD9 (u w:W) (h:aA):Option (W×aA):=match u,w with
 | .d (.int i),.d (.int j)=>some (.d (.int (i+j)),h)
 | .d (.tuple xs),.d (.tuple ys)=>if xs.length+ys.length<=sizeLine then some (.d (.tuple (xs++ys)),h) else none
 | _,_=>(match ref h u,ref h w with
  | some (.list xs),some (.list ys)=>if xs.length+ys.length<=sizeLine then some (.d (.list (xs++ys)),h) else none
  | _,_=>none)
def bR4 (u w:W) (h:aA):Option (W×aA):=match u,w with
 | .d (.int i),.d (.int j)=>if dK i j=true then some (.d (.int (i*j)),h) else none
 | _,_=>none
def fV (op:Operator) (u w:W) (h:aA):Option (W×aA):=match op with
 | .Add=>bD9 u w h
 | .Mult=>bR4 u w h
 | _=>(match u,w with
  | .d (.int i),.d (.int j)=>(match op with
   | .Sub=>some (.d (.int (i - j)),h)
   | .FloorDiv=>if bS j=true then some (.d (.int (i / j)),h) else none
   | .Mod=>if 0 < j then some (.d (.int (i%j)),h) else none
   | .Pow=>if pG i j=true then some (.d (.int (i^j.toNat)),h) else none
   | .RShift=>if 0<=j then some (.d (.int (i / 2^j.toNat)),h) else none
   | _=>none)
  | _,_=>none)
noncomputable def cK8:CmpOp->Option (Int->Int->Bool)
 | .Lt=>some fun i j=>decide (i < j)
 | .LtE=>some fun i j=>decide (i<=j)
 | .Gt=>some fun i j=>decide (j < i)
 | .GtE=>some fun i j=>decide (j<=i)
 | _=>none
def xEq (u w:W) (h:aA):Option Bool:=match ref h u,ref h w with
 | some a,some b=>if (aM 64 a&&aM 64 b)=true then some (PyData.eqv a b) else none
 | _,_=>none
def xIs (u w:W):Option Bool:=match u,w with
 | .d a,.d b=>DL.isSame a b
 | .c _,.d .none=>some false
 | _,_=>none
noncomputable def uR (w:W) (h:aA):Option (List (PyData×W)):=match w with
 | .c j=>(match h[j]? with
  | some (.k kvs)=>some kvs
  | _=>none)
 | _=>none
def qF (k:Key) (kvs:List (PyData×W)):Bool:=kvs.any fun p=>decide (cQ p.1=some k)
def qG (k:Key) (kvs:List (PyData×W)):Option W:=(kvs.find? fun p=>decide (cQ p.1=some k)).map (·.2)
def uS (k:Key) (kvs:List (PyData×W)):List (PyData×W):=kvs.filter fun p=>!decide (cQ p.1=some k)
def bR5 (d:PyData) (w:W) (h:aA):Option Bool:=(uR w h).bind fun kvs=>(cQ d).map fun k=>qF k kvs
def xIn (u w:W) (h:aA):Option Bool:=match ref h u,ref h w with
 | some d,some (.list xs)=>if (aM 64 (.list xs)&&aM 64 d)=true then some (xs.any fun z=>PyData.eqv z d) else none
 | some d,some (.tuple xs)=>if (aM 64 (.tuple xs)&&aM 64 d)=true then some (xs.any fun z=>PyData.eqv z d) else none
 | some d,none=>bR5 d w h
 | _,_=>none
def dO (op:CmpOp) (u w:W) (h:aA):Option (Bool×aA):=match op with
 | .Eq=>(xEq u w h).map fun b=>(b,h)
 | .NotEq=>(xEq u w h).map fun b=>(!b,h)
 | .Is=>(xIs u w).map fun b=>(b,h)
 | .IsNot=>(xIs u w).map fun b=>(!b,h)
 | .In=>(xIn u w h).map fun b=>(b,h)
 | .NotIn=>(xIn u w h).map fun b=>(!b,h)
 | _=>(match u,w with
  | .d (.int i),.d (.int j)=>(cK8 op).map fun p=>(p i j,h)
  | _,_=>none)
noncomputable def asW (p:Bool×aA):W×aA:=(.d (.bool p.1),p.2)
def xIr (u:W) (k:Int) (h:aA):Option (W×aA):=match u with
 | .c j=>(match h[j]? with
  | some (.r is)=>(atI is k).map fun m=>(m,h)
  | some (.k kvs)=>(qG (.inl k) kvs).map fun m=>(m,h)
  | _=>none)
 | _=>none
def xIx (u w:W) (h:aA):Option (W×aA):=match ref h u,w with
 | some (.list xs),.d (.int i)=>(atI xs i).map fun v=>(.d v,h)
 | some (.tuple xs),.d (.int i)=>(atI xs i).map fun v=>(.d v,h)
 | none,.d (.int k)=>xIr u k h
 | _,_=>none
def xSl (u:W) (lo hi:Option Int) (h:aA):Option (W×aA):=match u with
 | .d (.tuple xs)=>some (.d (.tuple (cut xs lo hi)),h)
 | _=>(match ref h u with
  | some (.list xs)=>some (.d (.list (cut xs lo hi)),h)
  | _=>none)

noncomputable def bE0 (w:W) (h:aA):Option Nat:=match w with
 | .c j=>(match h[j]? with
  | some (.r is)=>some is.length
  | some (.k kvs)=>some kvs.length
  | _=>none)
 | _=>none
def bI:List W->aA->Option (W×aA)
 | [w],h=>(match ref h w with
  | some (.list xs)=>some (.d (.int xs.length),h)
  | some (.tuple xs)=>some (.d (.int xs.length),h)
  | none=>(bE0 w h).map fun n=>(.d (.int n),h)
  | _=>none)
 | _,_=>none
def cE:List W->aA->Option (W×aA)
 | [w],h=>(match ref h w with
  | some (.list xs)=>some (.d (.tuple xs),h)
  | some (.tuple xs)=>some (.d (.tuple xs),h)
  | _=>none)
 | _,_=>none
def iG:List W->aA->Option (W×aA)
 | [w],h=>(match ref h w with
  | some (.list xs)=>(cT xs).map fun bs=>(.d (.bool (bs.all id)),h)
  | _=>none)
 | _,_=>none
def rZ:List W->aA->Option (W×aA)
 | [w],h=>(match ref h w with
  | some (.list xs)=>(cT xs).map fun bs=>(.d (.bool (bs.any id)),h)
  | _=>none)
 | _,_=>none
noncomputable def aE3:List W->aA->Option (W×aA)
 | [.d (.bool b)],h=>some (.d (.int (if b then 1 else 0)),h)
 | _,_=>none
noncomputable def xMn (ws:List W) (h:aA):Option (W×aA):=match ws with
 | [.d (.int a),.d (.int b)]=>some (.d (.int (min a b)),h)
 | _=>none
def bE1 (hm:Bool) (x:Str):Option (List W->aA->Option (W×aA)) :=
 if x="len" then some bI else if x="tuple" then some cE else if x="all" then some iG else if x="int" then some aE3 else if x="min" then (if hm=true then none else some xMn) else if x="any" then some rZ else none
noncomputable def aQ1 (T:Str):Option String :=
 if T="int" then some "int" else if T="bool" then some "bool" else if T="str" then some "str" else if T="tuple" then some "tuple" else if T="list" then some "list" else none

abbrev Cw:=Option (Nat×Bool)
def condB:Cw->List PyData->aA->Bool
 | none,_,_=>true
 | some (i,e),xs,h=>(match h[i]? with
  | some (.l ys)=>peqs (if e=true then bK ys else ys) xs
  | _=>false)
def iW (u:W) (h:aA):Option ((List PyData×Cw)×aA):=match lZ u with
 | some xs=>some ((bK xs,none),h)
 | none=>(match u with
  | .c i=>(match h[i]? with
   | some (.l xs)=>some ((bK xs,some (i,true)),h)
   | _=>none)
  | _=>none)

def bY (g:XG) (tb:XS) (c:Cw) (all:List PyData):List PyData->DSt->aA->Option (Fl×aA)
 | [],δ,h=>if condB c all h=true then some (.nx δ,h) else none
 | x::r,δ,h=>if condB c all h=true then
   (g (.d x) δ h).bind fun p=>(tb p.1 p.2).bind fun q=>(match q.1 with
    | .nx δ'=>bY g tb c all r δ' q.2
    | .ct δ'=>bY g tb c all r δ' q.2
    | .bk δ'=>some (.nx δ',q.2)
    | .rt w=>some (.rt w,q.2))
  else none
def aZ (g:XG) (tt:XR Bool) (te:XR W) (c:Cw) (all:List PyData):List PyData->DSt->aA->List PyData->Option (List PyData×aA)
 | [],_,h,ac=>if condB c all h=true then some (ac,h) else none
 | x::r,δ,h,ac=>if condB c all h=true then
   (g (.d x) δ h).bind fun p=>(tt p.1 p.2).bind fun q=>if q.1=true then
     (te p.1 q.2).bind fun y=>(match y.1 with
      | .d z=>aZ g tt te c all r p.1 y.2 (ac++[z])
      | _=>none)
    else aZ g tt te c all r p.1 q.2 ac
  else none
noncomputable def fE (c:XR Bool) (tb:XS):Nat->DSt->aA->Option (Fl×aA)
 | 0,_,_=>none
 | n+1,δ,h=>(c δ h).bind fun p=>if p.1=true then
   (tb δ p.2).bind fun q=>(match q.1 with
    | .nx δ'=>fE c tb n δ' q.2
    | .ct δ'=>fE c tb n δ' q.2
    | .bk δ'=>some (.nx δ',q.2)
    | .rt w=>some (.rt w,q.2))
  else some (.nx δ,p.2)
noncomputable def aK:Expr->Bool
 | .Starred _ _=>false
 | _=>true
noncomputable def bT (x:XR (List PyData)):XR W:=fun δ h=>(x δ h).bind fun p=>some (.c p.2.length,p.2++[.l p.1])
noncomputable def aN (x:XR (List PyData)):XR W:=fun δ h=>(x δ h).bind fun p=>some (.d (.list p.1),p.2)
def kT (f:Str->Option PyData) (x:XR W):XR Bool:=xb x fun w=>(match w with
 | .d (.str s)=>aF (!(f s).isSome)
 | .d .none=>aF true
 | _=>xno)
def xC1 (op:CmpOp) (x y:XR W):XR Bool:=xb x fun u=>xb y fun w=>fun _ h=>dO op u w h
def xC2 (op op':CmpOp) (x y z:XR W):XR Bool:=xb x fun u=>xb y fun w=>fun δ h=>(dO op u w h).bind fun p=>if p.1=true then (z δ p.2).bind fun q=>dO op' w q.1 q.2 else some (false,p.2)
def xC3 (op op' op'':CmpOp) (x y z t:XR W):XR Bool:=xb x fun u=>xb y fun w=>fun δ h=>(dO op u w h).bind fun p =>
 if p.1=true then (z δ p.2).bind fun q=>(dO op' w q.1 q.2).bind fun p'=>if p'.1=true then (t δ p'.2).bind fun q'=>dO op'' q.1 q'.1 q'.2 else some (false,p'.2) else some (false,p.2)
def bM (x:XR Bool):XR W:=fun δ h=>(x δ h).map asW
noncomputable def dX:List XG->List PyData->DSt->aA->Option (DSt×aA)
 | [],[],δ,h=>some (δ,h)
 | g::gs,x::xs,δ,h=>(g (.d x) δ h).bind fun p=>dX gs xs p.1 p.2
 | _,_,_,_=>none
def bH (gs:List XG):XG:=fun w δ h=>(match w with
 | .d (.tuple xs)=>dX gs xs δ h
 | .c i=>(match h[i]? with
  | some (.l xs)=>dX gs xs δ h
  | _=>none)
 | _=>none)
section
variable (v:Evs) (st:Sta)
def aR:List Expr->XR (List W)
 | []=>aF []
 | e::es=>if aK e=true then xb (v.E st e) fun w=>xb (aR es) fun ws=>aF (w::ws) else xno
noncomputable def cK9:Expr->Bool
 | .Name _ _=>true
 | _=>false
def uT:Option Expr->XR (Option Int)
 | none=>aF none
 | some e=>xb (v.E st e) fun w=>(match w with
  | .d (.int i)=>aF (some i)
  | _=>xno)
def aE4:List Expr->XR W
 | []=>xno
 | [a]=>v.E st a
 | a::b::r=>xb (v.E st a) fun w=>(match w with
  | .d (.bool true)=>aE4 (b::r)
  | .d (.bool false)=>aF (.d (.bool false))
  | _=>xno)
def bE2:List Expr->XR W
 | []=>xno
 | [a]=>v.E st a
 | a::b::r=>xb (v.E st a) fun w=>(match w with
  | .d (.bool true)=>aF (.d (.bool true))
  | .d (.bool false)=>bE2 (b::r)
  | _=>xno)
def aE5:List Expr->XR Bool
 | []=>xno
 | [a]=>v.T st a
 | a::b::r=>xb (v.T st a) fun c=>if c=true then aE5 (b::r) else aF false
def bE3:List Expr->XR Bool
 | []=>xno
 | [a]=>v.T st a
 | a::b::r=>xb (v.T st a) fun c=>if c=true then aF true else bE3 (b::r)
def iX:Expr->Option (Str->Option PyData)
 | .Name x _=>if cR st x&&(slot st x).isNone then st.tk x else none
 | _=>none
def eW (a:Expr) (ops:List CmpOp) (cs:List Expr):XR Bool:=match ops,cs with
 | [op],[b]=>(match iX st b with
  | some f=>if op=.NotIn then kT f (v.E st a) else xno
  | none=>if behindInMarks op b=true then xno else xC1 op (v.E st a) (v.E st b))
 | [op,op'],[b,c]=>if lastMarks [op,op'] [b,c]=true then xno else xC2 op op' (v.E st a) (v.E st b) (v.E st c)
 | _,_=>xno
def jX (a:Expr) (ops:List CmpOp) (cs:List Expr):XR Bool:=match ops,cs with
 | [op,op',op''],[b,c,d]=>if lastMarks [op,op',op''] [b,c,d]=true then xno else xC3 op op' op'' (v.E st a) (v.E st b) (v.E st c) (v.E st d)
 | _,_=>eW v st a ops cs
noncomputable def dY (i j:Int):Bool:=decide (j - i<=16000000)&&(decide (-(2^62)<=i)&&(decide (i < 2^62)&&(decide (-(2^62)<=j)&&decide (j < 2^62))))
def bC (x:XR W):XR (List PyData×Cw):=xb x fun w=>fun _ h=>(match w with
 | .d (.list xs)=>some ((xs,none),h)
 | .d (.tuple xs)=>some ((xs,none),h)
 | .c i=>(match h[i]? with
  | some (.l xs)=>some ((xs,some (i,false)),h)
  | _=>none)
 | _=>none)
noncomputable def dZ:Expr->Bool
 | .Set _ _ _=>true
 | _=>false
noncomputable def xC:Expr->Bool
 | .Tuple _ _ _=>true
 | _=>false
noncomputable def itS:(e:Expr)->Option {y:Str×Expr×Option Expr // ∃ p q,e=.Call (.Name y.1 p) (y.2.1::y.2.2.toList) [] q}
 | .Call (.Name x p) [a] [] q=>some ⟨(x,a,none),p,q,rfl⟩
 | .Call (.Name x p) [a,b] [] q=>some ⟨(x,a,some b),p,q,rfl⟩
 | _=>none
def fP (tg e:Expr):XR (List PyData×Cw):=match itS e with
 | some ⟨(x,a,none),_⟩=>if x="range" then (if cR st x&&(slot st x).isNone&&st.bl.contains x&&aK a&&!st.hm then xb (v.E st a) fun w=>fun _ h=>(match w with
   | .d (.int j)=>if dY 0 j=true then some ((rng 0 j.toNat,none),h) else none
   | _=>none) else xno)
  else if x="enumerate" then (if cR st x&&(slot st x).isNone&&st.bl.contains x&&aK a&&xC tg then xb (v.E st a) fun u=>fun _ h=>iW u h else xno)
  else bC (v.E st e)
 | some ⟨(x,a,some b),_⟩=>if x="range" then (if cR st x&&(slot st x).isNone&&st.bl.contains x&&aK a&&aK b&&!st.hm then xb (v.E st a) fun u=>xb (v.E st b) fun w=>fun _ h=>(match u,w with
   | .d (.int i),.d (.int j)=>if dY i j=true then some ((rng i (j - i).toNat,none),h) else none
   | _,_=>none) else xno)
  else if x="zip" then (if cR st x&&(slot st x).isNone&&st.bl.contains x&&aK a&&aK b&&xC tg then xb (v.E st a) fun u=>xb (v.E st b) fun w=>fun _ h=>(match lZ u,lZ w with
   | some xs,some ys=>some ((jW xs ys,none),h)
   | _,_=>none) else xno)
  else bC (v.E st e)
 | none=>if dZ e=true then xno else bC (v.E st e)
noncomputable def uU (sc:Scope):List Str:=(sc.names.filter fun p=>(p.2==.local||p.2==.free)&&!(p.1==(".0":Str))).map (·.1)
def iY (N:List Str) (sc:Scope):List (Option Nat):=(uU sc).map fun x=>if sc.names.lookup x=some .free then N.findIdx? (·==x) else none
noncomputable def bE4 (sc S:Scope):Scope:={ sc with names:=sc.names.map fun (n,k)=>if (k==.free&&S.kind==.function&&S.names.lookup n==some .cell) then (n,.cell) else (n,k) }
def pH (N:List Str) (sc S:Scope):Bool :=
 decide (sc.kind=.function)&&((sc.names.all fun y=>!(y.2==.cell))&&((sc.names.all fun y=>!(y.2==.local)||(sc.names.lookup y.1==some .local)) &&
  ((sc.names.all fun y=>!(y.2==.free)||(S.names.lookup y.1==some .cell||S.names.lookup y.1==some .free))&&(decide (uU sc).Nodup &&
   (((iY N sc).zip (uU sc)).all fun p=>match p.1 with
    | none=>true
    | some i=>decide (N[i]?=some p.2)&&decide (sc.names.lookup p.2=some NameKind.free))))))
def Sta.blk (sc:Scope):Sta:={ st with N:=uU sc,S:=bE4 sc st.S,top:=false,qn:=none }
def zL:List Expr->XR Bool
 | []=>aF true
 | [c]=>v.T st c
 | _=>xno
def kU (elt tg iter:Expr) (ifs:List Expr) (sc:Scope):XR (List PyData) :=
 if pH st.N sc st.S&&!dZ iter then xb (fP v st tg iter) fun p=>fun δ h=>aZ (v.G (st.blk sc) tg) (zL v (st.blk sc) ifs) (v.E (st.blk sc) elt) p.2 p.1 p.1 (cD (iY st.N sc) δ) h [] else xno
def prS:(z:PyData)->Option {k:Int // ∃ xs ns ys,z=.tuple [.tuple xs,.tuple ys]/\bZ xs=some (k::ns)}
 | .tuple [.tuple xs,.tuple ys]=>(match h:bZ xs with
  | some (k::ns)=>some ⟨k,xs,ns,ys,rfl,h⟩
  | _=>none)
 | _=>none
def aQ4:List PyData->Option (List Int)
 | []=>some []
 | z::zs=>((prS z).map (·.1)).bind fun k=>(aQ4 zs).map fun ks=>k::ks
noncomputable def bR6 (ks:List Int) (xs:List PyData):List PyData:=((ks.zip xs).mergeSort fun a b=>decide (b.1<=a.1)).map (·.2)
def bA1 (ks:List Int) (xs:List PyData):List PyData:=bR6 (ks.map fun k=>-k) xs
def aE6 (xs:List PyData):Option (List PyData):=(match bZ xs with
 | some ns=>if ns.length < 64 then some ((ST.srt ns).map .int) else none
 | none=>(aQ4 xs).bind fun ks=>if ks.Nodup/\xs.length < 64 then some (bA1 ks xs) else none)
def iZ:List W->aA->Option (List PyData×aA)
 | [w],h=>(match ref h w with
  | some (.list xs)=>(aE6 xs).map fun zs=>(zs,h)
  | some (.tuple xs)=>(aE6 xs).map fun zs=>(zs,h)
  | none=>(uR w h).bind fun kvs=>(bZ (kvs.map (·.1))).bind fun ns=>if ns.length < 64 then some ((ST.srt ns).map .int,h) else none
  | _=>none)
 | _,_=>none
noncomputable def ssS:(l:List Expr)->Option {a:Expr // ∃ p2 q,l=[.Call (.Name "set" p2) [a] [] q]}
 | [.Call (.Name y p2) [a] [] q]=>if h:y="set" then some ⟨a,p2,q,by rw [h]⟩ else none
 | _=>none
def xSS:List W->aA->Option (List PyData×aA)
 | [w],h=>(match ref h w with
  | some (.list xs)=>(bZ xs).bind fun ns=>if (ST.dd ns).length < 64/\ns.length<=4000 then some ((ST.srt (ST.dd ns)).map .int,h) else none
  | _=>none)
 | _,_=>none
def xPl (x:XR (List W)):XR (List PyData):=xb x fun ws=>fun _ h=>(match cO ws with
 | some xs=>if xs.length<=sizeLine then some (xs,h) else none
 | none=>none)
def zM:List W->aA->Option (List PyData×aA)
 | [.d (.int j)],h=>if dY 0 j=true then some (rng 0 (j - 0).toNat,h) else none
 | [.d (.int i),.d (.int j)],h=>if dY i j=true then some (rng i (j - i).toNat,h) else none
 | _,_=>none
def mB:List W->aA->Option (List PyData×aA)
 | [w],h=>(match ref h w with
  | some (.list xs)=>some (xs,h)
  | some (.tuple xs)=>some (xs,h)
  | _=>none)
 | _,_=>none
noncomputable def cL0:(l:List Expr)->Option {y:Expr×List Expr // ∃ p q,l=[.Call (.Name "range" p) (y.1::y.2) [] q]}
 | [.Call (.Name y p) (a::as) [] q]=>if h:y="range" then some ⟨(a,as),p,q,by rw [h]⟩ else none
 | _=>none
def okC (x:Str):Bool:=cR st x&&(slot st x).isNone&&st.bl.contains x
def bV (e:Expr):XR (List PyData):=match e with
 | .List es _=>xPl (aR v st es)
 | .ListComp elt [⟨tg,iter,ifs,a⟩] sc _=>if a=0 then kU v st elt tg iter ifs sc else xno
 | .BinOp a .Add b _=>xb (v.E st a) fun u=>xb (v.E st b) fun w=>fun _ h=>(match ref h u,ref h w with
  | some (.list xs),some (.list ys)=>if xs.length+ys.length<=sizeLine then some (xs++ys,h) else none
  | _,_=>none)
 | .BinOp (.List es p) .Mult b _=>xb (bT (xPl (aR v st es))) fun u=>xb (v.E st b) fun w=>fun _ h=>(match u,w with
  | .c i,.d (.int k)=>(match h[i]? with
   | some (.l xs)=>if -(2^63)<=k/\k < 2^63/\xs.length*k.toNat<=sizeLine then some ((List.replicate k.toNat xs).flatten,h) else none
   | _=>none)
  | _,_=>none)
 | .Call (.Name x _) (a::es) [] _=>if x="list" then (match cL0 (a::es) with
  | some ⟨y,_⟩=>if okC st x&&okC st "range"&&!st.hm then xb (aR v st (y.1::y.2)) fun ws=>fun _ h=>zM ws h else xno
  | none=>if cR st x&&(slot st x).isNone&&st.bl.contains x then xb (aR v st (a::es)) fun ws=>fun _ h=>mB ws h else xno) else if x="sorted" then (match ssS (a::es) with
  | some ⟨b,_⟩=>if okC st x&&okC st "set"&&aK b&&!st.hm then xb (aR v st [b]) fun ws=>fun _ h=>xSS ws h else xno
  | none=>if okC st x&&!st.hm then xb (aR v st (a::es)) fun ws=>fun _ h=>iZ ws h else xno) else xno
 | _=>xno
noncomputable def uV:Expr->Bool
 | .Slice _ _ _ _=>true
 | _=>false
noncomputable def iH:Expr->Bool
 | .Call _ _ _ _=>false
 | _=>true
noncomputable def sB (o:W) (ws:List W) (h:aA):Option (W×aA):=match o,ws with
 | .c j,[.d x]=>(match h[j]? with
  | some (.l xs)=>if xs.length < sizeLine then some (.d .none,h.set j (.l (xs++[x]))) else none
  | _=>none)
 | .c j,[.c k]=>(match h[j]? with
  | some (.r is)=>if is.length < sizeLine then some (.d .none,h.set j (.r (is++[.c k]))) else none
  | _=>none)
 | _,_=>none
def aQ5 (m:Str):Option (W->List W->aA->Option (W×aA)) :=
 if m="append" then some sB
 else none
noncomputable def mD (m:Str) (w:W) (h:aA):Bool:=if m="append" then (match w with
  | .c j=>(match h[j]? with
   | some (.l _)=>true
   | some (.r _)=>true
   | _=>false)
  | _=>false) else true
def aE7 (o:Expr) (m:Str) (g:W->List W->aA->Option (W×aA)) (args:List Expr):XR W:=xb (v.E st o) fun w=>fun δ h=>if mD m w h=true then (aR v st args δ h).bind fun p=>g w p.1 p.2 else none
def zN (j:Nat) (ws:List W) (h:aA):Option (W×aA):=match ws,h[j]? with
 | [.d (.int i)],some (.k kvs)=>(qG (.inl i) kvs).map fun x=>(x,h.set j (.k (uS (.inl i) kvs)))
 | _,_=>none
def xD (x:XR W) (y:XR (List W)):XR W:=xb x fun w=>fun δ h=>match w with
 | .c j=>(match h[j]? with
  | some (.k _)=>(y δ h).bind fun p=>zN j p.1 p.2
  | _=>none)
 | _=>none
def bE5 (o a:Expr):XR W:=xD (v.E st o) (aR v st [a])
noncomputable def aE8 (w:W) (h:aA):Option (W×aA):=match w with
 | .c j=>(match h[j]? with
  | some (.l _)=>some (.d .none,h.set j (.l []))
  | _=>none)
 | _=>none
def bR7 (o:Expr):XR W:=xb (v.E st o) fun w=>fun _ h=>aE8 w h
noncomputable def bE6 (j:Nat) (ws:List W) (h:aA):Option (W×aA):=match ws,h[j]? with
 | [.d (.tuple ys)],some (.l xs)=>if xs.length+ys.length<=sizeLine then some (.d .none,h.set j (.l (xs++ys))) else none
 | _,_=>none
def bA2 (x:XR W) (y:XR (List W)):XR W:=xb x fun w=>fun δ h=>match w with
 | .c j=>(match h[j]? with
  | some (.l _)=>(y δ h).bind fun p=>bE6 j p.1 p.2
  | _=>none)
 | _=>none
def bE7 (o a:Expr):XR W:=bA2 (v.E st o) (aR v st [a])
noncomputable def bR8:(l:List Expr)->Option {y:Expr×Str // ∃ p,l=[y.1,.Name y.2 p]}
 | [e,.Name T p]=>some ⟨(e,T),p,rfl⟩
 | _=>none
def bE8 (args:List Expr):XR W:=match bR8 args with
 | some ⟨(e,T),_⟩=>if aK e&&cR st T&&(slot st T).isNone&&st.bl.contains T then (match aQ1 T with
   | some Ts=>xb (v.E st e) fun w=>fun _ h=>(ref h w).bind fun d=>if noD d=true then some (.d (.bool (isi d Ts)),h) else none
   | none=>xno) else xno
 | none=>xno
def bE9 (o:Expr) (m:Str) (apos pos:Pos) (args:List Expr):XR W:=if iH o&&(apos.endLine==pos.line) then
   (match args with
    | []=>if m="clear" then bR7 v st o else xno
    | [a]=>if m="pop" then (if aK a=true then bE5 v st o a else xno) else if m="extend" then (if aK a=true then bE7 v st o a else xno) else (match aQ5 m with
     | some g=>aE7 v st o m g args
     | none=>xno)
    | _::_=>if decide (args.length < 29) then (match aQ5 m with
     | some g=>aE7 v st o m g args
     | none=>xno) else xno)
   else xno
def uW (x:Str) (args:List Expr):XR W:=match args with
 | []=>xno
 | _::_=>xb (xB st x) fun w=>(match w with
  | .d (.dict kvs)=>(match lW kvs with
   | some g=>(match st.fn g with
    | some m=>xb (aR v st args) fun ws=>fun _ h=>(m ws h).bind fun p=>some (.d p.1,p.2)
    | none=>xno)
   | none=>xno)
  | _=>xno)
def xE (f:Expr) (args:List Expr) (pos:Pos):XR W:=match f with
 | .Name x _=>if cR st x&&(slot st x).isNone then
   (match st.ob.fnW x with
   | some m=>(match args with
     | []=>xno
     | _::_=>xb (aR v st args) fun ws=>fun _ h=>m ws h)
   | none=>match st.ob.cls x with
   | some _=>xno
   | none=>match st.fn x with
    | some m=>(match args with
     | []=>xno
     | _::_=>xb (aR v st args) fun ws=>fun _ h=>(m ws h).bind fun p=>some (.d p.1,p.2))
    | none=>if st.bl.contains x then
      (match bE1 st.hm x with
       | some g=>(match args with
        | []=>xno
        | _::_=>xb (aR v st args) fun ws=>fun _ h=>g ws h)
       | none=>if x="isinstance" then bE8 v st args
        else aN (bV v st (.Call f args [] pos)))
     else xno)
   else if (slot st x).isSome=true then uW v st x args else xno
 | .Attribute o m apos=>match st.ob.om m with
  | some _=>xno
  | none=>bE9 v st o m apos pos args
 | _=>xno
def okB (x:Str):Bool:=cR st x&&(slot st x).isNone&&st.bl.contains x&&(st.fn x).isNone
noncomputable def fuR:(f:Expr)->(l:List Expr)->Option {y:Expr×Expr // ∃ p p2 q,f=.Name "tuple" p/\l=[.Call (.Name "range" p2) [y.1,y.2] [] q]}
 | .Name x p,[.Call (.Name y p2) [a,b] [] q]=>if h:x="tuple"/\y="range" then some ⟨(a,b),p,p2,q,by rw [h.1],by rw [h.2]⟩ else none
 | _,_=>none
noncomputable def fuV:(f:Expr)->(l:List Expr)->Option {a:Expr // ∃ p p2 q,f=.Name "tuple" p/\l=[.Call (.Name "reversed" p2) [a] [] q]}
 | .Name x p,[.Call (.Name y p2) [a] [] q]=>if h:x="tuple"/\y="reversed" then some ⟨a,p,p2,q,by rw [h.1],by rw [h.2]⟩ else none
 | _,_=>none
noncomputable def xTV:List W->aA->Option (W×aA)
 | [.d (.list xs)],h=>some (.d (.tuple xs.reverse),h)
 | _,_=>none
def xTR:List W->aA->Option (W×aA)
 | [.d (.int i),.d (.int j)],h=>if dY i j=true then some (.d (.tuple (rng i (j - i).toNat)),h) else none
 | _,_=>none
def aE9 (f:Expr) (args:List Expr) (pos:Pos):XR W:=match fuR f args with
 | some ⟨y,_⟩=>if okB st "tuple"&&okB st "range"&&aK y.1&&aK y.2&&!st.hm then xb (aR v st [y.1,y.2]) fun ws=>fun _ h=>xTR ws h else xno
 | none=>match fuV f args with
  | some ⟨a,_⟩=>if okB st "tuple"&&okB st "reversed"&&aK a&&!st.hm then xb (aR v st [a]) fun ws=>fun _ h=>xTV ws h else xno
  | none=>xE v st f args pos
noncomputable def dD (g:XG) (tt:XR Bool) (te:XR W) (co:aA->Bool):List W->DSt->aA->List W->Option (List W×aA)
 | [],_,h,ac=>if co h=true then some (ac,h) else none
 | x::r,δ,h,ac=>if co h=true then
   (g x δ h).bind fun p=>(tt p.1 p.2).bind fun q=>if q.1=true then
     (te p.1 q.2).bind fun y=>dD g tt te co r p.1 y.2 (ac++[y.1])
    else dD g tt te co r p.1 q.2 ac
  else none
noncomputable def wsC (j:Nat) (h:aA):Option (List W):=match h[j]? with
 | some (.l xs)=>some (xs.map .d)
 | some (.r ws)=>some ws
 | _=>none
def weq:W->W->Bool
 | .d x,.d y=>peq x y
 | .c i,.c j=>i==j
 | _,_=>false
def weqs:List W->List W->Bool
 | [],[]=>true
 | x::a,y::b=>weq x y&&weqs a b
 | _,_=>false
def coW (j:Nat) (ws:List W) (h:aA):Bool:=match wsC j h with
 | some us=>weqs us ws
 | none=>false
def plR (ws:List W):Cell:=match cO ws with
 | some xs=>.l xs
 | none=>.r ws
def qH (elt tg iter:Expr) (ifs:List Expr) (sc:Scope):XR W :=
 if pH st.N sc st.S&&!dZ iter then xb (v.E st iter) fun w=>fun δ h=>(match w with
  | .c j=>(wsC j h).bind fun ws=>(dD (v.G (st.blk sc) tg) (zL v (st.blk sc) ifs) (v.E (st.blk sc) elt) (coW j ws) ws (cD (iY st.N sc) δ) h []).bind fun q=>some (.c q.2.length,q.2++[plR q.1])
  | _=>none) else xno
noncomputable def gS (st:Sta):(gs:List Comprehension)->Option {y:Expr×Expr×List Expr // gs=[⟨y.1,y.2.1,y.2.2,0⟩]}
 | [⟨tg,.Name x p,ifs,a⟩]=>if h:a=0/\st.cv.contains (x++"[]")=true then some ⟨(tg,.Name x p,ifs),by rw [h.1]⟩ else none
 | _=>none
def gW (gs:List Comprehension):Option (Expr×Expr×List Expr):=(gS st gs).map (·.1)
def xF (e:Expr):XR W:=match e with
 | .Name x _=>xB st x
 | .Constant c _ _=>aE2 c
 | .BinOp a op b _=>(match a,op with
  | .List es p,.Mult=>aN (bV v st (.BinOp (.List es p) .Mult b p))
  | _,_=>xb (v.E st a) fun u=>xb (v.E st b) fun w=>fun _ h=>fV op u w h)
 | .Compare a ops cs _=>bM (jX v st a ops cs)
 | .BoolOp .And vs _=>aE4 v st vs
 | .BoolOp .Or vs _=>bE2 v st vs
 | .UnaryOp .Not a _=>xb (v.E st a) fun w=>(match w with
  | .d (.bool b)=>aF (.d (.bool (!b)))
  | _=>xno)
 | .UnaryOp .USub a _=>xb (v.E st a) fun w=>(match w with
  | .d (.int i)=>aF (.d (.int (-i)))
  | _=>xno)
 | .IfExp c a b _=>xb (v.T st c) fun t=>if t=true then v.E st a else v.E st b
 | .Tuple es _ _=>xb (xPl (aR v st es)) fun xs=>aF (.d (.tuple xs))
 | .List es p=>aN (bV v st (.List es p))
 | .ListComp elt gs sc p=>(match gW st gs with
  | some (tg,iter,ifs)=>qH v st elt tg iter ifs sc
  | none=>aN (bV v st (.ListComp elt gs sc p)))
 | .Subscript a s _=>(match s with
  | .Slice lo hi none _=>xb (v.E st a) fun x=>xb (uT v st lo) fun l=>xb (uT v st hi) fun u=>fun _ h=>xSl x l u h
  | _=>if uV s=true then xno else (match iX st a with
   | some f=>xb (v.E st s) fun w=>(match w with
    | .d (.str z)=>(match f z with
     | some i=>aF (.d i)
     | none=>xno)
    | _=>xno)
   | none=>xb (v.E st a) fun x=>xb (v.E st s) fun y=>fun _ h=>xIx x y h))
 | .Call f args [] p=>aE9 v st f args p
 | .Call f args (k::ks) p=>aN (bV v st (.Call f args (k::ks) p))
 | .Dict [] [] _=>aF (.d (.dict []))
 | _=>xno
def bA3 (e:Expr):XR Bool:=match e with
 | .UnaryOp .Not a _=>xb (v.T st a) fun b=>aF (!b)
 | .BoolOp .And vs _=>aE5 v st vs
 | .BoolOp .Or vs _=>bE3 v st vs
 | .Compare a ops cs _=>eW v st a ops cs
 | .IfExp _ _ _ _=>xno
 | _=>xb (v.E st e) fun w=>(match w with
  | .d (.bool b)=>aF b
  | _=>xno)
noncomputable def mF:List Expr->List XG
 | []=>[]
 | e::es=>v.G st e::mF es
def zO (j:Nat) (y x:PyData) (δ:DSt) (h:aA):Option (DSt×aA):=match h[j]?,y with
   | some (.l xs),.int k=>(ixN xs.length k).map fun n=>(δ,h.set j (.l (xs.set n x)))
   | some (.r ws),.int k=>(ixN ws.length k).map fun n=>(δ,h.set j (.r (ws.set n (.d x))))
   | some (.k kvs),.int _=>if kvs.length < sizeLine then some (δ,h.set j (.k (lY kvs y (.d x)))) else none
   | _,_=>none
def zP (j:Nat) (y:PyData) (i:Nat) (δ:DSt) (h:aA):Option (DSt×aA):=match h[j]?,y with
   | some (.l xs),.int k=>(ixN xs.length k).map fun n=>(δ,h.set j (.r ((xs.map .d).set n (.c i))))
   | some (.r ws),.int k=>(ixN ws.length k).map fun n=>(δ,h.set j (.r (ws.set n (.c i))))
   | some (.k kvs),.int _=>if kvs.length < sizeLine then some (δ,h.set j (.k (lY kvs y (.c i)))) else none
   | _,_=>none
def sC (a b:XR W):XG:=fun w δ h=>(a δ h).bind fun p=>(b δ p.2).bind fun q=>(match p.1,q.1,w with
  | .c j,.d y,.d x=>zO j y x δ q.2
  | .c j,.d y,.c i=>zP j y i δ q.2
  | _,_,_=>none)
def sD (e:Expr):XG:=match e with
 | .Name x _=>(match slot st x with
  | some i=>if oP st.S x&&(st.top||cG st.S x) then fun w δ h=>some (δ.set i (some w),h) else fun _ _ _=>none
  | none=>fun _ _ _=>none)
 | .Tuple es _ _=>if es.all aK=true then bH (mF v st es) else fun _ _ _=>none
 | .Subscript o i _=>if uV i=true then fun _ _ _=>none else sC (v.E st o) (v.E st i)
 | _=>fun _ _ _=>none
def dH (g:XG) (tt:XR Bool) (te:XR W) (c:Cw) (all:List PyData):List PyData->DSt->aA->List Nat->Option (List Nat×aA)
 | [],_,h,ac=>if condB c all h=true then some (ac,h) else none
 | x::r,δ,h,ac=>if condB c all h=true then
   (g (.d x) δ h).bind fun p=>(tt p.1 p.2).bind fun q=>if q.1=true then
     (te p.1 q.2).bind fun y=>(match y.1 with
      | .c j=>dH g tt te c all r p.1 y.2 (ac++[j])
      | _=>none)
    else dH g tt te c all r p.1 q.2 ac
  else none
def qJ (tg iter:Expr) (ifs:List Expr) (sc:Scope):XR W :=
 if pH st.N sc st.S&&!dZ iter then xb (fP v st tg iter) fun p=>fun δ h=>(dH (v.G (st.blk sc) tg) (zL v (st.blk sc) ifs) (bT (xPl (aF []))) p.2 p.1 p.1 (cD (iY st.N sc) δ) h []).bind fun q=>some (.c q.2.length,q.2++[.r (q.1.map .c)]) else xno
noncomputable def lcS:(e:Expr)->Option {y:Expr×Expr×List Expr×Int×Scope // ∃ p q,e=.ListComp (.List [] p) [⟨y.1,y.2.1,y.2.2.1,y.2.2.2.1⟩] y.2.2.2.2 q}
 | .ListComp (.List [] p) [⟨tg,iter,ifs,a⟩] sc q=>some ⟨(tg,iter,ifs,a,sc),p,q,rfl⟩
 | _=>none
def zQ (e:Expr):XR W:=match lcS e with
 | some ⟨(tg,iter,ifs,a,sc),_⟩=>if a=0 then qJ v st tg iter ifs sc else xno
 | none=>v.E st e
noncomputable def cvS (st:Sta) (tg e:Expr):Bool:=match tg,e with
 | .Subscript (.Name x _) _ _,.List _ _=>st.cv.contains (x++"[]")
 | _,_=>false
noncomputable def iI:Expr->Bool
 | .ListComp _ _ _ _=>true
 | .SetComp _ _ _ _=>true
 | .DictComp _ _ _ _ _=>true
 | _=>false
def aQ8 (e tg:Expr):Bool:=xC e&&(match tg with
 | .Tuple _ _ _=>true
 | .List _ _=>true
 | _=>false)
noncomputable def xSs:List Stmt->XS
 | [],δ,h=>some (.nx δ,h)
 | s::r,δ,h=>(v.S st s δ h).bind fun p=>(match p.1 with
  | .nx δ'=>xSs r δ' p.2
  | f=>some (f,p.2))
noncomputable def bF0:Expr->Bool
 | .Dict [] [] _=>true
 | _=>false
noncomputable def xG:XR W:=fun _ h=>some (.c h.length,h++[.k []])
noncomputable def wfC:Expr->Bool
 | .Call (.Name f _) _ [] _=>(st.ob.fnW f).isSome
 | _=>false
def aQ9 (e:Expr):XR W:=match e with
 | .ListComp _ gs _ _=>if (gW st gs).isSome=true then v.E st e else bT (v.F st e)
 | _=>bT (v.F st e)
noncomputable def aX (i:Nat) (x:XR W):XS:=fun δ h=>(x δ h).bind fun p=>some (.nx (δ.set i (some p.1)),p.2)
def swB (e:Expr) (x:Str) (px:Pos):Bool:=match e with
 | .ListComp _ _ sc p=>cG st.S x&&(px.line==p.line)&&!(sc.names.any fun (n,k)=>n==x&&(k==.local||k==.cell))
 | _=>false
def sE (s:Stmt):XS:=match s with
 | .Return (some e) _=>fun δ h=>((if st.cv.contains "return"=true then aQ9 v st e else v.E st e) δ h).bind fun p=>some (.rt p.1,p.2)
 | .If c a b _=>fun δ h=>(v.T st c δ h).bind fun p=>if p.1=true then xSs v st a δ p.2 else xSs v st b δ p.2
 | .Expr e _=>if iI e=true then fun _ _=>none else fun δ h=>(v.E st e δ h).bind fun p=>some (.nx δ,p.2)
 | .Pass _=>fun δ h=>some (.nx δ,h)
 | .Break _=>fun δ h=>some (.bk δ,h)
 | .Continue _=>fun δ h=>some (.ct δ,h)
 | .For tg iter body [] _=>if dZ iter=true then fun _ _=>none else fun δ h=>(fP v st tg iter δ h).bind fun p=>bY (v.G st tg) (xSs v st body) p.1.2 p.1.1 p.1.1 δ p.2
 | .While c body [] _=>fE (v.T st c) (xSs v st body) st.fuel
 | .Assign [.Name x px] e _=>(match slot st x with
  | some i=>if oP st.S x&&(st.top||cG st.S x) then
    (if iI e=true then (if (swB st e x px||!(cG st.S x))=true then aX i (if st.cv.contains x=true then (if (lcS e).isSome=true then zQ v st e else bT (bV v st e)) else aN (bV v st e)) else fun _ _=>none)
    else if (st.cv.contains x&&bF0 e)=true then aX i xG
    else if (st.cv.contains x&&!(cK9 e||wfC st e))=true then aX i (bT (v.F st e)) else aX i (v.E st e))
   else fun _ _=>none
  | none=>fun _ _=>none)
 | .Assign [.Attribute o f _] e _=>fun _ _=>none
 | .Assign [tg] e _=>if (iI e||aQ8 e tg||!(aK tg))=true then fun _ _=>none else fun δ h=>((if cvS st tg e=true then bT (v.F st e) else v.E st e) δ h).bind fun p=>(v.G st tg p.1 δ p.2).bind fun q=>some (.nx q.1,q.2)
 | _=>fun _ _=>none
end
def step (v:Evs):Evs:=⟨xF v,bA3 v,bV v,sD v,sE v⟩
def evs:Nat->Evs
 | 0=>.no
 | n+1=>step (evs n)

def parsOf (s:Stmt):List Str:=(dN s).args.map (·.arg)
def aY (s:Stmt):List Str:=parsOf s++((defScope s).names.filter fun p=>(p.2==.local||p.2==.cell)&&!((parsOf s).contains p.1)).map (·.1)
def fnB (s:Stmt):Bool:=decide ((defScope s).kind=.function)&&(!(defScope s).isCoroutine&&(!(defScope s).isGenerator&&(decide (aY s).Nodup&&(((parsOf s).all fun x=>oP (defScope s) x)&&((defScope s).names.all fun y=>!(y.2==.free))))))
open Classical in
noncomputable def ends (h0:aA) (p:Fl×aA):Option (PyData×aA):=if okP h0 p.2 then (match p.1 with
 | .nx _=>some (.none,p.2.take h0.length)
 | .rt (.d z)=>some (z,p.2.take h0.length)
 | .rt (.c i)=>(match p.2[i]? with
  | some (.l xs)=>if h0.length<=i then some (.list xs,p.2.take h0.length) else none
  | _=>none)
 | _=>none) else none
noncomputable def kW (p:Fl×aA):Option (W×aA):=match p.1 with
 | .nx _=>some (.d .none,p.2)
 | .rt w=>some (w,p.2)
 | _=>none
structure Top where
 bl:List Str
 gc:Str->Option PyData
 tk:Str->Option (Str->Option PyData)
 defs:Str->Option Stmt
 ac:Str->List Nat
 cv:Str->List Str
 fuel:Nat
 deep:Nat
 wf:Str->Bool
 ini:Str->Option (Addr×Stmt)
 mt:Str->Option (Addr×Stmt)
 fo:Addr->Str->Bool
 qn:Str->Option (Str×Pos)
 hm:Bool:=false
def Top.sta (t:Top) (fn:Str->Option XF) (ob:ObS) (x:Str) (s:Stmt):Sta:=⟨t.bl,t.gc,t.tk,fn,t.ac,t.cv x,aY s,defScope s,true,t.fuel,ob,t.qn x,t.hm⟩
def sF (t:Top) (fn:Str->Option XF) (ob:ObS) (x:Str) (s:Stmt):XF:=fun ws h =>
 if fnB s=true/\ws.length=(parsOf s).length then (xSs (evs t.deep) (t.sta fn ob x s) (aV s) (cN (aY s) ws) h).bind (ends h) else none
def hZ (t:Top) (fn:Str->Option XF) (ob:ObS) (x:Str) (s:Stmt):XFW:=fun ws h =>
 if fnB s=true/\ws.length=(parsOf s).length then (xSs (evs t.deep) (t.sta fn ob x s) (aV s) (cN (aY s) ws) h).bind kW else none
abbrev fnT (t:Top) (D:Str->XF):Str->Option XF:=fun y=>(t.defs y).map fun _=>D y
abbrev obT (t:Top) (W I M:Str->XFW):ObS:=⟨fun y=>if t.wf y=true then (t.defs y).map fun _=>W y else none,fun y=>(t.ini y).map fun p=>(p.1,I y),fun y=>(t.mt y).map fun p=>(p.1,M y),t.fo⟩
mutual
noncomputable def aG (t:Top):Nat->Str->XF
 | 0,_=>fun _ _=>none
 | d+1,x=>(match t.defs x with
  | some s=>sF t (fnT t fun y=>aG t d y) (obT t (fun y=>callW t d y) (fun y=>callI t d y) fun y=>callM t d y) x s
  | none=>fun _ _=>none)
noncomputable def callW (t:Top):Nat->Str->XFW
 | 0,_=>fun _ _=>none
 | d+1,x=>(match t.defs x with
  | some s=>hZ t (fnT t fun y=>aG t d y) (obT t (fun y=>callW t d y) (fun y=>callI t d y) fun y=>callM t d y) x s
  | none=>fun _ _=>none)
noncomputable def callM (t:Top):Nat->Str->XFW
 | 0,_=>fun _ _=>none
 | d+1,x=>(match t.mt x with
  | some (_,s)=>hZ t (fnT t fun y=>aG t d y) (obT t (fun y=>callW t d y) (fun y=>callI t d y) fun y=>callM t d y) x s
  | none=>fun _ _=>none)
noncomputable def callI (t:Top):Nat->Str->XFW
 | 0,_=>fun _ _=>none
 | 1,_=>fun _ _=>none
 | d+2,x=>(match t.ini x with
  | some (_,s)=>hZ t (fnT t fun y=>aG t d y) (obT t (fun y=>callW t d y) (fun y=>callI t d y) fun y=>callM t d y) x s
  | none=>fun _ _=>none)
end
end CI

namespace CI
def bind_some {α β:Type} {x:Option α} {f:α->Option β} {b:β} (e:x.bind f=some b):∃ a,x=some a/\f a=some b:=Option.bind_eq_some_iff.mp e
def map_some {α β:Type} {x:Option α} {f:α->β} {b:β} (e:x.map f=some b):∃ a,x=some a/\f a=b:=Option.map_eq_some_iff.mp e
def aI {α:Type} {c:Prop} [Decidable c] {x:Option α} {b:α} (e:(if c then x else none)=some b):c/\x=some b:=by
 by_cases h:c
 ·rw [if_pos h] at e;exact ⟨h,e⟩
 ·rw [if_neg h] at e;cases e
end CI
namespace DL
open PySem PySem.Spec PyProof.Rows L2 CI
def thn {α:Type} {t:Sem α} {Q Q':α->Shared->Prop} {M:Model} {A:Around} {E:Value->Shared->Prop} {s:Shared} (h:wpAny M A t Q E s) (hQ:∀ a s,Q a s->Q' a s):wpAny M A t Q' E s:=wpAny_mono h hQ fun _ _ x=>x
abbrev Wp (S:Sx) (A:Around) {α:Type} (t:Sem α) (Q:α->Shared->Prop) (E:Value->Shared->Prop) (s:Shared):Prop:=wpAny (model S.P S.w) A t Q E s
def Pw (S:Sx) (κ:Kp) (M:Mp) (h:aA) (w:W) (u:Value) (s:Shared):Prop:=∃ M',Le M M'/\Mem S κ M' h s/\RepW S M' w u
def Pf (S:Sx) (κ:Kp) (M:Mp) (h:aA) (xs:List PyData) (u:Value) (s:Shared):Prop :=
 ∃ M',Le M M'/\Mem S κ M' h s/\∃ a us n,u=.ref a/\s.heap.get? a=some (bQ us n)/\aU κ M' a/\us.length<=sizeLine/\Reps' S M' xs us
def Hk (A:Around) (M:Mp):Prop:=A.handled=none\/∃ b ob ws,A.handled=some (.ref b)/\M.Z b=some ob/\ob.data=.fields ws/\ws[2]?=some .none
def Hk.go {A:Around} {M M':Mp} (H:Hk A M) (l:Le M M'):Hk A M':=H.imp id fun ⟨b,ob,ws,h1,h2,h3⟩=>⟨b,ob,ws,h1,l.z _ _ h2,h3⟩
def Hk.at {S:Sx} {κ:Kp} {A:Around} {M:Mp} {h:aA} {s:Shared} (H:Hk A M) (R:Mem S κ M h s):HkA A s.heap:=H.imp id fun ⟨b,ob,ws,h1,h2,h3⟩=>⟨b,ob,ws,h1,R.z _ _ h2,h3⟩
def Hk.eq {A A1:Around} {M:Mp} (H:Hk A M) (e:A1.handled=A.handled):Hk A1 M:=H.imp e.trans fun ⟨b,ob,ws,h1,h2⟩=>⟨b,ob,ws,e.trans h1,h2⟩
structure Room (S:Sx) (k:Nat) (A:Around):Prop where
 hd:S.hm=false->A.handled=none
 dp:A.depth+3*k+5 < recursionLimit
 un:A.units+16*k+200 < cLine
section
variable {S:Sx} {κ:Kp} {M:Mp} {h h':aA} {s:Shared} {A:Around} {E:Value->Shared->Prop} {x y w:W} {u v:Value} {d:Nat}
def wi {i:Int}:RepW S M (.d (.int i)) u ↔ ∃ t,u=.int i t:=rep_i (S:=S) (Z:=M.Z)
def wb {i:Bool}:RepW S M (.d (.bool i)) u ↔ u=.bool i:=rep_b (S:=S) (Z:=M.Z)
def wn:RepW S M (.d .none) u ↔ u=.none:=rep_n (S:=S) (Z:=M.Z)
def Pw.go {M':Mp} (l:Le M M') (p:Pw S κ M' h w u s):Pw S κ M h w u s:=let ⟨N,a,b⟩:=p;⟨N,l.trans a,b⟩
def Mem.pw (R:Mem S κ M h s) (r:RepW S M w u):Pw S κ M h w u s:=⟨M,.refl,R,r⟩
def Mem.pi (R:Mem S κ M h s) {i:Int} {t t':Nat}:Pw S κ M h (.d (.int i)) (.int i t) { s with toks:=t' }:=(R.tok t').pw (wi.mpr ⟨_,rfl⟩)
def Mem.pb (R:Mem S κ M h s) {b:Bool}:Pw S κ M h (.d (.bool b)) (.bool b) s:=R.pw (wb.mpr rfl)
def Mem.pn (R:Mem S κ M h s):Pw S κ M h (.d .none) .none s:=R.pw (wn.mpr rfl)
def qK {xs:List PyData} (p:Pf S κ M h xs u s):Pw S κ M h (.d (.list xs)) u s:=by
 obtain ⟨N,l,R,a,us,n,rfl,e,f,z,r⟩:=p;exact ⟨N.add a (bQ us n),l.trans (.add f.1),R.frz f e,rep_l.mpr ⟨a,_,us,rfl,iT,⟨⟨n,rfl⟩,z⟩,r.go (.add f.1)⟩⟩
def uX {xs:List PyData} (p:Pf S κ M h xs u s):Pw S κ M (h++[.l xs]) (.c h.length) u s:=by
 obtain ⟨N,l,R,a,us,n,rfl,e,f,z,r⟩:=p;exact ⟨N.cel (a,a),l.trans .cel,R.add f f ⟨⟨_,e⟩,_,e⟩ ⟨us,n,e,z,r.go .cel⟩,(a,a),by show (N.m++[(a,a)])[h.length]?=_;rw [<- R.len];simp,rfl⟩
def Mem.tup {xs:List PyData} {us:List Value} {t:Nat} (R:Mem S κ M h s) (r:Reps' S M xs us) (z:us.length<=sizeLine):Pw S κ M h (.d (.tuple xs)) (.ref s.heap.objs.size) { s with heap:=s.heap.push { cls:=.type "tuple",data:=.seq us.toArray },toks:=t }:=by
 have R1:Mem S κ M h { s with heap:=s.heap.push { cls:=.type "tuple",data:=.seq us.toArray },toks:=t }:=R.kept fun b o e=>Heap.get?_push_of_some _ e;exact ⟨_,.add R.size.1,R1.frz R.size (Heap.get?_push_size _ rfl),rep_t.mpr ⟨_,_,us,rfl,iT,⟨⟨_,rfl⟩,z⟩,r.go (.add R.size.1)⟩⟩
def Mem.lst {h2:Heap} {xs:List PyData} {us:List Value} {n t:Nat} (R:Mem S κ M h s) (k:∀ b o,s.heap.get? b=some o->h2.get? b=some o) (e:h2.get? s.heap.objs.size=some (bQ us n)) (r:Reps' S M xs us) (z:us.length<=sizeLine) :
  Pf S κ M h xs (.ref s.heap.objs.size) { s with heap:=h2,toks:=t }:=⟨M,.refl,R.kept k,_,us,n,rfl,e,R.size,z,r⟩
def Mem.lstP {xs:List PyData} {us:List Value} {n t:Nat} (R:Mem S κ M h s) (r:Reps' S M xs us) (z:us.length<=sizeLine):Pf S κ M h xs (.ref s.heap.objs.size) { s with heap:=s.heap.push (bQ us n),toks:=t } :=
 R.lst (fun b o e=>Heap.get?_push_of_some _ e) (Heap.get?_push_size _ rfl) r z
def dE {xs:List PyData} (R:Mem S κ M h s) (r:RepW S M w u) (e:ref h w=some (.list xs)):∃ a us n,u=.ref a/\s.heap.get? a=some (bQ us n)/\us.length<=sizeLine/\Reps' S M xs us:=by
 cases w with
 | d y =>
  cases e;obtain ⟨a,o,us,e,z,⟨⟨n,rfl⟩,l⟩,r⟩:=rep_l.mp (show Rep S M.Z (.list xs) u from r);exact ⟨a,us,n,e,R.z a _ z,l,r⟩
 | c i =>
  obtain ⟨p,e1,rfl⟩:=r;dsimp only [DL.ref] at e;cases q:h[i]? with
  | none=>rw [q] at e;cases e
  | some c =>
   cases c with
   | l ys=>rw [q] at e;cases e;obtain ⟨us,n,a,b,c⟩:=R.cel i p _ e1 q;exact ⟨_,us,n,rfl,a,b,c⟩
   | _=>rw [q] at e;cases e
def fQ {xs:List PyData} (R:Mem S κ M h s) (r:RepW S M w u) (e:ref h w=some (.tuple xs)):∃ a us n,u=.ref a/\M.Z a=some { cls:=.type "tuple",data:=.seq us.toArray n }/\us.length<=sizeLine/\Reps' S M xs us:=by
 cases w with
 | d y =>
  cases e;obtain ⟨a,o,us,e,z,⟨⟨n,rfl⟩,l⟩,r⟩:=rep_t.mp (show Rep S M.Z (.tuple xs) u from r);exact ⟨a,us,n,e,z,l,r⟩
 | c i =>
  dsimp only [DL.ref] at e;cases q:h[i]? with
  | none=>rw [q] at e;cases e
  | some c=>cases c<;>(rw [q] at e;cases e)
def bR9 {kvs:List (PyData×PyData)} (R:Mem S κ M h s) (r:RepW S M w u) (hf:lW kvs=none) (e:ref h w=some (.dict kvs)):∃ a vs,u=.ref a/\s.heap.DictOf (cM S.P S.w) a vs/\aP7 S M.Z kvs vs/\(a==sysModules)=false/\vs.length<=sizeLine:=by
 cases w with
 | d y =>
  cases e;obtain ⟨a,o,vs,e,z,q,r⟩:=(bA0 hf).mp (show Rep S M.Z (.dict kvs) u from r);exact ⟨a,vs,e,q.2.2 _ (R.z a o z),r,q.1,q.2.1⟩
 | c i =>
  obtain ⟨p,e1,rfl⟩:=r;dsimp only [DL.ref] at e;cases q:h[i]? with
  | none=>rw [q] at e;cases e
  | some c=>cases c<;>(rw [q] at e;cases e)
def bW {a:Addr} {us:List Value} {n:Nat} (e:s.heap.get? a=some (bQ us n)):PlainL s.heap a us.toArray:=⟨_,n,e,rfl,rfl,rfl⟩
def fW {hp:Heap} {a:Addr} {us:List Value} {n:Nat} (e:hp.get? a=some { cls:=.type "tuple",data:=.seq us.toArray n }):IsTup hp a us.toArray:=⟨_,e,rfl,n,rfl⟩
def sH {x:W} {d:PyData} (R:Mem S κ M h s) (r:RepW S M x u) (e:ref h x=some d) (p:aM 64 d=true):(∃ as,Reads s.heap u d as)/\SeqAt.shaped d=true:=by
 have go:(∃ as,Reads s.heap u d as)/\d.canLay0=true/\d.depth<=64:=by
  cases x with
  | d y=>cases e;exact Rep.reads R.z 64 r p
  | c i =>
   cases d with
   | list xs =>
    obtain ⟨a,us,n,rfl,ho,_,rr⟩:=dE R r e;obtain ⟨⟨as,q⟩,c,l⟩:=Reps.reads R.z 63 (reps_iff.mpr rr) (by simpa [aM] using p);exact ⟨⟨_,Reads.list ho rfl rfl (by simpa using q)⟩,by simp [PyData.canLay0,PyData.depth,c,l]⟩
   | dict _=>simp [aM] at p
   | _ =>
    dsimp only [DL.ref] at e;cases q:h[i]? with
    | none=>rw [q] at e;cases e
    | some c=>cases c<;>(rw [q] at e;cases e)
 exact ⟨go.1,by unfold SeqAt.shaped;rw [go.2.1];simpa using go.2.2⟩
def bF1 {j:Int} (h:bS j=true):0 < j/\j.natAbs.log2 < 9000:=by
 unfold bS at h;simp only [Bool.and_eq_true,Bool.or_eq_true,decide_eq_true_eq] at h;refine ⟨h.1,?_⟩;rcases h.2 with z | z
 ·have h0:j.natAbs≠0:=by omega
  have:=(Nat.log2_lt h0 (k:=30)).mpr (by omega);omega
 ·omega
def uY (k:Nat):(0:Int)<=2^k:=by rw [two_pow_cast];exact Int.natCast_nonneg _
def bF2 {i j:Int} (h:dK i j=true):IntMulOk i j:=by
 unfold dK at h;simp only [Bool.and_eq_true,Bool.or_eq_true,decide_eq_true_eq] at h;rcases h with ⟨h1,h2⟩ | ⟨h1,h2⟩
 ·exact .of_left (intBits_le_64 h1 h2)
 ·exact .of_right (intBits_le_64 h1 h2)
def bF3 (R:Mem S κ M h s) (ra:RepW S M x u) (rb:RepW S M y v) (e:bD9 x y h=some (w,h')):Wp S A (binaryOp .Add u v) (Pw S κ M h' w) E s:=by
 unfold bD9 at e;split at e
 ·cases e;obtain ⟨t,rfl⟩:=wi.mp ra;obtain ⟨t',rfl⟩:=wi.mp rb;exact add_int R.pi
 ·obtain ⟨hz,e⟩:=aI e;cases e;obtain ⟨a,us,n,rfl,ea,la,ra'⟩:=fQ (h:=h) R ra rfl;obtain ⟨b,vs,m,rfl,eb,lb,rb'⟩:=fQ (h:=h) R rb rfl;have l1:=ra'.length;have l2:=rb'.length
  by_cases e1:us=[]
  ·subst e1;cases ra';refine concat_meets ⟨_,R.z _ _ ea,rfl⟩ ⟨_,R.z _ _ eb,rfl⟩ noFill_tuple_add seq_tuple_add PySem.F.slot_tuple_add PySem.F.entry_tuple_add (PySem.F.args_tuple_add_2 _ _) (tuple_addW0 a b _ _ n m none none #[] #[] rfl) ⟨R.z _ _ ea,R.z _ _ eb,?_⟩;exact R.pw rb
  ·refine HT.cat_tup (fW (R.z _ _ ea)) (fW (R.z _ _ eb)) e1 (fun z=>?_) (fun _=>?_) (by omega)
   ·subst z;cases rb';rw [List.append_nil];exact R.pw ra
   ·exact R.tup (t:=s.toks) (zH ra' rb') (by rw [List.length_append];omega)
 ·split at e
  ·rename_i ha hb;obtain ⟨hz,e⟩:=aI e;cases e;obtain ⟨a,us,n,rfl,ea,la,ra'⟩:=dE R ra ha;obtain ⟨b,vs,m,rfl,eb,lb,rb'⟩:=dE R rb hb;have l1:=ra'.length;have l2:=rb'.length;refine PySem.P.add_list ea eb ?_ (by rw [List.size_toArray,List.size_toArray];omega);have ea:us.toArray++vs.toArray=(us++vs).toArray:=by simp
   rw [ea];exact qK (R.lstP (t:=s.toks) (zH ra' rb') (by rw [List.length_append];omega))
  ·cases e
theorem pI (its:List Value):∀ (k:Nat) (acc:List Value),List.foldl (fun x1 x2=>x1++x2) acc.toArray (List.replicate k its.toArray)=(acc++(List.replicate k its).flatten).toArray
 | 0,acc=>by simp
 | k+1,acc=>by
  have e:acc.toArray++its.toArray=(acc++its).toArray:=by simp
  have e2:(acc++its)++(List.replicate k its).flatten=acc++(List.replicate (k+1) its).flatten:=by
   rw [List.replicate_succ,List.flatten_cons,List.append_assoc]
  rw [<- e2,<- pI its k (acc++its),<- e,List.replicate_succ,List.foldl_cons]
def aR0 {α:Type} (xs:List α) (k:Nat):(List.replicate k xs).flatten.length=k*xs.length:=by
 induction k with
 | zero=>simp
 | succ k ih=>rw [List.replicate_succ,List.flatten_cons,List.length_append,ih,Nat.succ_mul,Nat.add_comm]
theorem bS0 {S:Sx} {M:Mp} {xs:List PyData} {us:List Value} (r:Reps' S M xs us):∀ k,Reps' S M (List.replicate k xs).flatten (List.replicate k us).flatten
 | 0=>.nil
 | k+1=>by rw [List.replicate_succ,List.replicate_succ,List.flatten_cons,List.flatten_cons];exact zH r (bS0 r k)
def bin_ok {op:Operator} (R:Mem S κ M h s) (ra:RepW S M x u) (rb:RepW S M y v) (e:fV op x y h=some (w,h')):Wp S A (binaryOp op u v) (Pw S κ M h' w) E s:=by
 unfold fV at e;split at e
 ·exact bF3 R ra rb e
 ·unfold bR4 at e;split at e
  ·obtain ⟨hm,e⟩:=aI e;cases e;obtain ⟨t,rfl⟩:=wi.mp ra;obtain ⟨t',rfl⟩:=wi.mp rb;exact mul_int R.pi (bF2 hm)
  ·cases e
 ·split at e
  ·rename_i i j;obtain ⟨t,rfl⟩:=wi.mp ra;obtain ⟨t',rfl⟩:=wi.mp rb;split at e
   ·cases e;exact sub_int R.pi
   ·obtain ⟨hm,e⟩:=aI e;cases e;obtain ⟨h1,h2⟩:=bF1 hm;exact floordiv_int (by omega) (by rw [Int.fdiv_eq_ediv_of_nonneg i (by omega)];exact R.pi) (.inl (PyProof.noPylong_of_log2 h2))
   ·obtain ⟨hm,e⟩:=aI e;cases e;exact mod_int' (by omega) (by rw [Int.fmod_eq_emod_of_nonneg i (by omega)];exact R.pi)
   ·obtain ⟨hm,e⟩:=aI e;cases e;unfold pG at hm;simp only [Bool.and_eq_true,decide_eq_true_eq] at hm;exact pow_int_small hm.1 hm.2.1 hm.2.2 R.pi
   ·obtain ⟨hm,e⟩:=aI e;cases e;exact rshift_int hm (by rw [Int.fdiv_eq_ediv_of_nonneg i (uY _)];exact R.pi)
   ·cases e
  ·cases e
def bF4 {i:Int} (R:Mem S κ M h s) (ra:RepW S M (.d (.int i)) u):Wp S A (unaryOp .USub u) (Pw S κ M h (.d (.int (-i)))) E s:=by
 obtain ⟨t,rfl⟩:=wi.mp ra;exact neg_int R.pi
def mG {Z:Zm} {a b:PyData} {k:Bool} (ra:Rep S Z a u) (rb:Rep S Z b v) (e:isSame a b=some k):plainIs u v=true/\(u==v)=k:=by
 cases b with
 | none =>
  rw [Rep] at rb;subst rb;cases a with
  | none=>rw [Rep] at ra;subst ra;cases e;exact ⟨rfl,rfl⟩
  | bool c=>rw [Rep] at ra;subst ra;cases e;exact ⟨rfl,rfl⟩
  | int c=>rw [Rep] at ra;obtain ⟨t,rfl⟩:=ra;cases e;exact ⟨rfl,rfl⟩
  | str c=>rw [Rep] at ra;obtain ⟨⟨t,rfl⟩,_⟩:=ra;cases e;exact ⟨rfl,rfl⟩
  | list c=>rw [Rep] at ra;obtain ⟨p,o,vs,rfl,_⟩:=ra;cases e;exact ⟨rfl,rfl⟩
  | tuple c=>rw [Rep] at ra;obtain ⟨p,o,vs,rfl,_⟩:=ra;cases e;exact ⟨rfl,rfl⟩
  | dict c=>cases e
 | bool b =>
  rw [Rep] at rb;subst rb;cases a with
  | none=>rw [Rep] at ra;subst ra;cases e;exact ⟨rfl,rfl⟩
  | bool c=>rw [Rep] at ra;subst ra;cases e;cases b<;>cases c<;>exact ⟨rfl,rfl⟩
  | int c=>rw [Rep] at ra;obtain ⟨t,rfl⟩:=ra;cases e;exact ⟨rfl,rfl⟩
  | str c=>rw [Rep] at ra;obtain ⟨⟨t,rfl⟩,_⟩:=ra;cases e;exact ⟨rfl,rfl⟩
  | list c=>rw [Rep] at ra;obtain ⟨p,o,vs,rfl,_⟩:=ra;cases e;exact ⟨rfl,rfl⟩
  | tuple c=>rw [Rep] at ra;obtain ⟨p,o,vs,rfl,_⟩:=ra;cases e;exact ⟨rfl,rfl⟩
  | dict c=>cases e
 | _=>cases a<;>cases e
end
end DL

namespace DL
open PySem PySem.Spec PyProof.Rows L2 CI
section
variable {S:Sx} {κ:Kp} {M:Mp} {h h':aA} {s:Shared} {A:Around} {E:Value->Shared->Prop} {x y w:W} {u v:Value} {d:Nat} {b:Bool}
def Room.u64 (r:Room S d A):A.units+64 < cLine:=by have:=r.un;omega
def Room.u65 (r:Room S d A):A.units+65 < cLine:=by have:=r.un;omega
def uZ {z:PyData} {k:Key} {Z:Zm} (e:cQ z=some k) (r:Rep S Z z u):(cM S.P S.w).is k u=true:=by
 cases z with
 | int i=>cases e;obtain ⟨t,rfl⟩:=rep_i.mp r;exact kS _ _ i t
 | str z =>
  unfold cQ at e;obtain ⟨_,e⟩:=aI e;cases e;obtain ⟨⟨t,rfl⟩,_⟩:=rep_s.mp r;exact rV _ _ z t
 | _=>cases e
def bA4 {kvs:List (PyData×W)} (R:Mem S κ M h s) (r:RepW S M w u) (e:uR w h=some kvs):∃ j p,w=.c j/\h[j]?=some (.k kvs)/\M.m[j]?=some p/\u=.ref p.1:=by
 unfold uR at e;split at e
 ·rename_i j;split at e
  ·rename_i ej;cases e;obtain ⟨p,ep,rfl⟩:=r;exact ⟨j,p,rfl,ej,ep,rfl⟩
  ·cases e
 ·cases e
def jY (k:Key) {kvs:List (PyData×W)} {vs:List (Key×Value)} (r:RepKW S M kvs vs):(∀ w,qG k kvs=some w->∃ v,valueAt vs k=some v/\RepW S M w v)/\(qG k kvs=none->valueAt vs k=none):=by
 unfold valueAt qG;induction r with
 | nil=>exact ⟨fun p e=>(nomatch e),fun _=>rfl⟩
 | @cons p q ps qs hp _ ih =>
  by_cases e:q.1=k
  ·have a1:decide (cQ p.1=some k)=true:=by rw [hp.1,e];simp
   simp only [List.find?_cons,a1,decide_eq_true e];exact ⟨fun _ ep=>by cases ep;exact ⟨_,rfl,hp.2⟩,fun ep=>by cases ep⟩
  ·have a1:decide (cQ p.1=some k)=false:=by rw [hp.1];simpa using e
   simp only [List.find?_cons,a1,decide_eq_false e];exact ih
theorem sJ {α:Type} (p:α->Bool):∀ xs:List α,xs.any p=(xs.find? p).isSome
 | []=>rfl
 | x::r=>by
  rw [List.any_cons];cases e:p x with
  | true=>rw [List.find?_cons_of_pos e];rfl
  | false=>rw [List.find?_cons_of_neg (by rw [e];exact Bool.false_ne_true),<- sJ p r];rfl
def aF0 (k:Key) {kvs:List (PyData×W)} {vs:List (Key×Value)} (r:RepKW S M kvs vs):qF k kvs=(valueAt vs k).isSome:=by
 unfold qF;rw [sJ];obtain ⟨f1,f2⟩:=jY k r;unfold qG at f1 f2;cases q:kvs.find? fun p=>decide (cQ p.1=some k) with
 | none=>rw [q] at f2;rw [f2 rfl];rfl
 | some p=>rw [q] at f1;obtain ⟨v,e,_⟩:=f1 _ rfl;rw [e];rfl
def xH {z:PyData} {k:Key} (R:Mem S κ M h s) (r:RepW S M x u) (e:ref h x=some z) (ek:cQ z=some k):(cM S.P S.w).is k u=true:=by
 cases x with
 | d y=>cases e;exact uZ ek r
 | c i =>
  dsimp only [DL.ref] at e;cases q:h[i]? with
  | none=>rw [q] at e;cases e
  | some c=>cases c<;>(rw [q] at e;cases e)<;>cases ek
def bA5 {neg:Bool} (hr:Room S d A) (R:Mem S κ M h s) (ra:RepW S M x u) (rb:RepW S M y v) (e:xIn x y h=some b):Wp S A (compareOp (if neg then .NotIn else .In) u v) (Pw S κ M h (.d (.bool (neg ^^ b)))) E s:=by
 unfold xIn at e;split at e
 ·rename_i z xs ea eb;obtain ⟨hp,e⟩:=aI e;cases e;rw [Bool.and_eq_true] at hp;obtain ⟨⟨bs,z2⟩,q2⟩:=sH R rb eb hp.1;obtain ⟨⟨as,z1⟩,q1⟩:=sH R ra ea hp.2;cases neg
  ·exact SeqAt.in_list_reads z2 z1 (SeqAt.canLay_of_shaped q2) (SeqAt.canLay_of_shaped q1) (room_in_shaped q1 hr.u65) (by simpa using R.pb)
  ·exact SeqAt.notIn_list_reads z2 z1 (SeqAt.canLay_of_shaped q2) (SeqAt.canLay_of_shaped q1) (room_in_shaped q1 hr.u65) (by simpa using R.pb)
 ·rename_i z xs ea eb;obtain ⟨hp,e⟩:=aI e;cases e;rw [Bool.and_eq_true] at hp;obtain ⟨⟨bs,z2⟩,q2⟩:=sH R rb eb hp.1;obtain ⟨⟨as,z1⟩,q1⟩:=sH R ra ea hp.2;cases neg
  ·exact SeqAt.in_tuple_reads z2 z1 (SeqAt.canLay_of_shaped q2) (SeqAt.canLay_of_shaped q1) (room_in_shaped q1 hr.u65) (by simpa using R.pb)
  ·exact SeqAt.notIn_tuple_reads z2 z1 (SeqAt.canLay_of_shaped q2) (SeqAt.canLay_of_shaped q1) (room_in_shaped q1 hr.u65) (by simpa using R.pb)
 ·rename_i z ea eb;obtain ⟨kvs,ek,e⟩:=bind_some (show (uR y h).bind _=_ from e);obtain ⟨k,ez,e⟩:=map_some e;cases e;obtain ⟨j,p,rfl,ej,ep,rfl⟩:=bA4 R rb ek;obtain ⟨vs,dd,rk,hd,_⟩:=R.cel j p _ ep ej;rw [aF0 k rk];cases neg
  ·exact wpAny_in_of (xH R ra ea ez) hd dd.mapOf (by simpa using (R.tok _).pb)
  ·exact wpAny_notIn_of (xH R ra ea ez) hd dd.mapOf (by simpa using (R.tok _).pb)
 ·cases e
def fX {op:CmpOp} {p:Bool×aA} (hr:Room S d A) (R:Mem S κ M h s) (ra:RepW S M x u) (rb:RepW S M y v) (e:dO op x y h=some p):p.2=h/\Wp S A (compareOp op u v) (Pw S κ M h (.d (.bool p.1))) E s:=by
 unfold dO at e;split at e
 ·obtain ⟨b,e1,rfl⟩:=map_some e;refine ⟨rfl,?_⟩;unfold xEq at e1;split at e1
  ·rename_i ea eb;obtain ⟨hp,e1⟩:=aI e1;cases e1;rw [Bool.and_eq_true] at hp;obtain ⟨⟨as,z1⟩,q1⟩:=sH R ra ea hp.1;obtain ⟨⟨bs,z2⟩,q2⟩:=sH R rb eb hp.2;exact eq_dataH z1 z2 q1 q2 hr.u64 R.pb
  ·cases e1
 ·obtain ⟨b,e1,rfl⟩:=map_some e;refine ⟨rfl,?_⟩;unfold xEq at e1;split at e1
  ·rename_i ea eb;obtain ⟨hp,e1⟩:=aI e1;cases e1;rw [Bool.and_eq_true] at hp;obtain ⟨⟨as,z1⟩,q1⟩:=sH R ra ea hp.1;obtain ⟨⟨bs,z2⟩,q2⟩:=sH R rb eb hp.2;exact ne_dataH z1 z2 q1 q2 hr.u64 R.pb
  ·cases e1
 ·obtain ⟨b,e1,rfl⟩:=map_some e;unfold xIs at e1;split at e1
  ·obtain ⟨h1,h2⟩:=mG ra rb e1;exact ⟨rfl,wpAny_is_plain h1 (by rw [h2];exact R.pb)⟩
  ·cases e1;obtain ⟨p,_,rfl⟩:=ra;cases rep_n.mp (show Rep S M.Z .none v from rb);exact ⟨rfl,wpAny_is_plain rfl R.pb⟩
  ·cases e1
 ·obtain ⟨b,e1,rfl⟩:=map_some e;unfold xIs at e1;split at e1
  ·obtain ⟨h1,h2⟩:=mG ra rb e1;exact ⟨rfl,wpAny_isNot_plain h1 (by rw [h2];exact R.pb)⟩
  ·cases e1;obtain ⟨p,_,rfl⟩:=ra;cases rep_n.mp (show Rep S M.Z .none v from rb);exact ⟨rfl,wpAny_isNot_plain rfl R.pb⟩
  ·cases e1
 ·obtain ⟨b,e1,rfl⟩:=map_some e;exact ⟨rfl,by simpa using bA5 (neg:=false) (A:=A) (E:=E) hr R ra rb e1⟩
 ·obtain ⟨b,e1,rfl⟩:=map_some e;exact ⟨rfl,by simpa using bA5 (neg:=true) (A:=A) (E:=E) hr R ra rb e1⟩
 ·split at e
  ·obtain ⟨f,e1,rfl⟩:=map_some e;obtain ⟨t,rfl⟩:=wi.mp ra;obtain ⟨t',rfl⟩:=wi.mp rb;refine ⟨rfl,?_⟩;cases op<;>cases e1
   ·exact lt_int R.pb
   ·exact le_int R.pb
   ·exact gt_int R.pb
   ·exact ge_int R.pb
  ·cases e
def qL {n:Nat} {i:Int} {j:Nat} (h:ixN n i=some j):seqIndex? i n=some j/\j < n/\-(n:Int)<=i/\i < n:=by
 unfold ixN at h
 by_cases h0:0<=i
 ·rw [if_pos h0] at h;obtain ⟨h1,h⟩:=aI h;cases h;exact ⟨seqIndex_of h0 h1,by omega,by omega,h1⟩
 ·rw [if_neg h0] at h;obtain ⟨h1,h⟩:=aI h;cases h;exact ⟨seqIndex_neg (by omega) h1,by omega,h1,by omega⟩
def qM {α β:Type} {F:α->β->Prop} {l:List α} {r:List β} {i:Int} {a:α} (p:Paired F l r) (e:atI l i=some a):∃ j b,seqIndex? i r.length=some j/\r[j]?=some b/\F a b/\-(r.length:Int)<=i/\i < r.length:=by
 obtain ⟨j,h1,h2⟩:=bind_some e;obtain ⟨b,h3,h4⟩:=lV p h2;rw [p.length] at h1;obtain ⟨q1,_,q3,q4⟩:=qL h1;exact ⟨j,b,q1,h3,h4,q3,q4⟩
def mH:(sizeLine:Nat) < 2^62:=by decide
def aF1 {us:List Value} {n:Nat} {a:Addr} {i:Int} {t:Tok} {j:Nat} {c:Value} {value slice:Expr} {Q:Value->Shared->Prop} (ho:s.heap.get? a=some (bQ us n)) (hz:us.length<=sizeLine) (h1:seqIndex? i us.length=some j) (h2:us[j]?=some c) (h3:-(us.length:Int)<=i) (h4:i < us.length)
  (hs:subscripted slice false (.ref a) (.int i t)=operate [.ref a,.int i t] (getItem (.ref a) (.int i t))) (q:Q c s):Wp S A (subscriptTail value slice (.ref a) (.int i t)) Q E s:=by
 have hn:=mH
 by_cases h0:0<=i
 ·have hj:i.toNat=j:=by rw [seqIndex_of h0 h4] at h1;exact Option.some.inj h1
  exact item_listR (bW ho).isList h0 (by omega) (by rw [hj];simpa using h2) q hs
 ·have hj:(i+(us.toArray.size:Int)).toNat=j:=by rw [seqIndex_neg (by omega) h3] at h1;rw [List.size_toArray];exact Option.some.inj h1
  exact subscriptTail_builtinR (x:=c) (bW ho).isList.typeIs slot_list_getitem.lookup
   (wpAny_getItem_list_neg (Q:=fun r s'=>r=c/\Q r s') (bW ho).isList (by omega) (by rw [List.size_toArray]<;>omega) (by omega) (by rw [hj];simpa using h2) ⟨rfl,q⟩) hs
def xI {T id:String} {o i:Value} {value slice:Expr} {Q:Value->Shared->Prop} (hT:s.TypeIs o T) (hl:typeLookup (.type T) "__getitem__"=pure (some (.builtin id))) (hs:subscripted slice false o i=operate [o,i] (getItem o i)) (h:Wp S A (getItem o i) Q E s):Wp S A (subscriptTail value slice o i) Q E s:=by
 unfold subscriptTail;refine wpAny_bind ?_;rw [getitemInPython_of_ne hT.not_modules];refine wpAny_bind (wpAny_specialOf hT hl ?_);have fin:Wp S A (subscripted slice false o i) (fun r s₃=>Wp S A (letTemporaryGo value o r >>= fun _=>pure r) Q E s₃) E s:=by
  rw [hs];exact wpAny_operating (wpAny_mono h (fun r s₃ h₃=>wpAny_bind (wpAny_letTemporaryGo (wpAny_pure h₃))) fun _ _ x=>x)
 first
  | exact wpAny_pure (wpAny_bind fin)
  | exact wpAny_bind (wpAny_pure (wpAny_bind fin))
  | exact wpAny_bind fin
def bS1 {value slice:Expr} (hr:Room S d A) (R:Mem S κ M h s) (ra:RepW S M x u) (rb:RepW S M y v) (e:xIx x y h=some (w,h')) (hs:∀ o i,subscripted slice false o i=operate [o,i] (getItem o i)):Wp S A (subscriptTail value slice u v) (Pw S κ M h' w) E s:=by
 unfold xIx at e;cases ea:ref h x with
 | none =>
  rw [ea] at e;cases y with
  | c _=>cases e
  | d y =>
   cases y with
   | int k =>
    replace e:xIr x k h=some (w,h'):=e
    unfold xIr at e;split at e
    ·rename_i i;split at e
     ·rename_i is ei;obtain ⟨z,ez,e⟩:=map_some e;cases e;obtain ⟨t,rfl⟩:=wi.mp rb;obtain ⟨p,ep,rfl⟩:=ra;obtain ⟨us,n,ho,hz,rr⟩:=R.cel i p _ ep ei;obtain ⟨j,c,h1,h2,h3,h4,h5⟩:=qM rr ez;exact aF1 ho hz h1 h2 h4 h5 (hs _ _) (R.pw h3)
     ·rename_i kvs ei;obtain ⟨z,ez,e⟩:=map_some e;cases e;obtain ⟨p,ep,rfl⟩:=ra;obtain ⟨vs,dd,rk,hd,_⟩:=R.cel i p _ ep ei;obtain ⟨c,hc,rc⟩:=(jY (.inl k) rk).1 _ ez;exact xI dd.typeIs PySem.F.slot_dict_getitem.lookup (hs _ _) (wpAny_getItem_of (uZ (z:=.int k) (Z:=M.Z) rfl rb) dd.mapOf hc ((R.tok _).pw rc))
     ·cases e
    ·cases e
   | _=>cases e
 | some t =>
  rw [ea] at e;cases t with
  | list xs =>
   cases y with
   | c _=>cases e
   | d y =>
    cases y with
    | int i =>
     obtain ⟨z,ez,e⟩:=map_some e;cases e;obtain ⟨t,rfl⟩:=wi.mp rb;obtain ⟨a,us,n,rfl,ho,hz,rr⟩:=dE R ra ea;obtain ⟨j,c,h1,h2,h3,h4,h5⟩:=qM rr ez;exact aF1 ho hz h1 h2 h4 h5 (hs _ _) (R.pw h3)
    | _=>cases e
  | tuple xs =>
   cases y with
   | c _=>cases e
   | d y =>
    cases y with
    | int i =>
     obtain ⟨z,ez,e⟩:=map_some e;cases e;obtain ⟨t,rfl⟩:=wi.mp rb;obtain ⟨a,us,n,rfl,ho,hz,rr⟩:=fQ R ra ea;obtain ⟨j,c,h1,h2,h3,h4,h5⟩:=qM rr ez;have pl:=fW (R.z _ _ ho);have hn:=mH;exact subscriptTail_builtinR (x:=c) pl.typeIs slot_tuple_getitem.lookup (getItem_tuple (j:=j) (Q:=fun r s'=>r=c/\Pw S κ M h (.d z) r s') pl (by omega) (by omega) (by rw [List.size_toArray];exact h1) (by simpa using h2) ⟨rfl,R.pw h3⟩) (hs _ _)
    | _=>cases e
  | _=>cases e
end
end DL

namespace DL
open PySem PySem.Spec PyProof.Rows L2 CI
section
variable {S:Sx} {κ:Kp} {M:Mp} {h h':aA} {s:Shared} {A:Around} {E:Value->Shared->Prop} {x y w:W} {u v:Value} {d:Nat} {b:Bool} {ws:List W} {us:List Value}
def aF2 {α:Type} (xs:List α) (lo hi:Option Int):((xs.drop (HT.sIx xs.length 0 lo)).take (HT.sIx xs.length xs.length hi - HT.sIx xs.length 0 lo)).length<=xs.length:=by rw [List.length_take,List.length_drop];omega
def qN (lo hi:Option Int) (n:Nat):(sliceBounds lo hi none n).1=((HT.sIx n 0 lo:Nat):Int)/\(sliceBounds lo hi none n).2.1=((HT.sIx n n hi:Nat):Int)/\(sliceBounds lo hi none n).2.2=1:=by
 refine ⟨?_,?_,rfl⟩
 ·cases lo with
  | none=>simp [sliceBounds,HT.sIx]
  | some i =>
   simp only [sliceBounds,HT.sIx,Option.getD_none,show (1:Int) > 0 by decide,if_true]
   by_cases h:i < 0
   ·simp only [h,if_true]<;>omega
   ·simp only [h,if_false]<;>omega
 ·cases hi with
  | none=>simp [sliceBounds,HT.sIx]
  | some i =>
   simp only [sliceBounds,HT.sIx,Option.getD_none,show (1:Int) > 0 by decide,if_true]
   by_cases h:i < 0
   ·simp only [h,if_true]<;>omega
   ·simp only [h,if_false]<;>omega
def oQ (its:List Value) (lo hi:Option Int):slicePick its.toArray lo hi none=((its.drop (HT.sIx its.length 0 lo)).take (HT.sIx its.length its.length hi - HT.sIx its.length 0 lo)).toArray:=by
 obtain ⟨h1,h2,h3⟩:=qN lo hi its.toArray.size;unfold slicePick;rw [h1,h2,h3];simp only [sliceRange_one,pick_run,List.size_toArray]<;>rfl
def zR {prog:Program} {w:World} {A:Around} {E:Value->Shared->Prop} {s:Shared} {t sl:Addr} {items:Array Value} {vl vu:Value} {lo hi:Option Int} {Q:Value->Shared->Prop} (ht:IsTup s.heap t items) (hs:s.heap.IsSliceOf sl vl vu .none) (pl:IsPart vl lo) (pu:IsPart vu hi)
  (hw:HT.sIx items.size 0 lo=0/\HT.sIx items.size items.size hi=items.size) (h:Q (.ref t) s):wpAny (model prog w) A (getItem (.ref t) (.ref sl)) Q E s:=by
 obtain ⟨os,hos,hcs,hds⟩:=id hs;have hTs:s.TypeIs (.ref sl) "slice":=⟨os,hos,hcs⟩;unfold getItem;try with_reducible refine wpAny_holding ?_
 first | refine wpAny_bind (wpAny_pure ?_) | skip
 refine wpAny_bind (wpAny_sequenceKey ht.typeIs (by decide) ?_);refine wpAny_bind (wpAny_callSpecial?_slot (name:=Str.ofString "__getitem__") ht.typeIs PyProof.Rows.slot_tuple_getitem
  (wpAny_call_entry PyProof.Rows.slot_tuple_getitem ht.typeIs entry_tuple_getitem ?_ (args_tuple_getitem _ _)))
 show wpAny _ _ (Builtin.Tuple.tupleItemsOf (.ref t) >>= _) _ _ s;refine wpAny_bind (tupleItemsOf_ ht (wpAny_bind (wpAny_typeOf hTs ?_)));rw [if_pos (by decide)];refine wpAny_bind (HT.sliceApplied_gen hs pl pu ?_);have hy:(((HT.sIx items.size 0 lo:Nat):Int)==0&&(1:Int)==1&&(HT.sIx items.size items.size hi - HT.sIx items.size 0 lo)==items.size)=true:=by
  rw [hw.1,hw.2];simp
 show wpAny _ _ (if (((HT.sIx items.size 0 lo:Nat):Int)==0&&(1:Int)==1&&(HT.sIx items.size items.size hi - HT.sIx items.size 0 lo)==items.size)=true then _ else _) _ _ s;rw [if_pos hy];refine wpAny_bind (wpAny_bind (wpAny_typeOf ht.typeIs (wpAny_pure ?_)));rw [if_pos (by decide)];exact wpAny_bind (wpAny_rule (wpAny_pure ⟨_,rfl,wpAny_pure h⟩))
def sl_l {xs:List PyData} {vl vu:Value} {lo hi:Option Int} {sl:Addr} (R:Mem S κ M h s) (ra:RepW S M x u) (e:ref h x=some (.list xs)) (hs:s.heap.IsSliceOf sl vl vu .none) (pl:IsPart vl lo) (pu:IsPart vu hi):s.TypeIs u "list"/\Wp S A (getItem u (.ref sl)) (Pf S κ M h (cut xs lo hi)) E s:=by
 obtain ⟨a,us,n,rfl,ho,hz,rr⟩:=dE R ra e;refine ⟨(bW ho).isList.typeIs,wpAny_getItem_list_slice (bW ho).isList hs pl pu .none (by simp) ?_ (by rw [List.size_toArray]<;>omega)⟩;rw [oQ];unfold cut;rw [rr.length];exact R.lstP (t:=s.toks) (n:=0) (aD2 _ (aD3 _ rr)) (Nat.le_trans (aF2 us lo hi) hz)
def sl_t {xs:List PyData} {vl vu:Value} {lo hi:Option Int} {sl:Addr} (R:Mem S κ M h s) (ra:RepW S M (.d (.tuple xs)) u) (hs:s.heap.IsSliceOf sl vl vu .none) (pl:IsPart vl lo) (pu:IsPart vu hi):s.TypeIs u "tuple"/\Wp S A (getItem u (.ref sl)) (Pw S κ M h (.d (.tuple (cut xs lo hi)))) E s:=by
 obtain ⟨a,us,n,rfl,ho,hz,rr⟩:=fQ (h:=h) R ra rfl;have ht:=fW (R.z _ _ ho);have hl:=rr.length;have hlen:us.toArray.size=us.length:=List.size_toArray;refine ⟨ht.typeIs,?_⟩
 by_cases hw:HT.sIx us.length 0 lo=0/\HT.sIx us.length us.length hi=us.length
 ·refine zR ht hs pl pu (by rw [hlen];exact hw) ?_;have ec:cut xs lo hi=xs:=by
   unfold cut;rw [hl,hw.1,hw.2,List.drop_zero,Nat.sub_zero,<- hl,List.take_length]
  rw [ec];exact R.pw ra
 ·refine HT.getItem_tuple_cut ht hs pl pu (by rw [hlen];exact hw) ?_ (by rw [hlen];exact hz);rw [hlen];unfold cut;rw [hl];exact R.tup (t:=s.toks) (aD2 _ (aD3 _ rr)) (Nat.le_trans (aF2 us lo hi) hz)
def w1 (r:RepWs S M [x] us):∃ u,us=[u]/\RepW S M x u:=by cases r with | cons a b=>cases b;exact ⟨_,rfl,a⟩
def w2 (r:RepWs S M [x,y] us):∃ u v,us=[u,v]/\RepW S M x u/\RepW S M y v:=by cases r with | cons a b=>obtain ⟨v,rfl,c⟩:=w1 b;exact ⟨_,v,rfl,a,c⟩
def BfS (S:Sx) (f:Value) (g:List W->aA->Option (W×aA)):Prop:=∀ {κ:Kp} {M:Mp} {h h':aA} {s:Shared} {A:Around} {E:Value->Shared->Prop} {ws:List W} {us:List Value} {w:W} {d:Nat},Room S d A->Hk A M->S.K.In S.base->(s.heap.objs.size==sysModules)=false->Mem S κ M h s->RepWs S M ws us->g ws h=some (w,h')->Wp S A (call f us) (Pw S κ M h' w) E s
def bS2:BfS S (.builtin "len") bI:=by
 intro κ M h h' s A E ws us w d hr hk hK hsm R r e;have hn:=mH;unfold bI at e;split at e
 ·obtain ⟨u,rfl,ra⟩:=w1 r;split at e
  ·rename_i ea;cases e;obtain ⟨a,vs,n,rfl,ho,hz,rr⟩:=dE R ra ea;refine Calls.call_len_list (bW ho).isList (by simp only [List.size_toArray]<;>omega) ?_;rw [List.size_toArray,rr.length];exact R.pi
  ·rename_i ea;cases e;obtain ⟨a,vs,n,rfl,ho,hz,rr⟩:=fQ R ra ea;refine len_tuple (fW (R.z _ _ ho)) (by simp only [List.size_toArray]<;>omega) ?_;rw [List.size_toArray,rr.length];exact R.pi
  ·rename_i ea;obtain ⟨k,ek,e⟩:=map_some e;cases e;rename_i x;unfold bE0 at ek;split at ek
   ·rename_i j;obtain ⟨p,ep,rfl⟩:=ra;split at ek
    ·rename_i is ei;cases ek;obtain ⟨vs,n,ho,hz,rr⟩:=R.cel j p _ ep ei;have hl:=rr.length;refine Calls.call_len_list (bW ho).isList (by simp only [List.size_toArray]<;>omega) ?_;rw [List.size_toArray,<- hl];exact R.pi
    ·rename_i kvs ei;cases ek;obtain ⟨vs,dd,rr,hs,hz⟩:=R.cel j p _ ep ei;have hl:=rr.length;exact call_len_dict hs dd (by omega) (by rw [<- hl];exact (R.tok _).pi)
    ·cases ek
   ·cases ek
  ·cases e
 ·cases e
def aR1:BfS S (.type "tuple") cE:=by
 intro κ M h h' s A E ws us w d hr hk hK hsm R r e;unfold cE at e;split at e
 ·obtain ⟨u,rfl,ra⟩:=w1 r;split at e
  ·rename_i ea;cases e;obtain ⟨a,vs,n,rfl,ho,hz,rr⟩:=dE R ra ea;refine call_tuple_list (bW ho).isList (fun h2 kp=>?_) (by simp only [List.size_toArray]<;>omega);exact (R.kept (t:=s.toks) kp).tup (t:=s.toks) rr hz
  ·rename_i ea;cases e;obtain ⟨a,vs,n,rfl,ho,hz,rr⟩:=fQ R ra ea;exact call_tuple_same (fW (R.z _ _ ho)) (R.pw (rep_t.mpr ⟨a,_,vs,rfl,ho,⟨⟨n,rfl⟩,hz⟩,rr⟩))
  ·cases e
 ·cases e
theorem jZ {Z:Zm}:∀ {xs:List PyData} {bs:List Bool} {us:List Value},cT xs=some bs->Paired (Rep S Z) xs us->us=bs.map .bool
 | [],_,_,e,h=>by cases e;cases h;rfl
 | x::r,bs,us,e,h=>by
  cases h with
  | cons a t =>
   cases x with
   | bool b =>
    unfold cT at e;obtain ⟨cs,q,rfl⟩:=map_some e;rw [rep_b.mp a,jZ q t];rfl
   | _=>cases e
def zS {f:Nat->Bool} (bs:List Bool) (h:∀ i b,bs[i]?=some b->f i=b):(List.range bs.length).all f=bs.all id:=by
 rw [Bool.eq_iff_iff,List.all_eq_true,List.all_eq_true];constructor
 ·intro z b hb;obtain ⟨i,hi,e⟩:=List.mem_iff_getElem.mp hb;have:=z i (by simpa using hi);rw [h i b (by simp [hi,e])] at this;exact this
 ·intro z i hi;have hi':i < bs.length:=by simpa using hi
  rw [h i bs[i] (by simp [hi'])];exact z _ (List.getElem_mem hi')
def bS3:BfS S (.builtin "all") iG:=by
 intro κ M h h' s A E ws us w d hr hk hK hsm R r e;unfold iG at e;split at e
 ·obtain ⟨u,rfl,ra⟩:=w1 r;split at e
  ·rename_i ea;obtain ⟨bs,eb,e⟩:=map_some e;cases e;obtain ⟨p,vs,n,rfl,ho,hz,rr⟩:=dE R ra ea;have ev:=jZ eb rr;subst ev;have pl:=(bW ho).isList;refine call_all_walk (wpAny_pyIter_list pl ?_);refine ⟨s.heap.objs.size,_,_,(bs.map Value.bool).toArray.size,_,_,fun i=>(bs[i]?).getD true,rfl,rY (A:=A.in1) s.heap.objs.size p (Nat.ne_of_lt (Heap.lt_size ho)) (bs.map Value.bool).toArray,⟨⟨⟨_,Heap.get?_push_size _ rfl,rfl,rfl⟩,?_⟩,(hk.at R).up fun b o e=>Heap.get?_push_of_some _ e⟩,fun i v s' Q' E' hP hQ=>?_,fun h2 tk hk=>?_⟩
   ·obtain ⟨o,ho,r⟩:=pl;exact ⟨o,Heap.get?_push_of_some _ ho,r⟩
   ·have hP':(bs.map Value.bool)[i]?=some v:=by simpa using hP
    rw [List.getElem?_map] at hP';obtain ⟨b,eb,rfl⟩:=map_some hP';dsimp only at hQ;rw [eb] at hQ;exact wpAny_truthy_bool hQ
   ·have e:(List.range (bs.map Value.bool).toArray.size).all (fun i=>(bs[i]?).getD true)=bs.all id:=by
     have:=zS (f:=fun i=>(bs[i]?).getD true) bs (fun i b e=>by simp [e]);rw [List.size_toArray,List.length_map];exact this
    rw [e];refine (R.kept fun b o eo=>hk b o ?_ (Heap.get?_push_of_some _ eo)).pb;intro z;rw [List.mem_singleton.mp z] at eo;exact absurd (Heap.lt_size eo) (Nat.lt_irrefl _)
  ·cases e
 ·cases e
def zT {f:Nat->Bool} (bs:List Bool) (h:∀ i b,bs[i]?=some b->f i=b):(List.range bs.length).any f=bs.any id:=by
 rw [Bool.eq_iff_iff,List.any_eq_true,List.any_eq_true];constructor
 ·rintro ⟨i,hi,z⟩;have hi':i < bs.length:=by simpa using hi
  rw [h i bs[i] (by simp [hi'])] at z;exact ⟨_,List.getElem_mem hi',z⟩
 ·rintro ⟨b,hb,z⟩;obtain ⟨i,hi,e⟩:=List.mem_iff_getElem.mp hb;exact ⟨i,by simpa using hi,by rw [h i b (by simp [hi,e])];exact z⟩
def bS4:BfS S (.builtin "any") rZ:=by
 intro κ M h h' s A E ws us w d hr hk hK hsm R r e;unfold rZ at e;split at e
 ·obtain ⟨u,rfl,ra⟩:=w1 r;split at e
  ·rename_i ea;obtain ⟨bs,eb,e⟩:=map_some e;cases e;obtain ⟨p,vs,n,rfl,ho,hz,rr⟩:=dE R ra ea;have ev:=jZ eb rr;subst ev;have pl:=(bW ho).isList;refine call_any_walk (wpAny_pyIter_list pl ?_);refine ⟨s.heap.objs.size,_,_,(bs.map Value.bool).toArray.size,_,_,fun i=>(bs[i]?).getD false,rfl,rY (A:=A.in1) s.heap.objs.size p (Nat.ne_of_lt (Heap.lt_size ho)) (bs.map Value.bool).toArray,⟨⟨⟨_,Heap.get?_push_size _ rfl,rfl,rfl⟩,?_⟩,(hk.at R).up fun b o e=>Heap.get?_push_of_some _ e⟩,fun i v s' Q' E' hP hQ=>?_,fun h2 tk hk=>?_⟩
   ·obtain ⟨o,ho,r⟩:=pl;exact ⟨o,Heap.get?_push_of_some _ ho,r⟩
   ·have hP':(bs.map Value.bool)[i]?=some v:=by simpa using hP
    rw [List.getElem?_map] at hP';obtain ⟨b,eb,rfl⟩:=map_some hP';dsimp only at hQ;rw [eb] at hQ;exact wpAny_truthy_bool hQ
   ·have e:(List.range (bs.map Value.bool).toArray.size).any (fun i=>(bs[i]?).getD false)=bs.any id:=by
     have:=zT (f:=fun i=>(bs[i]?).getD false) bs (fun i b e=>by simp [e]);rw [List.size_toArray,List.length_map];exact this
    rw [e];refine (R.kept fun b o eo=>hk b o ?_ (Heap.get?_push_of_some _ eo)).pb;intro z;rw [List.mem_singleton.mp z] at eo;exact absurd (Heap.lt_size eo) (Nat.lt_irrefl _)
  ·cases e
 ·cases e
def bS5:BfS S (.type "int") aE3:=by
 intro κ M h h' s A E ws us w d hr hk hK hsm R r e;unfold aE3 at e;split at e
 ·cases e;obtain ⟨u,rfl,ra⟩:=w1 r;cases wb.mp ra;exact call_int_bool R.pi
 ·cases e
def aF3 {xs:List PyData} (R:Mem S κ M h s) (ra:RepW S M x u) (e:ref h x=some (.list xs)\/ref h x=some (.tuple xs)):Wp S A (call (.type "list") [u]) (Pf S κ M h xs) E s:=by
 rcases e with e | e
 ·obtain ⟨a,vs,n,rfl,ho,hz,rr⟩:=dE R ra e;exact call_list_seq a (.inl rfl) ho rfl rfl (fun h2 c kp e=>R.lst (t:=s.toks) kp e rr hz) (by simp only [List.size_toArray]<;>omega)
 ·obtain ⟨a,vs,n,rfl,ho,hz,rr⟩:=fQ R ra e;exact call_list_seq a (.inr rfl) (R.z _ _ ho) rfl rfl (fun h2 c kp e=>R.lst (t:=s.toks) kp e rr hz) (by simp only [List.size_toArray]<;>omega)
def mI (T:String):Prop:=∀ (K:PySem.W.Frag) (d:PyData),PySem.W.kitOne K (.type (fS d)) (.type T)=some (isi d T)
def aR2:mI "int":=fun K d=>by cases d<;>kernel_rfl
def aF4:mI "bool":=fun K d=>by cases d<;>kernel_rfl
def aR3:mI "str":=fun K d=>by cases d<;>kernel_rfl
def zU:mI "tuple":=fun K d=>by cases d<;>kernel_rfl
def aF5:mI "list":=fun K d=>by cases d<;>kernel_rfl
def qO {z:PyData} (e:ref h x=some z) (n:(fS z=="list"||fS z=="dict")=false):x=.d z:=by
 cases x with
 | d y=>cases e;rfl
 | c i =>
  dsimp only [DL.ref] at e;cases q:h[i]? with
  | none=>rw [q] at e;cases e
  | some c=>cases c<;>(rw [q] at e;cases e)<;>cases n
def bS6 {z:PyData} (R:Mem S κ M h s) (r:RepW S M x u) (e:ref h x=some z) (hn:noD z=true):∃ H,PySem.W.KitX S.K u (.type (fS z)) H/\H s.heap/\u≠.builtin "__main__.__loader__#opaque":=by
 cases z with
 | none=>cases qO e rfl;cases wn.mp r;exact ⟨_,PySem.W.kitx_none,True.intro,fun z=>nomatch z⟩
 | bool b=>cases qO e rfl;cases wb.mp r;exact ⟨_,PySem.W.kitx_bool,True.intro,fun z=>nomatch z⟩
 | int i=>cases qO e rfl;obtain ⟨t,rfl⟩:=wi.mp r;exact ⟨_,PySem.W.kitx_int,True.intro,fun z=>nomatch z⟩
 | str i=>cases qO e rfl;obtain ⟨⟨t,rfl⟩,_⟩:=rep_s.mp (show Rep S M.Z _ _ from r);exact ⟨_,PySem.W.kitx_str,True.intro,fun z=>nomatch z⟩
 | list xs=>obtain ⟨a,us,n,rfl,ho,_⟩:=dE R r e;exact ⟨_,PySem.W.kitx_list,⟨_,ho,rfl⟩,fun z=>nomatch z⟩
 | tuple xs=>obtain ⟨a,us,n,rfl,ho,_⟩:=fQ R r e;exact ⟨_,PySem.W.kitx_tuple,⟨_,R.z _ _ ho,rfl⟩,fun z=>nomatch z⟩
 | dict xs=>obtain ⟨a,vs,rfl,⟨o,_,_,ho,ex,_⟩,_⟩:=bR9 R r (by simpa [noD] using hn) e;exact ⟨_,PySem.W.kitx_dict,⟨o,ho,ex.1⟩,fun z=>nomatch z⟩
def bF5 {z:PyData} {T:String} (hK:S.K.In S.base) (hk:mI T) (R:Mem S κ M h s) (r:RepW S M x u) (e:ref h x=some z) (hn:noD z=true):Wp S A (call (.builtin "isinstance") [u,.type T]) (Pw S κ M h (.d (.bool (isi z T)))) E s:=by
 obtain ⟨H,kx,p,n⟩:=bS6 R r e hn;exact PySem.W.kia_one kx (hK.keeps R.bk) p (hk S.K z) n fun tk=>(R.tok tk).pb
end
end DL

namespace DL
open PySem PySem.Spec PyProof.Rows L2 CI
abbrev NE:Value->Shared->Prop:=fun _ _=>False
structure Mod (S:Sx):Prop where
 kin:S.K.In S.base
 glob:S.base.Ns mainGlobals S.mg
 blt:∃ mb,S.base.Ns builtinsNs mb/\∀ x:Str,x≠"__name__"->mb x=bootBuiltins x
 nolimit:S.base.NoLimit
structure Cx where
 S:Sx
 A:Around
 N:List Str
 env:Env
 fn:Bool
def Vis (sc:Scope) (x:Str):Prop:=sc.names.lookup x=some .local\/sc.names.lookup x=some .cell\/sc.names.lookup x=some .free
def Loc (sc:Scope) (x:Str):Prop:=sc.names.lookup x=some .local\/sc.names.lookup x=some .cell
structure Cx.Ok (X:Cx):Prop where
 mod:Mod X.S
 kind:X.env.scope.kind=.function
 glob:X.env.globals=mainGlobals
 blt:X.env.builtins=builtinsNs
 inj:∀ x y c,X.env.cells.lookup x=some c->X.env.cells.lookup y=some c->x=y
 has:∀ x,(X.env.kindOf x=some .cell\/X.env.kindOf x=some .free)->∃ c,X.env.cells.lookup x=some c
 bsz:X.S.base.objs.size<=X.env.locals
 nd:X.N.Nodup
def jA (o:Obj) (m:Str->Option Value):Prop:=∃ es ep,o.data=.dict es ep/\StrKeys es/\∀ name,nsFind es name=m name
def bS7 (env:Env) (κ:Kp) (m:Str->Option Value) (x:Str) (u:Value):Prop :=
 (env.kindOf x=some .local/\m x=some u)\/((env.kindOf x=some .cell\/env.kindOf x=some .free)/\∃ c o,env.cells.lookup x=some c/\κ c=some (true,o)/\o.data=.cell (some u))
def FrO (κ:Kp) (A:Around):Prop:=∃ l,A.frames=some l/\∀ env∈l,env.scope.kind≠.module/\∃ L o,env.frame=some L/\κ L=some (false,o)/\∀ vs,o.data≠.fields vs
def FrO.kp {κ κ':Kp} {A:Around} (F:FrO κ A) (k:∀ a,(∃ l env,A.frames=some l/\env∈l/\env.frame=some a)->κ' a=κ a):FrO κ' A :=
 let ⟨l,e,f⟩:=F;⟨l,e,fun env he=>let ⟨h1,L,o,h2,h3,h4⟩:=f env he;⟨h1,L,o,h2,by rw [k L ⟨l,env,e,he,h2⟩];exact h3,h4⟩⟩
def FrO.up {κ:Kp} {A:Around} {a:Addr} {o:Obj} (F:FrO κ A) (ho:∀ vs,o.data≠.fields vs):FrO (fun b=>if b=a then some (false,o) else κ b) A :=
 let ⟨l,e,f⟩:=F;⟨l,e,fun env he=>let ⟨h1,L,o',h2,h3,h4⟩:=f env he;⟨h1,L,if L=a then o else o',h2,by dsimp only;split<;>first | rfl | exact h3,by split<;>assumption⟩⟩
def bS8 (X:Cx) (a:Addr):Prop:=a=X.env.locals\/(∃ x,X.env.cells.lookup x=some a)\/∃ l env,X.A.frames=some l/\env∈l/\env.frame=some a
structure Fra (X:Cx) (κ:Kp) (M:Mp) (δ:DSt):Prop where
 ok:X.Ok
 hk:Hk X.A M
 len:δ.length=X.N.length
 loc:∃ o m,κ X.env.locals=some (false,o)/\jA o m/\∀ (i:Nat) x w,X.N[i]?=some x->δ[i]?=some (some w)->Vis X.env.scope x->∃ u,RepW X.S M w u/\bS7 X.env κ m x u
 cell:∀ x c,X.env.cells.lookup x=some c->∃ o v,κ c=some (true,o)/\o.data=.cell v
 frs:FrO κ X.A
def Own (X:Cx) (κ κ':Kp):Prop:=∀ a,κ' a≠κ a->a=X.env.locals\/(X.fn=true/\∃ x,X.env.cells.lookup x=some a)
def Own.refl {X:Cx} {κ:Kp}:Own X κ κ:=fun _ h=>(h rfl).elim
def Own.trans {X:Cx} {κ κ' κ2:Kp} (a:Own X κ κ') (b:Own X κ' κ2):Own X κ κ2:=fun c h=>by
 by_cases e:κ' c=κ c
 ·exact b c (by rw [e];exact h)
 ·exact a c e
section
variable {X:Cx} {κ:Kp} {M M':Mp} {δ:DSt} {h h':aA} {s:Shared} {A:Around} {E:Value->Shared->Prop} {w:W} {u:Value} {d:Nat} {x:Str} {pos:Pos}
def Fra.go (F:Fra X κ M δ) (l:Le M M'):Fra X κ M' δ :=
 ⟨F.ok,F.hk.go l,F.len,let ⟨o,m,h1,h2,h3⟩:=F.loc;⟨o,m,h1,h2,fun i x w a b c=>let ⟨u,r,q⟩:=h3 i x w a b c;⟨u,r.go l,q⟩⟩,F.cell,F.frs⟩
def Fra.ns (F:Fra X κ M δ) (R:Mem X.S κ M h s):∃ m,s.heap.Ns X.env.locals m/\∀ (i:Nat) x w,X.N[i]?=some x->δ[i]?=some (some w)->Vis X.env.scope x->∃ u,RepW X.S M w u/\bS7 X.env κ m x u:=by
 obtain ⟨o,m,h1,⟨es,ep,h2,h3,h4⟩,h5⟩:=F.loc;obtain ⟨_,⟨sl,e⟩,_⟩:=R.k _ _ _ h1;exact ⟨m,⟨_,es,ep,e,h2,h3,h4⟩,h5⟩
def Fra.size (F:Fra X κ M δ) (R:Mem X.S κ M h s):X.S.base.objs.size<=s.heap.objs.size:=by
 obtain ⟨m,hn,_⟩:=F.ns R;exact Nat.le_trans F.ok.bsz (Nat.le_of_lt hn.lt)
def bS9 {i:Nat} (F:Fra X κ M δ) (R:Mem X.S κ M h s) (hi:X.N[i]?=some x) (e:δ[i]?=some (some w)) (hv:Vis X.env.scope x) (hn:aW x=true):Wp X.S X.A (eval (.Name x pos) X.env) (Pw X.S κ M h w) E s:=by
 unfold aW at hn;simp only [Bool.and_eq_true,Bool.not_eq_true'] at hn;obtain ⟨m,hns,hl⟩:=F.ns R;obtain ⟨u,r,l⟩:=hl i x w hi e hv;rcases l with ⟨hk,hm⟩ | ⟨hk,c,o,hc,ho,hd⟩
 ·exact wpAny_Name (wpAny_loadName_local F.ok.kind hk hns hm (R.pw r)) hn.1
 ·have hcell:s.heap.IsCell c (some u):=⟨o,(R.k _ _ _ ho).1 rfl,hd⟩;rcases hk with hk | hk
  ·exact wpAny_Name (wpAny_loadName_cell F.ok.kind hk hc hcell (R.pw r)) hn.1
  ·exact wpAny_Name (wpAny_loadName_free F.ok.kind hk hc hcell (R.pw r) hn.2.1) hn.1
def Gl (X:Cx) (x:Str):Prop:=X.env.kindOf x=some .globalImplicit
def fF {Q:Value->Shared->Prop} (F:Fra X κ M δ) (R:Mem X.S κ M h s) (hg:Gl X x) (hm:X.S.mg x=some u) (hn:aW x=true) (q:Q u s):Wp X.S X.A (eval (.Name x pos) X.env) Q E s:=by
 unfold aW at hn;simp only [Bool.and_eq_true,Bool.not_eq_true'] at hn;exact Calls.Name_function_global F.ok.kind hg (Calls.loadGlobal_global (by rw [F.ok.glob];exact F.ok.mod.glob.keeps R.bk) hm q) hn.1
def cU {Q:Value->Shared->Prop} (F:Fra X κ M δ) (R:Mem X.S κ M h s) (hg:Gl X x) (hm:X.S.mg x=none) (hv:bootBuiltins x=some u) (hn:aW x=true) (q:Q u s):Wp X.S X.A (eval (.Name x pos) X.env) Q E s:=by
 unfold aW at hn;simp only [Bool.and_eq_true,Bool.not_eq_true'] at hn;obtain ⟨mb,h1,h2⟩:=F.ok.mod.blt;exact Calls.Name_function_global F.ok.kind hg (Calls.loadGlobal_builtin (by rw [F.ok.glob];exact F.ok.mod.glob.keeps R.bk) hm (by rw [F.ok.blt];exact h1.keeps R.bk) ((h2 x (fun z=>by rw [z] at hn;exact absurd hn.2.2 (by decide))).trans hv) q) hn.1
def mK {N:List Str} (hN:N.Nodup) {i j:Nat} {x:Str} (a:N[i]?=some x) (b:N[j]?=some x):i=j:=by
 obtain ⟨h1,e1⟩:=List.getElem?_eq_some_iff.mp a;obtain ⟨h2,e2⟩:=List.getElem?_eq_some_iff.mp b;exact (List.getElem_inj hN).mp (e1.trans e2.symm)
def aF6 {i:Nat} {Md:Model} {Q:Unit->Shared->Prop} (F:Fra X κ M δ) (R:Mem X.S κ M h s) (hi:X.N[i]?=some x) (hx:Loc X.env.scope x) (hf:X.fn=true\/X.env.scope.names.lookup x=some .local) (r:RepW X.S M w u)
  (q:∀ s' κ',Own X κ κ'->Mem X.S κ' M h s'->Fra X κ' M (δ.set i (some w))->(∃ a,Heap.SameBut a s.heap s'.heap/\κ a≠none)->Q () s'):wpAny Md A (storeName X.env x u) Q E s:=by
 have hiδ:i < δ.length:=by rw [F.len];exact (List.getElem?_eq_some_iff.mp hi).1
 have hcls:(X.env.scope.kind==.class||(X.env.scope.kind==.module&&X.env.locals != X.env.globals))=false:=by rw [F.ok.kind];rfl
 obtain ⟨o,m,h1,⟨es,ep,h2,h3,h4⟩,h5⟩:=F.loc;obtain ⟨_,⟨sl,e⟩,_⟩:=R.k _ _ _ h1;have hn:s.heap.Ns X.env.locals m:=⟨_,es,ep,e,h2,h3,h4⟩;rcases hx with hk | hk
 ·refine wpAny_storeName_local hk hn (fun h' hn' hs=>?_) hcls;obtain ⟨o',es',ep',ho',hd',hk',hm'⟩:=hn';refine q _ (κ.up X.env.locals (false,o')) (fun a ha=>?_) (R.own h1 (fun b ob hb q=>(hs.2 b hb).trans q) ho' R.bare rfl) ⟨F.ok,F.hk,by rw [List.length_set];exact F.len,⟨o',_,eZ,⟨es',ep',hd',hk',hm'⟩,fun j y w' e1 e2 e3=>?_⟩,fun y c ec=>?_,F.frs.up fun vs z=>by rw [hd'] at z;cases z⟩ ⟨_,hs,by rw [h1];exact fun z=>nomatch z⟩
  ·by_cases z:a=X.env.locals
   ·exact .inl z
   ·exact (ha (cC z)).elim
  ·by_cases hj:j=i
   ·subst hj;rw [hi] at e1;cases e1;rw [List.getElem?_set_self hiδ] at e2;cases e2;exact ⟨u,r,.inl ⟨hk,by simp⟩⟩
   ·rw [List.getElem?_set_ne (Ne.symm hj)] at e2;obtain ⟨u',r',l⟩:=h5 j y w' e1 e2 e3;refine ⟨u',r',?_⟩;rcases l with ⟨k,e⟩ | ⟨k,c,oc,ec,eo,ed⟩
    ·have:y≠x:=fun e=>hj (mK F.ok.nd e1 (e ▸ hi));exact .inl ⟨k,by simp [this,e]⟩
    ·exact .inr ⟨k,c,oc,ec,by rw [cC fun z=>by rw [z,h1] at eo;cases eo];exact eo,ed⟩
  ·obtain ⟨oc,v,h6,h7⟩:=F.cell y c ec;exact ⟨oc,v,by rw [cC fun z=>by rw [z,h1] at h6;cases h6];exact h6,h7⟩
 ·have hfn:X.fn=true:=by
   rcases hf with z | z
   ·exact z
   ·rw [z] at hk;cases hk
  obtain ⟨c,hc⟩:=F.ok.has x (.inl hk);obtain ⟨oc,v,h6,h7⟩:=F.cell x c hc;refine wpAny_storeName_cell F.ok.kind hk hc ⟨oc,(R.k _ _ _ h6).1 rfl,h7⟩ (fun h' hc' hs=>?_);obtain ⟨o',ho',hd'⟩:=hc';have nL:X.env.locals≠c:=fun z=>by rw [<- z,h1] at h6;cases h6
  refine q _ (κ.up c (true,o')) (fun a ha=>?_) (R.own h6 (fun b ob hb q=>(hs.2 b hb).trans q) ho' R.bare rfl) ⟨F.ok,F.hk,by rw [List.length_set];exact F.len,⟨o,m,by rw [cC nL];exact h1,⟨es,ep,h2,h3,h4⟩,fun j y w' e1 e2 e3=>?_⟩,fun y c2 ec=>?_,F.frs.kp fun a ⟨l,env,z1,z2,z3⟩=>cC fun z=>by
   obtain ⟨l',y1,y2⟩:=F.frs;rw [z1] at y1;cases y1;obtain ⟨_,L,o9,y3,y4,_⟩:=y2 env z2;rw [z3] at y3;cases y3;rw [z,h6] at y4;cases y4⟩ ⟨_,hs,by rw [h6];exact fun z=>nomatch z⟩
  ·by_cases z:a=c
   ·exact .inr ⟨hfn,x,z ▸ hc⟩
   ·exact (ha (cC z)).elim
  ·by_cases hj:j=i
   ·subst hj;rw [hi] at e1;cases e1;rw [List.getElem?_set_self hiδ] at e2;cases e2;exact ⟨u,r,.inr ⟨.inl hk,c,o',hc,eZ,hd'⟩⟩
   ·rw [List.getElem?_set_ne (Ne.symm hj)] at e2;obtain ⟨u',r',l⟩:=h5 j y w' e1 e2 e3;refine ⟨u',r',?_⟩;rcases l with l | ⟨k,c2,oc2,ec,eo,ed⟩
    ·exact .inl l
    ·refine .inr ⟨k,c2,oc2,ec,?_,ed⟩;rw [cC fun z=>hj (mK F.ok.nd e1 (by rw [F.ok.inj y x c (by rw [<- z];exact ec) hc];exact hi))];exact eo
  ·by_cases z:c2=c
   ·exact ⟨o',_,by rw [z];exact eZ,hd'⟩
   ·obtain ⟨o2,v2,h8,h9⟩:=F.cell y c2 ec;exact ⟨o2,v2,by rw [cC z];exact h8,h9⟩
end
end DL

namespace L2
open PySem PySem.Spec PyProof.Rows
structure ObjM (h:Heap) (x dx C:Addr) (mA:Str->Option Value):Prop where
 obj:h.get? x=some (PySem.W.instObj C dx)
 ns:h.Ns1 dx mA
 ne:dx≠x

def zV {h:Heap} {dx:Addr} {mA:Str->Option Value} (n:h.Ns1 dx mA):∃ od,h.get? dx=some od/\∀ name,PySem.W.lookIn name od=some (mA name):=by
 obtain ⟨o,es,ep,ho,hd,hk,_,hm⟩:=n;refine ⟨o,ho,fun name=>?_⟩;have e:=hm name;unfold nsFind findBy at e;rw [<- Array.find?_toList] at e;unfold PySem.W.lookIn;rw [hd];dsimp only;split
 ·rename_i y q;rw [q] at e;exact congrArg some e
 ·rename_i q;rw [q] at e;have a:es.toList.any (·.refKey)=false:=by
   rw [List.any_eq_false];intro y hy;obtain ⟨z,t,hkey⟩:=hk y (Array.mem_toList_iff.mp hy);simp [DictEntry.refKey,hkey]
  have a':¬ es.toList.any (·.refKey)=true:=by rw [a];exact Bool.false_ne_true
  rw [if_neg a'];exact congrArg some e

section
variable {prog:Program} {w:World} {A:Around} {E:Value->Shared->Prop} {s:Shared} {K:PySem.W.Frag} {x dx C f:Addr} {mA:Str->Option Value} {name:Str} {v:Value}

end

structure Cls (K:PySem.W.Frag) (C:Addr):Prop where
 pg:PySem.W.plainGet K C Str.empty=true
 hd:PySem.W.hasDictIn K C=true
 po:PySem.W.plainOver K C=true
 sa:PySem.W.findIn K (.ref C) "__setattr__"=some (some (.builtin "object.__setattr__"))
def vA (K:PySem.W.Frag) (C:Addr) (f:Str):Prop:=PySem.W.findIn K (.ref C) f=some none
structure Meth (K:PySem.W.Frag) (C:Addr) (m:Str) (f:Addr):Prop where
 at_:PySem.W.findIn K (.ref C) m=some (some (.ref f))
 fn:PySem.W.isFn K (.ref f)=true
 kp:PySem.W.keepIn K (.ref f)=true
end L2

namespace DL
open PySem PySem.Spec PyProof.Rows L2 CI
noncomputable def oIs:Option Str->Value->Bool
 | some x,v=>Value.isStrOf x v
 | none,.none=>true
 | none,_=>false
def oIs_shape {k:Option Str} {v:Value} (h:oIs k v=true):(∃ x t,k=some x/\v=.str x t)\/(k=none/\v=.none):=by
 cases k with
 | some x =>
  obtain ⟨t,e⟩:=Value.isStrOf_shape (x:=x) (v:=v) h;exact .inl ⟨x,t,rfl,e⟩
 | none=>cases v<;>first | exact .inr ⟨rfl,rfl⟩ | cases h
def qP (x:Str) (t:Tok):oIs (some x) (.str x t)=true:=by simp [oIs,Value.isStrOf]
noncomputable def bT0 (w:World):Option Str->Int
 | some x=>hashStr w x
 | none=>reduceHash 0xFCA86420
def bT1 (prog:Program) (w:World):PySem.KeyKind prog w (Option Str) where
 is:=oIs
 hash:=bT0 w
 inj:=fun v a b ha hb=>by
  rcases oIs_shape ha with ⟨x,t,rfl,rfl⟩ | ⟨rfl,rfl⟩
  ·rcases oIs_shape hb with ⟨y,u,rfl,e⟩ | ⟨rfl,e⟩
   ·injection e with e1 _;rw [e1]
   ·exact nomatch e
  ·rcases oIs_shape hb with ⟨y,u,rfl,e⟩ | ⟨rfl,e⟩
   ·exact nomatch e
   ·rfl
 byValue:=fun k v h=>by
  rcases oIs_shape h with ⟨x,t,rfl,rfl⟩ | ⟨rfl,rfl⟩<;>rfl
 pyHash:=fun {A E s k v Q} hv h=>by
  rcases oIs_shape hv with ⟨x,t,rfl,rfl⟩ | ⟨rfl,rfl⟩
  ·exact wpAny_pyHash_str h
  ·exact PySem.W.pyHash_slot (T:="NoneType") rfl PySem.F.slot_NoneType_hash PySem.F.entry_NoneType_hash (PySem.F.args_NoneType_hash_1 _) (by decide) (.inl rfl) (wpAny_bind (wpAny_pure (wpAny_bind (wpAny_mkInt (wpAny_pure ⟨_,_,rfl,h⟩)))))
 eqBool:=fun {A E s a b u v Q} hu hv h=>by
  rcases oIs_shape hu with ⟨x,t,rfl,rfl⟩ | ⟨rfl,rfl⟩
  ·rcases oIs_shape hv with ⟨y,u,rfl,rfl⟩ | ⟨rfl,rfl⟩
   ·refine wpAny_eqBool_str ?_;have e:decide (some x=some y)=decide (x=y):=by simp
    rwa [e] at h
   ·exact SeqAt.EqAt.str_none x t _ _ _ _ (by simpa using h)
  ·rcases oIs_shape hv with ⟨y,u,rfl,rfl⟩ | ⟨rfl,rfl⟩
   ·exact SeqAt.EqAt.none_str y u _ _ _ _ (by simpa using h)
   ·exact SeqAt.EqAt.same _ _ _ _ _ (by simpa using h)
 «strs»:=fun k x t v h=>by
  rcases oIs_shape h with ⟨y,u,rfl,e⟩ | ⟨rfl,e⟩
  ·injection e with e1 _
   subst e1;cases v<;>rfl
  ·exact nomatch e
structure TabK (S:Sx) (p:Addr) (f:Str->Option PyData):Prop where
 lk:∃ es n,S.K.lookup p=some ⟨.type "dict",none,.dict es n,#[]⟩/\PySem.W.KeysLit S.w.params es.toList/\(∀ x i,f x=some i->∃ u,findBy Value.isStrOf es x=some u/\Rep S S.base.get? i u)/\∀ x,f x=none->findBy Value.isStrOf es x=none
 sm:(p==sysModules)=false
def TabK.map {S:Sx} {p:Addr} {f:Str->Option PyData} {prog:Program} {h:Heap} (T:TabK S p f) (X:S.K.In h):∃ g:Option Str->Option Value,h.MapOf (bT1 prog S.w) p g/\g none=none/\(∀ x i,f x=some i->∃ u,g (some x)=some u/\Rep S S.base.get? i u)/\∀ x,f x=none->g (some x)=none:=by
 obtain ⟨es,n,l,hk,h1,h2⟩:=T.lk;refine ⟨fun k=>findBy oIs es k,⟨_,es,n,X _ _ l,⟨rfl,rfl,rfl⟩,rfl,fun e he=>?_,fun _=>rfl⟩,?_,h1,h2⟩
 ·obtain ⟨x,t,e1,e2⟩:=hk.all e (Array.mem_toList_iff.mpr he);exact ⟨some x,by rw [e1];exact qP x t,e2⟩
 ·unfold findBy;have e:es.find? (fun e=>oIs none e.key)=none:=by
   rw [Array.find?_eq_none];intro e he;obtain ⟨x,t,e1,_⟩:=hk.all e (Array.mem_toList_iff.mpr he);rw [e1];exact Bool.false_ne_true
  show Option.map _ (es.find? fun e=>oIs none e.key)=none;rw [e];rfl
def dM (K:PySem.W.Frag) (fd:FuncData) (ps:List Str):Prop:=∀ (s:Shared) (us:List Value),K.In s.heap->us.length=ps.length->BindsTo s fd ⟨us,[]⟩ (ps.zip us)
def CR (S:Sx) (κ:Kp) (M:Mp) (h:aA) (w:W) (r:Result) (s:Shared):Prop:=∃ u,r=.ok (.ret u)/\Pw S κ M h w u s
structure FnS (S:Sx) (d:Nat) (f:Addr) (fd:FuncData) (ps:List Str) (m:XFW):Prop where
 len:∀ ws h r,m ws h=some r->ws.length=ps.length
 run:∀ {A:Around} {κ:Kp} {M:Mp} {h h':aA} {s:Shared} {args:Args} {us:List Value} {ws:List W} {w:W},Room S d A->Hk A M->FrO κ A->Mod S->S.base.objs.size<=s.heap.objs.size->Mem S κ M h s->BindsTo s fd args (ps.zip us)->RepWs S M ws us->m ws h=some (w,h') ->
  codeAny (model S.P S.w) A (.call (.ref f) args) (CR S κ M h' w) s
def FnG (S:Sx) (d:Nat) (x:Str) (m:XFW):Prop:=(∀ ws h,m ws h=none)\/∃ f fd ps,S.mg x=some (.ref f)/\PySem.W.keepIn S.K (.ref f)=true/\dM S.K fd ps/\FnS S d f fd ps m
abbrev toW (m:XF):XFW:=fun ws h=>(m ws h).bind fun p=>some (.d p.1,p.2)
structure Mk (K:PySem.W.Frag) (C f:Addr):Prop where
 makes:PySem.W.makesIn K C=true
 init:PySem.W.findIn K (.ref C) "__init__"=some (some (.ref f))
 fn:PySem.W.isFn K (.ref f)=true
 kp:PySem.W.keepIn K (.ref C)=true
structure TbS (S:Sx) (c0:Addr) (pos:Pos):Prop where
 hd:PySem.W.codeHdIn S.K c0 S.tp=true
 tr:TriplesOk S.tb.toList
 no:codeAmong pos S.tb.toList=none
 bm:S.base.BuiltinsAt S.mg S.tp
structure LamOk (X:Cx) (d:Nat) (q:Str×Pos):Prop where
 qual:X.env.qual=q.1
 code:∃ c0,X.env.code=.ref c0/\TbS X.S c0 q.2
 dp:X.A.depth+3*d+7 < recursionLimit
 un:X.A.units+16*d+212 < cLine
structure Good (X:Cx) (st:Sta) (d:Nat):Prop where
 bl:∀ x,st.bl.contains x=true->X.S.mg x=none
 gc:∀ x z,st.gc x=some z->∃ u,X.S.mg x=some u/\Rep X.S X.S.base.get? z u
 tk:∀ x f,st.tk x=some f->∃ p,X.S.mg x=some (.ref p)/\TabK X.S p f
 fn:∀ x m,st.fn x=some m->FnG X.S d x (toW m)
 fnW:∀ x m,st.ob.fnW x=some m->FnG X.S d x m
 cls:∀ x C m,st.ob.cls x=some (C,m)->(∀ ws h,m ws h=none)\/∃ k f fd ps,k+1<=d/\Mk X.S.K C f/\FnS X.S k f fd ps m/\X.S.mg x=some (.ref C)/\dM X.S.K fd ps
 om:∀ x C m,st.ob.om x=some (C,m)->(∀ ws h,m ws h=none)\/(Cls X.S.K C/\∃ f fd ps,Meth X.S.K C x f/\FnS X.S d f fd ps m/\dM X.S.K fd ps)
 fo:∀ C f,st.ob.fo C f=true->Cls X.S.K C/\vA X.S.K C f
 N:X.N=st.N
 S:X.env.scope=st.S
 top:st.top=true->X.fn=true
 rm:Room X.S d X.A
 hm:st.hm=X.S.hm
 qn:∀ q,st.qn=some q->LamOk X d q
def Pt (S:Sx) (κ:Kp) (M:Mp) (h:aA) (b:Bool) (c:Bool) (s:Shared):Prop:=c=b/\∃ M',Le M M'/\Mem S κ M' h s
def Pa (S:Sx) (κ:Kp) (M:Mp) (h:aA) (ws:List W) (us:List Value) (s:Shared):Prop:=∃ M',Le M M'/\Mem S κ M' h s/\RepWs S M' ws us
def SE (X:Cx) (e:Expr) (f:XR W):Prop:=∀ ⦃κ M δ h s w h'⦄,Mem X.S κ M h s->Fra X κ M δ->f δ h=some (w,h')->Wp X.S X.A (eval e X.env) (Pw X.S κ M h' w) NE s
def SF (X:Cx) (e:Expr) (f:XR (List PyData)):Prop:=∀ ⦃κ M δ h s w h'⦄,Mem X.S κ M h s->Fra X κ M δ->f δ h=some (w,h')->Wp X.S X.A (eval e X.env) (Pf X.S κ M h' w) NE s
def ST (X:Cx) (e:Expr) (f:XR Bool):Prop:=∀ ⦃κ M δ h s w h'⦄,Mem X.S κ M h s->Fra X κ M δ->f δ h=some (w,h')->Wp X.S X.A (isTrue e X.env (eval e X.env)) (Pt X.S κ M h' w) NE s
def SW (X:Cx) (e:Expr) (f:XR Bool):Prop:=∀ (wh:Sem Value) ⦃κ M δ h s w h'⦄,Mem X.S κ M h s->Fra X κ M δ->f δ h=some (w,h')->Wp X.S X.A (isTrue e X.env wh) (Pt X.S κ M h' w) NE s
def SA (X:Cx) (es:List Expr) (f:XR (List W)):Prop:=∀ (pos:Pos) ⦃κ M δ h s ws h'⦄,Mem X.S κ M h s->Fra X κ M δ->f δ h=some (ws,h')->Wp X.S X.A (spliced (backTo pos (starEach es X.env))) (Pa X.S κ M h' ws) NE s
def SO (X:Cx) (e:Option Expr) (f:XR (Option Int)):Prop:=∀ ⦃κ M δ h s o h'⦄,Mem X.S κ M h s->Fra X κ M δ->f δ h=some (o,h')->Wp X.S X.A (evalPart e X.env) (fun u s'=>IsPart u o/\∃ M',Le M M'/\Mem X.S κ M' h' s') NE s
def SG (X:Cx) (tg:Expr) (g:XG):Prop:=∀ ⦃κ M δ h s w u δ' h'⦄,Mem X.S κ M h s->Fra X κ M δ->RepW X.S M w u->g w δ h=some (δ',h')->Wp X.S X.A (assign tg X.env u) (fun _ s'=>∃ κ' M',Own X κ κ'/\Le M M'/\Mem X.S κ' M' h' s'/\Fra X κ' M' δ') NE s
def Fw (X:Cx) (κ:Kp) (M:Mp):Fl->Flow->Prop
 | .nx δ,.next=>Fra X κ M δ
 | .bk δ,.brk=>Fra X κ M δ
 | .ct δ,.cont=>Fra X κ M δ
 | .rt w,.ret u=>RepW X.S M w u
 | _,_=>False
def Ps (X:Cx) (κ:Kp) (M:Mp) (h:aA) (fl:Fl) (f:Flow) (s:Shared):Prop:=∃ κ' M',Own X κ κ'/\Le M M'/\Mem X.S κ' M' h s/\Fw X κ' M' fl f
def SS (X:Cx) (st:Stmt) (f:XS):Prop:=∀ ⦃κ M δ h s fl h'⦄,Mem X.S κ M h s->Fra X κ M δ->f δ h=some (fl,h')->Wp X.S X.A (exec st X.env) (Ps X κ M h' fl) NE s
def SSs (X:Cx) (st:List Stmt) (f:XS):Prop:=∀ ⦃κ M δ h s fl h'⦄,Mem X.S κ M h s->Fra X κ M δ->f δ h=some (fl,h')->Wp X.S X.A (execs st X.env) (Ps X κ M h' fl) NE s
structure Snd (v:Evs):Prop where
 E:∀ {X st d},Good X st d->∀ e,SE X e (v.E st e)
 T:∀ {X st d},Good X st d->∀ e,ST X e (v.T st e)
 F:∀ {X st d},Good X st d->∀ e,SF X e (v.F st e)
 G:∀ {X st d},Good X st d->∀ e,SG X e (v.G st e)
 S:∀ {X st d},Good X st d->∀ s,SS X s (v.S st s)
section
variable {X:Cx} {st:Sta} {d:Nat} {x:Str} {v:Evs} {a b c t:Expr} {pos:Pos} {es:List Expr} {κ:Kp} {M:Mp} {δ:DSt} {h h':aA} {s:Shared} {w:W} {E:Value->Shared->Prop}
def aH {α β:Type} {f:XR α} {g:α->XR β} {r:β×aA} (e:xb f g δ h=some r):∃ p h1,f δ h=some (p,h1)/\g p δ h1=some r:=let ⟨⟨p,h1⟩,e1,e2⟩:=bind_some e;⟨p,h1,e1,e2⟩
def jB (G:Good X st d) {i:Nat} (e:slot st x=some i):X.N[i]?=some x:=by
 rw [G.N];obtain ⟨h1,h2,_⟩:=List.findIdx?_eq_some_iff_getElem.mp e;rw [List.getElem?_eq_getElem h1,eq_of_beq h2]
def bF6 (G:Good X st d) (h:bD8 st.S x=true):Vis X.env.scope x:=by
 unfold Vis;rw [G.S];unfold bD8 at h;split at h
 ·rename_i e;exact .inl e
 ·rename_i e;exact .inr (.inl e)
 ·rename_i e;exact .inr (.inr e)
 ·cases h
def aF7 (G:Good X st d) (h:(oP st.S x&&(st.top||cG st.S x))=true):Loc X.env.scope x/\(X.fn=true\/X.env.scope.names.lookup x=some .local):=by
 rw [Bool.and_eq_true,Bool.or_eq_true] at h;obtain ⟨h1,h2⟩:=h;unfold Loc;rw [G.S];refine ⟨?_,?_⟩
 ·unfold oP at h1;split at h1
  ·rename_i e;exact .inl e
  ·rename_i e;exact .inr e
  ·cases h1
 ·rcases h2 with h2 | h2
  ·exact .inl (G.top h2)
  ·unfold cG at h2;split at h2
   ·rename_i e;exact .inr e
   ·cases h2
def qQ (G:Good X st d) (h:cR st x=true):aW x=true/\Gl X x:=by
 unfold cR at h;rw [Bool.and_eq_true] at h;refine ⟨h.1,?_⟩;unfold Gl Env.kindOf;rw [G.S];have h2:=h.2;unfold glB at h2;split at h2
 ·rename_i e;exact e
 ·cases h2
def cH {e:Expr}:SE X e xno:=fun _ _ _ _ _ _ _ _ _ e=>by cases e
def aF8 (G:Good X st d):SE X (.Name x pos) (xB st x):=by
 unfold xB;split
 ·rename_i hn;split
  ·rename_i i hi;split
   ·rename_i hv;intro κ M δ h s w h' R F e;unfold aE at e;split at e
    ·rename_i e';cases e;exact bS9 F R (jB G hi) e' (bF6 G hv) hn
    ·cases e
   ·exact cH
  ·split
   ·rename_i z hz;split
    ·rename_i hg;intro κ M δ h s w h' R F e;cases e;obtain ⟨u,m,r⟩:=G.gc _ _ hz;exact fF F R (qQ G (by unfold cR;rw [hn,hg];rfl)).2 m hn (R.pw (Rep.go R.base r))
    ·exact cH
   ·exact cH
 ·exact cH
def aR4 {c:Const} {j:Nat}:SE X (.Constant c j pos) (aE2 c):=by
 intro κ M δ h s w h' R F e;cases c with
 | none=>cases e;exact Constant_none R.pn
 | bool b=>cases e;exact Constant_bool R.pb
 | int i=>cases e;exact wpAny_Constant_int R.pi
 | str x =>
  have e:(if PyData.strOk x=true then aF (.d (.str x)) else xno:XR W) δ h=some (w,h'):=e
  by_cases hx:PyData.strOk x=true
  case neg=>rw [if_neg hx] at e;cases e
  rw [if_pos hx] at e;cases e;exact Calls.Constant_str ((R.tok _).pw (show Rep X.S M.Z _ _ from rep_s.mpr ⟨⟨_,rfl⟩,hx⟩))
 | _=>cases e
def two {fa fb:XR W} {k:W->W->aA->Option (W×aA)} (ha:SE X a fa) (hb:SE X b fb) {f:Value->Value->Sem Value} {r:W×aA} (R:Mem X.S κ M h s) (F:Fra X κ M δ) (e:xb fa (fun u=>xb fb fun w=>fun _ h=>k u w h) δ h=some r)
  (hf:∀ {M1 h1 s1 x y u v},Mem X.S κ M1 h1 s1->Fra X κ M1 δ->RepW X.S M1 x u->RepW X.S M1 y v->k x y h1=some r->Wp X.S X.A (f u v) (Pw X.S κ M1 r.2 r.1) NE s1) :
  Wp X.S X.A (eval a X.env) (fun u s₁=>Wp X.S X.A (eval b X.env) (fun v s₂=>Wp X.S X.A (f u v) (Pw X.S κ M r.2 r.1) NE s₂) NE s₁) NE s:=by
 obtain ⟨x,h1,e1,e⟩:=aH e;obtain ⟨y,h2,e2,e⟩:=aH e;refine thn (ha R F e1) fun u s1 ⟨M1,l1,R1,r1⟩=>thn (hb R1 (F.go l1) e2) fun v s2 ⟨M2,l2,R2,r2⟩=>?_;exact thn (hf R2 ((F.go l1).go l2) (r1.go l2) r2 e) fun _ _ q=>q.go (l1.trans l2)
def bT2 (S:Snd v) (G:Good X st d) {op:Operator}:SE X (.BinOp a op b pos) (xb (v.E st a) fun u=>xb (v.E st b) fun w=>fun _ h=>fV op u w h):=fun _ _ _ _ _ _ _ R F e =>
 wpAny_BinOp (two (S.E G a) (S.E G b) R F e fun R1 _ ra rb e=>bin_ok R1 ra rb e)
theorem bT3 (S:Snd v) (G:Good X st d):SE X (.UnaryOp .Not a pos) (xb (v.E st a) fun w=>(match w with
  | .d (.bool b)=>aF (.d (.bool (!b)))
  | _=>xno)):=by
 intro κ M δ h s w h' R F e;obtain ⟨x,h1,e1,e⟩:=aH e;refine UnaryOp_ (thn (S.E G a R F e1) fun u s1 ⟨M1,l1,R1,r1⟩=>?_);obtain ⟨b,rfl,e⟩:∃ b,x=.d (.bool b)/\aF (.d (.bool (!b))) δ h1=some (w,h'):=by rcases x with (_ | b | _ | _ | _ | _ | _) | _<;>first | cases e;done | exact ⟨_,rfl,e⟩
 cases e;cases wb.mp r1;exact not_of (wpAny_truthy_bool (R1.pb.go l1))
theorem bT4 (S:Snd v) (G:Good X st d):SE X (.UnaryOp .USub a pos) (xb (v.E st a) fun w=>(match w with
  | .d (.int i)=>aF (.d (.int (-i)))
  | _=>xno)):=by
 intro κ M δ h s w h' R F e;obtain ⟨x,h1,e1,e⟩:=aH e;refine UnaryOp_ (thn (S.E G a R F e1) fun u s1 ⟨M1,l1,R1,r1⟩=>?_);obtain ⟨b,rfl,e⟩:∃ b,x=.d (.int b)/\aF (.d (.int (-b))) δ h1=some (w,h'):=by rcases x with (_ | b | _ | _ | _ | _ | _) | _<;>first | cases e;done | exact ⟨_,rfl,e⟩
 cases e;exact thn (bF4 R1 r1) fun _ _ q=>q.go l1
def bT5 (S:Snd v) (G:Good X st d):SE X (.IfExp c a b pos) (xb (v.T st c) fun t=>if t=true then v.E st a else v.E st b):=by
 intro κ M δ h s w h' R F e;obtain ⟨x,h1,e1,e⟩:=aH e;refine wpAny_IfExp (thn (S.T G c R F e1) fun t s1 ⟨et,M1,l1,R1⟩=>?_);subst et;cases t with
 | true=>exact thn (S.E G a R1 (F.go l1) e) fun _ _ q=>q.go l1
 | false=>exact thn (S.E G b R1 (F.go l1) e) fun _ _ q=>q.go l1
theorem aF9 (S:Snd v) (G:Good X st d):∀ vs,SE X (.BoolOp .And vs pos) (aE4 v st vs)
 | []=>fun _ _ _ _ _ _ _ R F e=>by cases e
 | [a]=>fun _ _ _ _ _ _ _ R F e=>BoolOp_one (S.E G a R F e)
 | a::b::r=>by
  intro κ M δ h s w h' R F e;obtain ⟨x,h1,e1,e⟩:=aH e;refine BoolOp_and (thn (S.E G a R F e1) fun u s1 ⟨M1,l1,R1,r1⟩=>?_);rcases x with (_ | b | _ | _ | _ | _ | _) | _<;>first | cases e;done | skip
  cases wb.mp r1;cases b
  ·cases e;exact wpAny_truthy_bool (R1.pb.go l1)
  ·exact wpAny_truthy_bool (thn (aF9 S G _ R1 (F.go l1) e) fun _ _ q=>q.go l1)
theorem bA6 (S:Snd v) (G:Good X st d):∀ vs,SE X (.BoolOp .Or vs pos) (bE2 v st vs)
 | []=>fun _ _ _ _ _ _ _ R F e=>by cases e
 | [a]=>fun _ _ _ _ _ _ _ R F e=>BoolOp_one (S.E G a R F e)
 | a::b::r=>by
  intro κ M δ h s w h' R F e;obtain ⟨x,h1,e1,e⟩:=aH e;refine BoolOp_or (thn (S.E G a R F e1) fun u s1 ⟨M1,l1,R1,r1⟩=>?_);rcases x with (_ | b | _ | _ | _ | _ | _) | _<;>first | cases e;done | skip
  cases wb.mp r1;cases b
  ·exact wpAny_truthy_bool (thn (bA6 S G _ R1 (F.go l1) e) fun _ _ q=>q.go l1)
  ·cases e;exact wpAny_truthy_bool (R1.pb.go l1)
def Pt.go {S:Sx} {M M':Mp} {b c:Bool} (l:Le M M') (p:Pt S κ M' h b c s):Pt S κ M h b c s:=let ⟨e,N,a,b⟩:=p;⟨e,N,l.trans a,b⟩
theorem bA7 (S:Snd v) (G:Good X st d):∀ vs,SW X (.BoolOp .And vs pos) (aE5 v st vs)
 | []=>fun _ _ _ _ _ _ _ _ R F e=>by cases e
 | [a]=>fun wh _ _ _ _ _ _ _ R F e=>isTrue_and (thn (S.T G a R F e) fun c s1 q=>by
  cases c with
  | true=>exact isTrue_and_nil q
  | false=>exact q)
 | a::b::r=>by
  intro wh κ M δ h s w h' R F e;obtain ⟨x,h1,e1,e⟩:=aH e;refine isTrue_and (thn (S.T G a R F e1) fun t s1 ⟨et,M1,l1,R1⟩=>?_);subst et;cases t with
  | true=>exact thn (bA7 S G (b::r) wh R1 (F.go l1) e) fun _ _ q=>q.go l1
  | false=>cases e;exact ⟨rfl,M1,l1,R1⟩
theorem bT6 (S:Snd v) (G:Good X st d):∀ vs,SW X (.BoolOp .Or vs pos) (bE3 v st vs)
 | []=>fun _ _ _ _ _ _ _ _ R F e=>by cases e
 | [a]=>fun wh _ _ _ _ _ _ _ R F e=>isTrue_or (thn (S.T G a R F e) fun c s1 q=>by
  cases c with
  | false=>exact isTrue_or_nil q
  | true=>exact q)
 | a::b::r=>by
  intro wh κ M δ h s w h' R F e;obtain ⟨x,h1,e1,e⟩:=aH e;refine isTrue_or (thn (S.T G a R F e1) fun t s1 ⟨et,M1,l1,R1⟩=>?_);subst et;cases t with
  | true=>cases e;exact ⟨rfl,M1,l1,R1⟩
  | false=>exact thn (bT6 S G (b::r) wh R1 (F.go l1) e) fun _ _ q=>q.go l1
def aG0 (G:Good X st d) {f:Str->Option PyData} (e:iX st b=some f):∃ y p p',b=.Name y p'/\aW y=true/\Gl X y/\X.S.mg y=some (.ref p)/\TabK X.S p f:=by
 unfold iX at e;cases b<;>first | (cases e;done) | skip
 obtain ⟨ht,e⟩:=aI e;rw [Bool.and_eq_true] at ht;obtain ⟨h1,h2⟩:=qQ G ht.1;obtain ⟨p,h3,h4⟩:=G.tk _ _ e;exact ⟨_,p,_,rfl,h1,h2,h3,h4⟩
def bT7 (S:Snd v) (G:Good X st d) {f:Str->Option PyData} (hf:iX st b=some f) {r:Bool×aA} (R:Mem X.S κ M h s) (F:Fra X κ M δ) (e:kT f (v.E st a) δ h=some r) :
  behindInMarks .NotIn b=false/\Wp X.S X.A (eval a X.env) (fun u s₁=>Wp X.S X.A (eval b X.env) (fun v s₂=>Wp X.S X.A (compareOp .NotIn u v) (Pw X.S κ M r.2 (.d (.bool r.1))) NE s₂) NE s₁) NE s:=by
 obtain ⟨y,p,p',rfl,hn,hg,hm,T⟩:=aG0 G hf;refine ⟨rfl,?_⟩;obtain ⟨x,h1,e1,e⟩:=aH e;refine thn (S.E G a R F e1) fun u s1 ⟨M1,l1,R1,r1⟩=>fF (F.go l1) R1 hg hm hn ?_;obtain ⟨g,m,g0,g1,g2⟩:=T.map (prog:=X.S.P) (F.ok.mod.kin.keeps R1.bk);rcases x with (_ | _ | _ | z | _ | _ | _) | _<;>first | cases e;done | skip
 ·cases e;cases wn.mp r1;refine wpAny_notIn_of (k:=none) rfl T.sm m ?_;rw [g0];exact (R1.tok _).pb.go l1
 ·cases e;obtain ⟨⟨t,rfl⟩,_⟩:=rep_s.mp (show Rep X.S M1.Z _ _ from r1);refine wpAny_notIn_of (k:=some z) (qP z t) T.sm m ?_;have eg:(g (some z)).isSome=(f z).isSome:=by
   cases q:f z with
   | none=>rw [g2 z q];rfl
   | some i=>obtain ⟨t',q',_⟩:=g1 z i q;rw [q'];rfl
  rw [eg];exact (R1.tok _).pb.go l1
def bA8 (S:Snd v) (G:Good X st d) {op:CmpOp} {r:Bool×aA} (R:Mem X.S κ M h s) (F:Fra X κ M δ) (e:eW v st a [op] [b] δ h=some r) :
  behindInMarks op b=false/\Wp X.S X.A (eval a X.env) (fun u s₁=>Wp X.S X.A (eval b X.env) (fun v s₂=>Wp X.S X.A (compareOp op u v) (Pw X.S κ M r.2 (.d (.bool r.1))) NE s₂) NE s₁) NE s:=by
 cases hf:iX st b with
 | some f =>
  have e:(match iX st b with
   | some f=>if op=CmpOp.NotIn then kT f (v.E st a) else xno
   | none=>if behindInMarks op b=true then xno else xC1 op (v.E st a) (v.E st b)) δ h=some r:=e
  rw [hf] at e
  by_cases ho:op=CmpOp.NotIn
  ·subst ho;exact bT7 S G hf R F e
  ·have e:(if op=CmpOp.NotIn then kT f (v.E st a) else xno) δ h=some r:=e;rw [if_neg ho] at e;cases e
 | none =>
  have e:(match iX st b with
   | some f=>if op=CmpOp.NotIn then kT f (v.E st a) else xno
   | none=>if behindInMarks op b=true then xno else xC1 op (v.E st a) (v.E st b)) δ h=some r:=e
  rw [hf] at e;have e:(if behindInMarks op b=true then xno else xC1 op (v.E st a) (v.E st b)) δ h=some r:=e
  by_cases hb:behindInMarks op b=true
  ·rw [if_pos hb] at e;cases e
  ·rw [if_neg hb] at e;refine ⟨by simpa using hb,?_⟩;obtain ⟨x,h1,e1,e⟩:=aH e;obtain ⟨y,h2,e2,e⟩:=aH e;refine thn (S.E G a R F e1) fun u s1 ⟨M1,l1,R1,r1⟩=>thn (S.E G b R1 (F.go l1) e2) fun v s2 ⟨M2,l2,R2,r2⟩=>?_;obtain ⟨q1,q2⟩:=fX (A:=X.A) (E:=NE) G.rm R2 (r1.go l2) r2 e;rw [q1];exact thn q2 fun _ _ q=>q.go (l1.trans l2)
def bF7 (S:Snd v) (G:Good X st d) {op op':CmpOp} {p:Bool×aA} (hm:lastMarks [op,op'] [b,c]=false) (R:Mem X.S κ M h s) (F:Fra X κ M δ) (e:xC2 op op' (v.E st a) (v.E st b) (v.E st c) δ h=some p):Wp X.S X.A (eval (.Compare a [op,op'] [b,c] pos) X.env) (Pw X.S κ M p.2 (.d (.bool p.1))) NE s:=by
 obtain ⟨x,h1,e1,e⟩:=aH e;obtain ⟨y,h2,e2,e⟩:=aH e;obtain ⟨p1,e3,e⟩:=bind_some e;refine Compare_chain (thn (S.E G a R F e1) fun u s1 ⟨M1,l1,R1,r1⟩=>chain_link (thn (S.E G b R1 (F.go l1) e2) fun v s2 ⟨M2,l2,R2,r2⟩=>?_)) hm;obtain ⟨q1,q2⟩:=fX (A:=X.A) (E:=NE) G.rm R2 (r1.go l2) r2 e3;obtain ⟨k,h3⟩:=p1;cases q1;refine thn q2 fun k' s3 ⟨M3,l3,R3,r3⟩=>?_;cases wb.mp r3;refine wpAny_truthy_bool ?_;dsimp only at e;cases k with
 | false=>cases e;exact ite_ff (R3.pb.go (l1.trans (l2.trans l3)))
 | true =>
  obtain ⟨⟨z,h4⟩,e4,e⟩:=bind_some e;refine ite_tt (chain_last (thn (S.E G c R3 ((F.go l1).go (l2.trans l3)) e4) fun t s4 ⟨M4,l4,R4,r4⟩=>?_));obtain ⟨q5,q6⟩:=fX (A:=X.A) (E:=NE) G.rm R4 (r2.go (l3.trans l4)) r4 e;rw [q5];exact thn q6 fun _ _ q=>q.go (l1.trans (l2.trans (l3.trans l4)))
def bF8 (S:Snd v) (G:Good X st d) {op op':CmpOp} {p:Bool×aA} (hm:lastMarks [op,op'] [b,c]=false) (R:Mem X.S κ M h s) (F:Fra X κ M δ) (e:xC2 op op' (v.E st a) (v.E st b) (v.E st c) δ h=some p) {wh:Sem Value}:Wp X.S X.A (isTrue (.Compare a [op,op'] [b,c] pos) X.env wh) (Pt X.S κ M p.2 p.1) NE s:=by
 obtain ⟨x,h1,e1,e⟩:=aH e;obtain ⟨y,h2,e2,e⟩:=aH e;obtain ⟨p1,e3,e⟩:=bind_some e;refine isTrue_chain (thn (S.E G a R F e1) fun u s1 ⟨M1,l1,R1,r1⟩=>test_link (thn (S.E G b R1 (F.go l1) e2) fun v s2 ⟨M2,l2,R2,r2⟩=>?_)) hm;obtain ⟨q1,q2⟩:=fX (A:=X.A) (E:=NE) G.rm R2 (r1.go l2) r2 e3;obtain ⟨k,h3⟩:=p1;cases q1;refine thn q2 fun k' s3 ⟨M3,l3,R3,r3⟩=>?_;cases wb.mp r3;refine wpAny_truthy_bool ?_;dsimp only at e;cases k with
 | false=>cases e;exact ite_ff ⟨rfl,M3,l1.trans (l2.trans l3),R3⟩
 | true =>
  obtain ⟨⟨z,h4⟩,e4,e⟩:=bind_some e;refine ite_tt (test_last (thn (S.E G c R3 ((F.go l1).go (l2.trans l3)) e4) fun t s4 ⟨M4,l4,R4,r4⟩=>?_));obtain ⟨q5,q6⟩:=fX (A:=X.A) (E:=NE) G.rm R4 (r2.go (l3.trans l4)) r4 e;refine thn q6 fun k2 s5 ⟨M5,l5,R5,r5⟩=>?_;cases wb.mp r5;rw [q5];exact wpAny_truthy_bool ⟨rfl,M5,l1.trans (l2.trans (l3.trans (l4.trans l5))),R5⟩
def kX (S:Snd v) (G:Good X st d) {ops:List CmpOp} {cs:List Expr}:SE X (.Compare a ops cs pos) (bM (eW v st a ops cs)):=by
 intro κ M δ h s w h' R F e;obtain ⟨p,e2,ew⟩:=map_some (show (eW v st a ops cs δ h).map asW=_ from e);cases ew;clear e;have e:=e2;clear e2;rcases ops with _ | ⟨op,_ | ⟨op',_ | ⟨_,_⟩⟩⟩
 ·cases e
 ·rcases cs with _ | ⟨b,_ | ⟨_,_⟩⟩
  ·cases e
  ·obtain ⟨q1,q2⟩:=bA8 S G R F e;exact wpAny_Compare1 q2 q1
  ·cases e
 ·rcases cs with _ | ⟨b,_ | ⟨c,_ | ⟨_,_⟩⟩⟩
  ·cases e
  ·cases e
  ·have e:(if lastMarks [op,op'] [b,c]=true then xno else xC2 op op' (v.E st a) (v.E st b) (v.E st c)) δ h=some _:=e
   by_cases hm:lastMarks [op,op'] [b,c]=true
   ·rw [if_pos hm] at e;cases e
   ·rw [if_neg hm] at e;exact bF7 S G (by simpa using hm) R F e
  ·cases e
 ·cases e
def bT8 (S:Snd v) (G:Good X st d) {ops:List CmpOp} {cs:List Expr}:ST X (.Compare a ops cs pos) (eW v st a ops cs):=by
 intro κ M δ h s w h' R F e;rcases ops with _ | ⟨op,_ | ⟨op',_ | ⟨_,_⟩⟩⟩
 ·cases e
 ·rcases cs with _ | ⟨b,_ | ⟨_,_⟩⟩
  ·cases e
  ·obtain ⟨q1,q2⟩:=bA8 S G R F e;refine wpAny_isTrue_Compare1 (thn q2 fun u s1 q=>thn q fun v s2 q=>thn q fun k s3 ⟨M3,l3,R3,r3⟩=>?_) q1;cases wb.mp r3;exact wpAny_truthy_bool ⟨rfl,M3,l3,R3⟩
  ·cases e
 ·rcases cs with _ | ⟨b,_ | ⟨c,_ | ⟨_,_⟩⟩⟩
  ·cases e
  ·cases e
  ·have e:(if lastMarks [op,op'] [b,c]=true then xno else xC2 op op' (v.E st a) (v.E st b) (v.E st c)) δ h=some _:=e
   by_cases hm:lastMarks [op,op'] [b,c]=true
   ·rw [if_pos hm] at e;cases e
   ·rw [if_neg hm] at e;exact bF8 S G (by simpa using hm) R F e
  ·cases e
 ·cases e
def bE (e:Expr) (hs:aK e=true):starEach (e::es) X.env=(false,eval e X.env)::starEach es X.env:=by
 cases e<;>first | rfl | cases hs
theorem bR (S:Snd v) (G:Good X st d):∀ es,SA X es (aR v st es)
 | []=>fun pos _ _ _ _ _ _ _ R F e=>by cases e;exact Calls.spliced_nil ⟨_,.refl,R,.nil⟩
 | a::es=>by
  intro pos κ M δ h s ws h' R F e;have e:(if aK a=true then xb (v.E st a) fun w=>xb (aR v st es) fun ws=>aF (w::ws) else xno) δ h=some (ws,h'):=e
  by_cases hs:aK a=true
  ·rw [if_pos hs] at e;obtain ⟨x,h1,e1,e⟩:=aH e;obtain ⟨y,h2,e2,e⟩:=aH e;cases e;rw [bE a hs];show Wp _ _ (spliced ((false,eval a X.env)::backTo pos (starEach es X.env))) _ _ s;refine Calls.spliced_cons (thn (S.E G a R F e1) fun u s1 ⟨M1,l1,R1,r1⟩=>?_);exact thn (bR S G es pos R1 (F.go l1) e2) fun us s2 ⟨M2,l2,R2,r2⟩=>⟨M2,l1.trans l2,R2,.cons (r1.go l2) r2⟩
  ·rw [if_neg hs] at e;cases e
theorem dU {v:Evs} {st:Sta}:∀ {es:List Expr} {δ:DSt} {h:aA} {r:List W×aA},aR v st es δ h=some r->es.all aK=true
 | [],_,_,_,_=>rfl
 | a::es,δ,h,r,e=>by
  have e:(if aK a=true then xb (v.E st a) fun w=>xb (aR v st es) fun ws=>aF (w::ws) else xno) δ h=some r:=e
  by_cases hs:aK a=true
  ·rw [if_pos hs] at e;obtain ⟨x,h1,e1,e⟩:=aH e;obtain ⟨y,h2,e2,e⟩:=aH e;rw [List.all_cons,hs,dU e2];rfl
  ·rw [if_neg hs] at e;cases e
theorem cK (pos:Pos):∀ (es:List Expr),es.all aK=true->(backTo pos (starEach es X.env)).any (·.1)=false
 | [],_=>rfl
 | e::es,h=>by
  rw [List.all_cons,Bool.and_eq_true] at h;have:=cK pos es h.2;rw [bE e h.1];show (false||(backTo pos (starEach es X.env)).any (·.1))=false;rw [this];rfl
theorem mL {S:Sx} {M:Mp}:∀ {ws:List W} {xs:List PyData} {us:List Value},cO ws=some xs->RepWs S M ws us->Reps' S M xs us
 | [],_,_,e,h=>by cases e;cases h;exact .nil
 | .d x::ws,_,_,e,h=>by
  unfold cO at e;obtain ⟨ys,q,rfl⟩:=map_some e;cases h with
  | cons a t=>exact .cons a (mL q t)
 | .c _::ws,_,_,e,h=>by cases e
def xJ (S:Snd v) (G:Good X st d) {xs:List PyData} {Q:List Value->Shared->Prop} (R:Mem X.S κ M h s) (F:Fra X κ M δ) (e:xPl (aR v st es) δ h=some (xs,h'))
  (q:∀ {M1 s1 us},Le M M1->Mem X.S κ M1 h' s1->Reps' X.S M1 xs us->us.length<=sizeLine->Q us s1):Wp X.S X.A (spliced (backTo pos (starEach es X.env))) Q NE s:=by
 obtain ⟨ws,h1,e1,e⟩:=aH e;refine thn (bR S G es pos R F e1) fun us s1 ⟨M1,l1,R1,r1⟩=>?_;split at e
 ·rename_i ys ey;obtain ⟨hl,e⟩:=aI e;cases e;have r:=mL ey r1;exact q l1 R1 r (by rw [<- r.length];exact hl)
 ·cases e
def bT9 (S:Snd v) (G:Good X st d) {k}:SE X (.Tuple es k pos) (xb (xPl (aR v st es)) fun xs=>aF (.d (.tuple xs))):=by
 intro κ M δ h s w h' R F e;obtain ⟨x,h1,e1,e⟩:=aH e;cases e;exact wpAny_Tuple_spliced (xJ S G R F e1 fun l1 R1 r z=>⟨z,(R1.tup (t:=_) r z).go l1⟩)
def qR (S:Snd v) (G:Good X st d):SF X (.List es pos) (xPl (aR v st es)):=by
 intro κ M δ h s w h' R F e;refine wpAny_List_spliced (xJ S G R F e fun {M1 s1 us} l1 R1 r z=>⟨z,?_⟩);obtain ⟨N,a,b⟩:=R1.lstP (t:=s1.toks) (n:=0) r z;exact ⟨N,l1.trans a,b⟩
theorem bA9 (S:Snd v) (G:Good X st d):∀ o,SO X o (uT v st o)
 | none=>fun _ _ _ _ _ _ _ R F e=>by cases e;rw [evalPart_none];exact wpAny_pure ⟨.none,_,.refl,R⟩
 | some a=>by
  intro κ M δ h s o h' R F e;obtain ⟨x,h1,e1,e⟩:=aH (show xb (v.E st a) (fun w=>match w with
   | .d (.int i)=>aF (some i)
   | _=>xno) δ h=some (o,h') from e)
  rw [evalPart_some];refine thn (S.E G a R F e1) fun u s1 ⟨M1,l1,R1,r1⟩=>?_;rcases x with (_ | _ | i | _ | _ | _ | _) | _<;>first | cases e;done | skip
  cases e;obtain ⟨t,rfl⟩:=wi.mp r1;exact ⟨.int _ t,M1,l1,R1⟩
def cL1 (S:Snd v) (G:Good X st d) {lo hi:Option Expr} {p2:Pos} {α:Type} {Q:α->Value->Shared->Prop} {k:W->Option Int->Option Int->aA->Option (α×aA)} {r:α×aA} (R:Mem X.S κ M h s) (F:Fra X κ M δ) (e:xb (v.E st a) (fun x=>xb (uT v st lo) fun l=>xb (uT v st hi) fun u=>fun _ h=>k x l u h) δ h=some r)
  (q:∀ {M1 h1 s1 x u vl vu l hh sl},Le M M1->Mem X.S κ M1 h1 s1->RepW X.S M1 x u->s1.heap.IsSliceOf sl vl vu .none->IsPart vl l->IsPart vu hh->k x l hh h1=some r->∃ T id,typeLookup (.type T) "__getitem__"=pure (some (.builtin id))/\s1.TypeIs u T/\Wp X.S X.A (getItem u (.ref sl)) (Q r.1) NE s1) :
  Wp X.S X.A (eval (.Subscript a (.Slice lo hi none p2) pos) X.env) (Q r.1) NE s:=by
 obtain ⟨x,h1,e1,e⟩:=aH e;obtain ⟨l,h2,e2,e⟩:=aH e;obtain ⟨hh,h3,e3,e⟩:=aH e;refine Subscript_ (thn (S.E G a R F e1) fun u s1 ⟨M1,l1,R1,r1⟩=>?_);refine wpAny_Slice (thn (bA9 S G lo R1 (F.go l1) e2) fun vl s2 ⟨pl,M2,l2,R2⟩=>thn (bA9 S G hi R2 ((F.go l1).go l2) e3) fun vu s3 ⟨pu,M3,l3,R3⟩=>?_);rw [evalPart_none];refine wpAny_pure ?_;have R4:Mem X.S κ M3 h3 { s3 with heap:=s3.heap.push { cls:=.type "slice",data:=.fields #[vl,vu,.none] } }:=R3.kept (t:=s3.toks) fun b ob q=>Heap.get?_push_of_some _ q;obtain ⟨T,id,hT,ht,hg⟩:=q (l1.trans (l2.trans l3)) R4 (r1.go (l2.trans l3)) (Heap.IsSliceOf.new ..) pl pu e;show Wp X.S X.A (subscriptTail a (.Slice lo hi none p2) u (.ref s3.heap.objs.size)) _ _ { s3 with heap:=s3.heap.push { cls:=.type "slice",data:=.fields #[vl,vu,.none] } };exact tail_any (ops:=[.ref s3.heap.objs.size,u]) ht hT hg (by with_unfolding_all rfl)
end
end DL

namespace DL
open PySem PySem.Spec PyProof.Rows L2 CI
structure Turn (S:Sx) (tg:Expr) (all:List PyData) (c:Cw) (M0:Mp) (fp:List Addr) (it:Addr) (tn:Nat->Heap->Prop):Prop where
 keep:∀ i h h',tn i h->(∀ b∈fp,∀ o,h.get? b=some o->h'.get? b=some o)->tn i h'
 obj:∀ i h,tn i h->∀ b∈fp,∃ o,h.get? b=some o
 item:∀ {A:Around} {κ:Kp} {M:Mp} {h:aA} {s:Shared} {E:Value->Shared->Prop} {i:Nat} {x:PyData},(S.hm=false->A.handled=none)->Hk A M->Mem S κ M h s->Le M0 M->(∀ b∈fp,aU κ M b)->tn i s.heap->all[i]?=some x->condB c all h=true ->
  Wp S A (pyNext (.ref it)) (fun r s1=>∃ u,r=some u/\Wp S A (letOwnedTupleGo tg (.ref it) u) (fun _ s2=>∃ M',Le M M'/\Mem S κ M' h s2/\Rep S M'.Z x u/\tn (i+1) s2.heap/\∀ b∈fp,aU κ M' b) E s1) E s
 done:∀ {A:Around} {κ:Kp} {M:Mp} {h:aA} {s:Shared} {E:Value->Shared->Prop} {i:Nat},(S.hm=false->A.handled=none)->Hk A M->Mem S κ M h s->Le M0 M->(∀ b∈fp,aU κ M b)->tn i s.heap->all.length<=i->condB c all h=true ->
  Wp S A (pyNext (.ref it)) (fun r s1=>r=none/\Mem S κ M h s1) E s
 self:∀ (A:Around) (i:Nat) (s:Shared) (Q:Value->Shared->Prop) (E:Value->Shared->Prop),tn i s.heap->Q (.ref it) s->Wp S A (pyIter (.ref it)) Q E s
structure TurnW (S:Sx) (tg:Expr) (all:List W) (co:aA->Bool) (M0:Mp) (fp:List Addr) (it:Addr) (tn:Nat->Heap->Prop):Prop where
 keep:∀ i h h',tn i h->(∀ b∈fp,∀ o,h.get? b=some o->h'.get? b=some o)->tn i h'
 obj:∀ i h,tn i h->∀ b∈fp,∃ o,h.get? b=some o
 item:∀ {A:Around} {κ:Kp} {M:Mp} {h:aA} {s:Shared} {E:Value->Shared->Prop} {i:Nat} {x:W},(S.hm=false->A.handled=none)->Hk A M->Mem S κ M h s->Le M0 M->(∀ b∈fp,aU κ M b)->tn i s.heap->all[i]?=some x->co h=true ->
  Wp S A (pyNext (.ref it)) (fun r s1=>∃ u,r=some u/\Wp S A (letOwnedTupleGo tg (.ref it) u) (fun _ s2=>∃ M',Le M M'/\Mem S κ M' h s2/\RepW S M' x u/\tn (i+1) s2.heap/\∀ b∈fp,aU κ M' b) E s1) E s
 done:∀ {A:Around} {κ:Kp} {M:Mp} {h:aA} {s:Shared} {E:Value->Shared->Prop} {i:Nat},(S.hm=false->A.handled=none)->Hk A M->Mem S κ M h s->Le M0 M->(∀ b∈fp,aU κ M b)->tn i s.heap->all.length<=i->co h=true ->
  Wp S A (pyNext (.ref it)) (fun r s1=>r=none/\Mem S κ M h s1) E s
 self:∀ (A:Around) (i:Nat) (s:Shared) (Q:Value->Shared->Prop) (E:Value->Shared->Prop),tn i s.heap->Q (.ref it) s->Wp S A (pyIter (.ref it)) Q E s
def Turn.w {S:Sx} {tg:Expr} {all:List PyData} {c:Cw} {M0:Mp} {fp:List Addr} {it:Addr} {tn:Nat->Heap->Prop} (T:Turn S tg all c M0 fp it tn):TurnW S tg (all.map .d) (condB c all) M0 fp it tn where
 keep:=T.keep
 obj:=T.obj
 item:=fun {A κ M h s E i x} hd hk R l hf st hx co=>by
  rw [List.getElem?_map] at hx;obtain ⟨y,hy,rfl⟩:=map_some hx;exact T.item hd hk R l hf st hy co
 done:=fun hd hk R l hf st hx co=>T.done hd hk R l hf st (by simpa using hx) co
 self:=T.self
def Pi (S:Sx) (κ:Kp) (M:Mp) (h:aA) (tg:Expr) (p:List PyData×Cw) (u:Value) (s:Shared):Prop :=
 ∃ M' it fp tn,Le M M'/\Mem S κ M' h s/\u=.ref it/\Turn S tg p.1 p.2 M' fp it tn/\tn 0 s.heap/\(∀ b∈fp,aU κ M' b)/\p.1.length<=sizeLine
def SI (X:Cx) (tg iter:Expr) (f:XR (List PyData×Cw)):Prop:=∀ ⦃κ M δ h s p h'⦄,Mem X.S κ M h s->Fra X κ M δ->f δ h=some (p,h')->Wp X.S X.A (eval iter X.env) (fun v s1=>Wp X.S X.A (pyIter v) (Pi X.S κ M h' tg p) NE s1) NE s
def xK {M:Model} {A:Around} {E:Value->Shared->Prop} {s:Shared} {tg:Expr} {it:Addr} {u:Value} {o:Obj} {n:String} {vs:Array Value} {Q:Unit->Shared->Prop} (ho:s.heap.get? it=some o) (hc:o.cls=.type n) (hd:o.data=.fields vs)
  (hn:["enumerate","zip","dict_itemiterator","dict_reverseitemiterator","odict_iterator","itertools.zip_longest","itertools.pairwise"].contains n=false) (hQ:Q () s):wpAny M A (letOwnedTupleGo tg (.ref it) u) Q E s:=by
 unfold letOwnedTupleGo;cases tg<;>first
  | exact wpAny_pure hQ
  | (cases u<;>first
    | exact wpAny_pure hQ
    | (refine wpAny_bind (wpAny_load ho ?_)
       rw [hc,hd];show wpAny M A (if (["enumerate","zip","dict_itemiterator","dict_reverseitemiterator","odict_iterator","itertools.zip_longest","itertools.pairwise"].contains n&&vs[0]?==some (rawInt _))=true then _ else _) Q E s;rw [if_neg (by intro h;rw [hn,Bool.false_and] at h;cases h)];exact wpAny_pure hQ))
mutual
theorem vB:∀ {a b:PyData},peq a b=true->a=b
 | .none,b,h=>by cases b<;>first | rfl | cases h
 | .bool x,b,h=>by cases b<;>first | cases h;done | (rw [eq_of_beq (show (x==_)=true from h)])
 | .int x,b,h=>by cases b<;>first | cases h;done | (rw [eq_of_beq (show (x==_)=true from h)])
 | .str x,b,h=>by cases b<;>first | cases h;done | (rw [eq_of_beq (show (x==_)=true from h)])
 | .list x,b,h=>by cases b<;>first | cases h;done | (rw [peqs_eq (show peqs x _=true from h)])
 | .tuple x,b,h=>by cases b<;>first | cases h;done | (rw [peqs_eq (show peqs x _=true from h)])
 | .dict x,b,h=>by cases b<;>cases h
theorem peqs_eq:∀ {a b:List PyData},peqs a b=true->a=b
 | [],b,h=>by cases b<;>first | rfl | cases h
 | x::a,b,h=>by
  cases b with
  | nil=>cases h
  | cons y b=>replace h:(peq _ y&&peqs _ b)=true:=h;rw [Bool.and_eq_true] at h;rw [vB h.1,peqs_eq h.2]
end
section
variable {S:Sx} {κ:Kp} {M M0:Mp} {h:aA} {s:Shared} {A:Around} {E:Value->Shared->Prop} {tg:Expr} {all:List PyData} {c:Cw} {a it:Addr} {us:List Value} {n:Nat}
def Mem.turn {h2:Heap} {t:Nat} {fp:List Addr} (R:Mem S κ M h s) (hf:∀ b∈fp,aU κ M b) (k:∀ b o,b∉fp->s.heap.get? b=some o->h2.get? b=some o):Mem S κ M h { s with heap:=h2,toks:=t } :=
 R.keep (fun b o e nf=>k b o (fun z=>nf (hf b z)) e) R.bare rfl
def aG1 {hc:c=none->∃ us n,M0.Z a=some (bQ us n)/\us.length<=sizeLine/\Reps' S M0 all us} {hi:∀ q,c=some q->q.2=false/\∃ p,M0.m[q.1]?=some p/\p.1=a} (R:Mem S κ M h s) (l:Le M0 M) (co:condB c all h=true) :
  ∃ us n,s.heap.get? a=some (bQ us n)/\us.length<=sizeLine/\Reps' S M all us:=by
 cases c with
 | none =>
  obtain ⟨us,n,e,z,r⟩:=hc rfl;exact ⟨us,n,R.z _ _ (l.z _ _ e),z,r.go l⟩
 | some q =>
  obtain ⟨i,q2⟩:=q;obtain ⟨h0,p,e,rfl⟩:=hi _ rfl;cases (show q2=false from h0);have co:(match h[i]? with
   | some (.l ys)=>peqs ys all
   | _=>false)=true:=co
  split at co
  ·rename_i ys ey;rw [<- peqs_eq co];obtain ⟨us,n,e1,e2,e3⟩:=R.cel i p _ (l.at e) ey;exact ⟨us,n,e1,e2,e3⟩
  ·cases co
def pJ (hc:c=none->∃ us n,M0.Z a=some (bQ us n)/\us.length<=sizeLine/\Reps' S M0 all us) (hi:∀ q,c=some q->q.2=false/\∃ p,M0.m[q.1]?=some p/\p.1=a):Turn S tg all c M0 [it] it (fun i h=>h.IsListIter it a i) where
 keep:=fun i h h' st k=>st.at fun o e=>k it (by simp) o e
 obj:=fun i h st b hb=>by
  rw [List.mem_singleton.mp hb];obtain ⟨o,e,_⟩:=st;exact ⟨o,e⟩
 item:=by
  intro A κ M h s E i x hd hk R l hf st hx co;obtain ⟨us,n,ho,hz,rr⟩:=aG1 (hc:=hc) (hi:=hi) R l co;obtain ⟨u,hu,ru⟩:=lV rr hx;refine wpAny_pyNext_list_item st (bW ho).isList (x:=u) (by simpa using hu) fun h' st' sb=>?_;have R1:Mem S κ M h { s with heap:=h' }:=R.turn (t:=s.toks) hf fun b o hb e=>(sb.2 b fun z=>hb (by simp [z])).trans e;obtain ⟨o,e,c,d⟩:=id st';exact ⟨u,rfl,xK (s:={ s with heap:=h' }) e c d (by decide) ⟨M,.refl,R1,ru,st',hf⟩⟩
 done:=by
  intro A κ M h s E i hd hk R l hf st hx co;obtain ⟨us,n,ho,hz,rr⟩:=aG1 (hc:=hc) (hi:=hi) R l co;have hl:=rr.length;exact lM (hk.at R) st (bW ho).isList (by simp;omega) fun h' eb=>⟨rfl,R.turn (t:=s.toks) hf fun b o hb e=>eb b o (fun z=>hb (by simp [z])) e⟩
 self:=fun _ _ _ _ _ st h=>wpAny_pyIter_listiter st h
def vC (e0:M0.Z a=some { cls:=.type "tuple",data:=.seq us.toArray n }) (r0:Reps' S M0 all us):Turn S tg all none M0 [it] it (fun i h=>h.IsTupleIter it a i) where
 keep:=fun i h h' st k=>st.at fun o e=>k it (by simp) o e
 obj:=fun i h st b hb=>by
  rw [List.mem_singleton.mp hb];obtain ⟨o,e,_⟩:=st;exact ⟨o,e⟩
 item:=by
  intro A κ M h s E i x hd hk R l hf st hx co;obtain ⟨u,hu,ru⟩:=lV (r0.go l) hx;refine wpAny_pyNext_tuple_item st (show s.heap.IsTuple a us.toArray from fW (R.z _ _ (l.z _ _ e0))) (x:=u) (by simpa using hu) fun h' st' sb=>?_;have R1:Mem S κ M h { s with heap:=h' }:=R.turn (t:=s.toks) hf fun b o hb e=>(sb.2 b fun z=>hb (by simp [z])).trans e;obtain ⟨o,e,c,d⟩:=id st';exact ⟨u,rfl,xK (s:={ s with heap:=h' }) e c d (by decide) ⟨M,.refl,R1,ru,st',hf⟩⟩
 done:=by
  intro A κ M h s E i hd hk R l hf st hx co;have hl:=r0.length;exact xA (hk.at R) st (show s.heap.IsTuple a us.toArray from fW (R.z _ _ (l.z _ _ e0))) (by simp;omega) fun h' eb=>⟨rfl,R.turn (t:=s.toks) hf fun b o hb e=>eb b o (fun z=>hb (by simp [z])) e⟩
 self:=fun _ _ _ _ _ st h=>wpAny_pyIter_tupleiter st h
theorem xL:∀ {a b:List W},weqs a b=true->a=b
 | [],[],_=>rfl
 | [],_::_,h=>by cases h
 | _::_,[],h=>by cases h
 | x::a,y::b,h=>by
  obtain ⟨h1,h2⟩:=Bool.and_eq_true_iff.mp (show (weq x y&&weqs a b)=true from h);have e:x=y:=by
   cases x<;>cases y<;>first | (cases h1;done) | skip
   ·rw [vB (show peq _ _=true from h1)]
   ·rw [eq_of_beq (show (_==_)=true from h1)]
  rw [e,xL h2]
def vD {M:Mp} {j:Nat} {p:Addr×Addr} {ws:List W} (R:Mem S κ M h s) (ep:M.m[j]?=some p) (e:wsC j h=some ws):∃ us n,s.heap.get? p.1=some (bQ us n)/\us.length<=sizeLine/\RepWs S M ws us:=by
 unfold wsC at e;split at e
 ·rename_i xs ej;cases e;obtain ⟨us,n,a,b,r⟩:=R.cel j p _ ep ej;exact ⟨us,n,a,b,rW r⟩
 ·rename_i ws' ej;cases e;exact R.cel j p _ ep ej
 ·cases e
def aG2 {j:Nat} {ws:List W} {h:aA} (co:coW j ws h=true):wsC j h=some ws:=by
 unfold coW at co;split at co
 ·rename_i us e;rw [e,xL co]
 ·cases co
def aR5 {j:Nat} {p:Addr×Addr} {ws:List W} (ep:M0.m[j]?=some p):TurnW S tg ws (coW j ws) M0 [it] it (fun i h=>h.IsListIter it p.1 i) where
 keep:=fun i h h' st k=>st.at fun o e=>k it (by simp) o e
 obj:=fun i h st b hb=>by
  rw [List.mem_singleton.mp hb];obtain ⟨o,e,_⟩:=st;exact ⟨o,e⟩
 item:=by
  intro A κ M h s E i x hd hk R l hf st hx co;obtain ⟨us,n,ho,hz,rr⟩:=vD R (l.at ep) (aG2 co);obtain ⟨u,hu,ru⟩:=lV rr hx;refine wpAny_pyNext_list_item st (bW ho).isList (x:=u) (by simpa using hu) fun h' st' sb=>?_;have R1:Mem S κ M h { s with heap:=h' }:=R.turn (t:=s.toks) hf fun b o hb e=>(sb.2 b fun z=>hb (by simp [z])).trans e;obtain ⟨o,e,c,d⟩:=id st';exact ⟨u,rfl,xK (s:={ s with heap:=h' }) e c d (by decide) ⟨M,.refl,R1,ru,st',hf⟩⟩
 done:=by
  intro A κ M h s E i hd hk R l hf st hx co;obtain ⟨us,n,ho,hz,rr⟩:=vD R (l.at ep) (aG2 co);have hl:=rr.length;exact lM (hk.at R) st (bW ho).isList (by simp;omega) fun h' eb=>⟨rfl,R.turn (t:=s.toks) hf fun b o hb e=>eb b o (fun z=>hb (by simp [z])) e⟩
 self:=fun _ _ _ _ _ st h=>wpAny_pyIter_listiter st h
def aR6 {lo:Int} {n i:Nat} {x:PyData} (e:(rng lo n)[i]?=some x):i < n/\x=.int (lo+i):=by
 unfold rng at e;rw [List.getElem?_map] at e;obtain ⟨j,e1,rfl⟩:=map_some e;obtain ⟨h1,h2⟩:=List.getElem?_eq_some_iff.mp e1;rw [List.getElem_range] at h2;subst h2;exact ⟨by simpa using h1,rfl⟩
def vE {lo:Int} (hS:S.hm=false):Turn S tg (rng lo n) none M0 [it] it (fun i h=>IsRangeIter h it (lo+(i:Nat)*1) ((n:Int) - (i:Nat)) 1) where
 keep:=fun i h h' st k=>k it (by simp) _ st
 obj:=fun i h st b hb=>by rw [List.mem_singleton.mp hb];exact ⟨_,st⟩
 item:=by
  intro A κ M h s E i x hd hk R l hf st hx co;obtain ⟨hi,rfl⟩:=aR6 hx;have W:=Walks.range (prog:=S.P) (w:=S.w) (hd hS) it lo 1 n;refine W.item i s _ _ hi st fun v h' tk hv st' kk=>?_;obtain ⟨t,rfl⟩:=hv;have R1:Mem S κ M h { s with heap:=h',toks:=tk }:=R.turn hf fun b o hb e=>kk b o (by simpa using hb) e;refine ⟨_,rfl,xK (s:={ s with heap:=h',toks:=tk }) (n:="range_iterator") st' rfl rfl (by decide) ⟨M,.refl,R1,rep_i.mpr ⟨t,?_⟩,st',hf⟩⟩;rw [Int.mul_one]
 done:=by
  intro A κ M h s E i hd hk R l hf st hx co;have hx:n<=i:=by simpa [rng] using hx
  exact wpAny_pyNext_range_end (hd hS) st (by omega) fun h' eb=>⟨rfl,R.turn (t:=s.toks) hf fun b o hb e=>eb b o (fun z=>hb (by simp [z])) e⟩
 self:=fun _ _ _ _ _ st h=>wpAny_pyIter_rangeiter st h
def Mem.one (R:Mem S κ M h s):∀ b∈[s.heap.objs.size],aU κ M b:=fun b hb=>by rw [List.mem_singleton.mp hb];exact R.size
def sK (hS:S.hm=false) {lo hi:Int} {t u v:Tok} {tk:Nat} (R:Mem S κ M h s) (h1:-(2^62)<=lo) (h2:lo < 2^62) (h3:-(2^62)<=hi) (h4:hi < 2^62) (h5:hi - lo<=16000000) :
  Wp S A (pyIter (.ref s.heap.objs.size)) (Pi S κ M h tg (rng lo (hi - lo).toNat,none)) E { s with heap:=s.heap.push { cls:=.type "range",data:=.fields #[.int lo t,.int hi u,.int 1 v] },toks:=tk }:=by
 refine wpAny_pyIter_range (IsRange.new ..) (small_one h1 h2 h3 h4) ?_;have R1:Mem S κ M h { s with heap:=s.heap.push { cls:=.type "range",data:=.fields #[.int lo t,.int hi u,.int 1 v] },toks:=tk }:=R.kept fun b o e=>Heap.get?_push_of_some _ e;refine ⟨M,_,[(s.heap.push { cls:=.type "range",data:=.fields #[.int lo t,.int hi u,.int 1 v] }).objs.size],_,.refl,R1.kept (t:=tk) fun b o e=>Heap.get?_push_of_some _ e,rfl,vE hS,?_,R1.one,?_⟩
 case refine_2=>show (rng lo (hi - lo).toNat).length<=sizeLine;unfold rng;rw [List.length_map,List.length_range,sizeLine_eq];omega
 have e1:lo+((0:Nat):Int)*1=lo:=by simp
 have e2:(((hi - lo).toNat:Nat):Int) - ((0:Nat):Int)=Builtin.Range.rangeSize lo hi 1:=by rw [rangeSize_one];split<;>omega
 show IsRangeIter _ _ (lo+((0:Nat):Int)*1) ((((hi - lo).toNat:Nat):Int) - ((0:Nat):Int)) 1;rw [e1,e2];exact Heap.get?_push_size _ rfl
end
section
variable {X:Cx} {st:Sta} {d:Nat} {v:Evs} {a b tg iter:Expr} {κ:Kp} {M:Mp} {δ:DSt} {h h':aA} {s:Shared} {E:Value->Shared->Prop} {pos p:Pos}
def Pi.go {S:Sx} {M M':Mp} {q:List PyData×Cw} {u:Value} (l:Le M M') (x:Pi S κ M' h tg q u s):Pi S κ M h tg q u s:=let ⟨N,it,fp,tn,a,b⟩:=x;⟨N,it,fp,tn,l.trans a,b⟩
def vF (S:Snd v) (G:Good X st d):SI X tg iter (bC (v.E st iter)):=by
 intro κ M δ h s p h' R F e;obtain ⟨x,h1,e1,e⟩:=aH e;refine thn (S.E G iter R F e1) fun u s1 ⟨M1,l1,R1,r1⟩=>?_;rcases x with (_ | _ | _ | _ | xs | xs | _) | i<;>first | cases e;done | skip
 ·cases e;obtain ⟨a,us,n,rfl,z,⟨⟨n,rfl⟩,hz⟩,rr⟩:=rep_l.mp (show Rep X.S M1.Z (.list _) u from r1);exact wpAny_pyIter_list (bW (R1.z _ _ z)).isList (Pi.go l1 ⟨M1,_,[s1.heap.objs.size],_,.refl,R1.kept (t:=s1.toks) fun b o e=>Heap.get?_push_of_some _ e,rfl,pJ (fun _=>⟨_,_,z,hz,rr⟩) (fun i z=>nomatch z),⟨_,Heap.get?_push_size _ rfl,rfl,rfl⟩,R1.one,by rw [rr.length];exact hz⟩)
 ·cases e;obtain ⟨a,us,n,rfl,z,hz,rr⟩:=fQ R1 r1 rfl;exact wpAny_pyIter_tuple (show s1.heap.IsTuple a us.toArray from fW (R1.z _ _ z)) (Pi.go l1 ⟨M1,_,[s1.heap.objs.size],_,.refl,R1.kept (t:=s1.toks) fun b o e=>Heap.get?_push_of_some _ e,rfl,vC z rr,⟨_,Heap.get?_push_size _ rfl,rfl,rfl⟩,R1.one,by rw [rr.length];exact hz⟩)
 ·dsimp only at e;split at e
  ·rename_i xs ei;cases e;obtain ⟨p,ep,rfl⟩:=r1;obtain ⟨us,n,ho,hz,rr⟩:=R1.cel i p _ ep ei;exact wpAny_pyIter_list (bW ho).isList (Pi.go l1 ⟨M1,_,[s1.heap.objs.size],_,.refl,R1.kept (t:=s1.toks) fun b o e=>Heap.get?_push_of_some _ e,rfl,pJ (fun z=>nomatch z) (fun j z=>by cases z;exact ⟨rfl,p,ep,rfl⟩),⟨_,Heap.get?_push_size _ rfl,rfl,rfl⟩,R1.one,by rw [rr.length];exact hz⟩)
  ·cases e
def bB0 {i j:Int} (h:dY i j=true):j - i<=16000000/\-(2^62)<=i/\i < 2^62/\-(2^62)<=j/\j < 2^62:=by
 unfold dY at h
 simpa only [Bool.and_eq_true,decide_eq_true_eq] using h
def dI (G:Good X st d) {x:Str} (hx:(cR st x&&(slot st x).isNone&&st.bl.contains x)=true):aW x=true/\Gl X x/\X.S.mg x=none:=by
 rw [Bool.and_eq_true,Bool.and_eq_true] at hx;obtain ⟨h1,h2⟩:=qQ G hx.1.1;exact ⟨h1,h2,G.bl _ hx.2⟩
def Good.nS (G:Good X st d) (h:(!st.hm)=true):X.S.hm=false:=by rw [<- G.hm];simpa using h
def Good.nh (G:Good X st d) (h:(!st.hm)=true):X.A.handled=none:=G.rm.hd (G.nS h)
theorem bF9 (S:Snd v) (G:Good X st d) (hh0:(!st.hm)=true) (hx:(cR st "range"&&(slot st "range").isNone&&st.bl.contains "range")=true) (hs:aK a=true):SI X tg (.Call (.Name "range" p) [a] [] pos) (xb (v.E st a) fun w=>fun _ h=>(match w with
   | .d (.int j)=>if dY 0 j=true then some ((rng 0 j.toNat,none),h) else none
   | _=>none)):=by
 intro κ M δ h s q h' R F e;obtain ⟨h1,h2,h3⟩:=dI G hx;obtain ⟨x,hh,e1,e⟩:=aH e;have ea:aR v st [a] δ h=some ([x],hh):=by unfold aR;rw [if_pos hs];unfold aR xb aF;rw [e1];rfl
 have es:=bE (X:=X) (es:=[]) a hs;refine Call_ (cU F R h2 h3 boot_range h1 (PyProof.Rows.callWith_type1 (thn (bR S G [a] pos R F ea) fun us s1 ⟨M1,l1,R1,r0⟩=>?_) es rfl));obtain ⟨u,rfl,r1⟩:=w1 r0;split at e
 ·obtain ⟨hb,e⟩:=aI e;cases e;obtain ⟨t,rfl⟩:=wi.mp r1;obtain ⟨b1,b2,b3,b4,b5⟩:=bB0 hb;refine call_range_1 (thn (sK (tg:=tg) (G.nS hh0) R1 b2 b3 b4 b5 b1) fun _ _ q=>Pi.go l1 ?_);rw [Int.sub_zero] at q;exact q
 ·cases e
theorem bG0 (S:Snd v) (G:Good X st d) (hh0:(!st.hm)=true) (hx:(cR st "range"&&(slot st "range").isNone&&st.bl.contains "range")=true) (hs:aK a=true) (hs2:aK b=true):SI X tg (.Call (.Name "range" p) [a,b] [] pos) (xb (v.E st a) fun u=>xb (v.E st b) fun w=>fun _ h=>(match u,w with
   | .d (.int i),.d (.int j)=>if dY i j=true then some ((rng i (j - i).toNat,none),h) else none
   | _,_=>none)):=by
 intro κ M δ h s q h' R F e;obtain ⟨h1,h2,h3⟩:=dI G hx;obtain ⟨x,hh,e1,e⟩:=aH e;obtain ⟨y,hh2,e2,e⟩:=aH e;have ea:aR v st [a,b] δ h=some ([x,y],hh2):=by unfold aR;rw [if_pos hs];unfold xb;rw [e1];unfold aR;dsimp only [Option.bind];rw [if_pos hs2];unfold aR xb aF;dsimp only;rw [e2];rfl
 refine Call_ (cU F R h2 h3 boot_range h1 (PyProof.Rows.callWith_type1 (thn (bR S G [a,b] pos R F ea) fun us s1 ⟨M1,l1,R1,r0⟩=>?_) (bE a hs) (by rw [bE b hs2];rfl)));obtain ⟨u,v,rfl,r1,r2⟩:=w2 r0;split at e
 ·obtain ⟨hb,e⟩:=aI e;cases e;obtain ⟨t,rfl⟩:=wi.mp r1;obtain ⟨t',rfl⟩:=wi.mp r2;obtain ⟨b1,b2,b3,b4,b5⟩:=bB0 hb;exact call_range_2 (thn (sK (G.nS hh0) R1 b2 b3 b4 b5 b1) fun _ _ q=>Pi.go l1 q)
 ·cases e
noncomputable def dQ (κ:Kp) (fp:List Addr) (hp:Heap):Kp:=fun a=>if a∈fp then (hp.get? a).map fun o=>(true,o) else κ a
noncomputable def unK (fp:List Addr) (κ:Kp):Kp:=fun a=>if a∈fp then none else κ a
def Mem.pin {S:Sx} {fp:List Addr} (R:Mem S κ M h s) (hf:∀ b∈fp,aU κ M b):Mem S (dQ κ fp s.heap) M h s:=by
 refine ⟨R.z,fun a b o e=>?_,R.len,R.ap,fun q hq a ha=>?_,R.cel,R.base,R.bare,R.os⟩
 ·unfold dQ at e;split at e
  ·rename_i hm;obtain ⟨o',e1,e2⟩:=map_some e;cases e2;exact ⟨fun _=>e1,⟨_,e1⟩,(hf a hm).1⟩
  ·exact R.k a b o e
 ·obtain ⟨h1,h2,h3⟩:=R.off q hq a ha;refine ⟨h1,?_,h3⟩;unfold dQ;rw [if_neg fun hm=>by rcases ha with z | z;exact ((hf a hm).2.2 q hq).1 z.symm;exact ((hf a hm).2.2 q hq).2 z.symm];exact h2
def Fra.kp {κ':Kp} (F:Fra X κ M δ) (k:∀ a,bS8 X a->κ' a=κ a):Fra X κ' M δ :=
 ⟨F.ok,F.hk,F.len,let ⟨o,m,h1,h2,h3⟩:=F.loc;⟨o,m,by rw [k _ (.inl rfl)];exact h1,h2,fun i x w a b c=>let ⟨u,r,l⟩:=h3 i x w a b c;⟨u,r,l.imp id fun ⟨q,c,o,e1,e2,e3⟩=>⟨q,c,o,e1,by rw [k _ (.inr (.inl ⟨x,e1⟩))];exact e2,e3⟩⟩⟩,fun x c e=>let ⟨o,v,h1,h2⟩:=F.cell x c e;⟨o,v,by rw [k _ (.inr (.inl ⟨x,e⟩))];exact h1,h2⟩,F.frs.kp fun a h=>k a (.inr (.inr h))⟩
def Fra.mine (F:Fra X κ M δ) {a:Addr} (ha:bS8 X a):κ a≠none:=by
 rcases ha with rfl | ⟨x,e⟩ | ⟨l,env,z1,z2,z3⟩
 ·obtain ⟨o,m,h1,_⟩:=F.loc;rw [h1];exact fun z=>nomatch z
 ·obtain ⟨o,v,h1,_⟩:=F.cell x a e;rw [h1];exact fun z=>nomatch z
 ·obtain ⟨l',y1,y2⟩:=F.frs;rw [z1] at y1;cases y1;obtain ⟨_,L,o,y3,y4,_⟩:=y2 env z2;rw [z3] at y3;cases y3;rw [y4];exact fun z=>nomatch z
def Fra.pin {fp:List Addr} {hp:Heap} (F:Fra X κ M δ) (hf:∀ b∈fp,aU κ M b):Fra X (dQ κ fp hp) M δ:=F.kp fun a ha=>by
 unfold dQ;rw [if_neg fun hm=>F.mine ha (hf a hm).2.1]
def unpin {S:Sx} {fp:List Addr} {hp:Heap} {κ2:Kp} {M2:Mp} {h2:aA} {s2:Shared} (F:Fra X κ M δ) (hf:∀ b∈fp,aU κ M b) (ho:∀ b∈fp,∃ o,hp.get? b=some o) (o2:Own X (dQ κ fp hp) κ2) (R2:Mem S κ2 M2 h2 s2) :
  Own X κ (unK fp κ2)/\Mem S (unK fp κ2) M2 h2 s2/\(∀ b∈fp,aU (unK fp κ2) M2 b)/\(∀ b∈fp,∀ o,hp.get? b=some o->s2.heap.get? b=some o)/\∀ δ',Fra X κ2 M2 δ'->Fra X (unK fp κ2) M2 δ':=by
 have same:∀ b∈fp,κ2 b=dQ κ fp hp b:=fun b hb=>by
  by_cases e:κ2 b=dQ κ fp hp b
  ·exact e
  ·refine absurd (hf b hb).2.1 (F.mine ?_);rcases o2 b e with z | z
   ·exact .inl z
   ·exact .inr (.inl z.2)
 have pins:∀ b∈fp,∀ o,hp.get? b=some o->κ2 b=some (true,o):=fun b hb o e=>by rw [same b hb];unfold dQ;rw [if_pos hb,e];rfl
 refine ⟨fun a ha=>?_,R2.less fun a x e=>?_,fun b hb=>?_,fun b hb o e=>?_,fun δ' F'=>F'.kp fun a ha=>?_⟩
 ·have nm:a∉fp:=fun hm=>ha (by unfold unK;rw [if_pos hm,(hf a hm).2.1]);refine o2 a fun e=>ha ?_;unfold unK;rw [if_neg nm,e];unfold dQ;rw [if_neg nm]
 ·unfold unK at e;split at e
  ·cases e
  ·exact e
 ·obtain ⟨o,e⟩:=ho b hb;have k2:=pins b hb o e;exact ⟨(R2.k b _ _ k2).2.2,by unfold unK;rw [if_pos hb],R2.kc k2⟩
 ·exact (R2.k b _ _ (pins b hb o e)).1 rfl
 ·have nm:a∉fp:=fun hm=>F.mine ha (hf a hm).2.1;unfold unK;rw [if_neg nm]
end
end DL

namespace DL
open PySem PySem.Spec PyProof.Rows L2
section
variable {prog:Program} {w:World} {A:Around} {E:Value->Shared->Prop}
def aG3 {it l:Addr} {vs:Array Value} (ne:l≠it) (n:Nat):∀ (k:Nat) (s:Shared) (Q:List Value->Shared->Prop),k+n=vs.size->s.heap.IsListIter it l k->s.heap.IsList l vs->(∀ h',h'.IsListIter it l vs.size->Heap.SameBut it s.heap h'->Q (vs.toList.drop k) { s with heap:=h' })->wpAny (model prog w) A (draw (.ref it) n) Q E s:=by
 induction n with
 | zero =>
  intro k s Q hk hi hl hQ;have:=hQ s.heap (by rw [<- hk];exact hi) (Heap.SameBut.refl ..);rw [List.drop_of_length_le (by simp;omega)] at this;exact wpAny_pure this
 | succ n ih =>
  intro k s Q hk hi hl hQ;have lt:k < vs.size:=by omega
  show wpAny _ _ (pyNext (.ref it) >>= _) Q E s;refine wpAny_bind (wpAny_pyNext_list_item hi hl (x:=vs[k]) (by simp [lt]) fun h1 hi1 s1=>wpAny_bind (wpAny_holding (ih (k+1) _ _ (by omega) hi1 (hl.extBut s1.extBut ne) fun h2 hi2 s2=>wpAny_pure ?_)));have:=hQ h2 hi2 (s1.trans s2);rw [List.drop_eq_getElem_cons (by simpa using lt)] at this
  simpa using this
def vG {s:Shared} {env:Env} {elts:List Expr} {x1:Nat} {pos:Pos} {t:Addr} {vs:Array Value} {Q:Unit->Shared->Prop} (H:HkA A s.heap) (hl:s.heap.IsList t vs) (hz:(assignEach elts env).length=vs.size) (hn:List.findIdx? (fun x=>x.fst) (assignEach elts env)=none)
  (hQ:∀ h',Heap.ExtBut s.heap.objs.size s.heap h'->wpAny (model prog w) A (assignInOrder (List.map (fun x=>x.snd) (assignEach elts env)) vs.toList) Q E { s with heap:=h' }):wpAny (model prog w) A (assign (.Tuple elts x1 pos) env (.ref t)) Q E s:=by
 have k0:∀ b o,s.heap.get? b=some o->(s.heap.push { cls:=.type "list_iterator",data:=.fields #[.ref t,.int 0 0] }).get? b=some o:=fun b o e=>Heap.get?_push_of_some _ e;have lt:t≠s.heap.objs.size:=by obtain ⟨o,e,_⟩:=id hl;exact Nat.ne_of_lt (Heap.lt_size e)
 rw [arm_assign_Tuple];refine wpAny_bind (wpAny_standAt ?_);unfold unpack;rw [hz,hn];refine wpAny_bind (wpAny_holding ?_);unfold unpackItems notIterableAtAll;refine wpAny_bind (wpAny_bind (wpAny_specialOf hl.typeIs slot_list_iter.lookup (wpAny_pure ?_)));refine wpAny_bind (wpAny_holding (wpAny_pyIter_list hl ?_));dsimp only;have hi:(s.heap.push { cls:=.type "list_iterator",data:=.fields #[.ref t,.int 0 0] }).get? s.heap.objs.size=some { cls:=.type "list_iterator",data:=.fields #[.ref t,.int 0 0] }:=Heap.get?_push_size _ rfl;have hl0:(s.heap.push { cls:=.type "list_iterator",data:=.fields #[.ref t,.int 0 0] }).IsList t vs:=let ⟨o,e,r⟩:=hl;⟨o,k0 _ _ e,r⟩
 refine wpAny_bind (wpAny_holding (aG3 lt vs.size 0 _ _ (by omega) ⟨_,hi,rfl,rfl⟩ hl0 fun h' hit sb=>?_));rw [List.drop_zero,if_neg (by simp)];have k1:∀ b o,b≠s.heap.objs.size->s.heap.get? b=some o->h'.get? b=some o:=fun b o hb e=>(sb.2 b hb).trans (k0 b o e);refine wpAny_bind (wpAny_holding (lM (i:=vs.size) (l:=t) (items:=vs) ?_ hit (hl0.extBut sb.extBut lt) (by simp) fun h2 k2=>wpAny_pure (hQ h2 fun b o hb e=>k2 b o hb (k1 b o hb e))));exact (H.up k0).keep rfl hi rfl (by simp) fun b o hb e=>(sb.2 b hb).trans e
end
end DL

namespace DL
open PySem PySem.Spec PyProof.Rows L2 CI
section
variable {X:Cx} {st:Sta} {d:Nat} {v:Evs} {a b c tg iter:Expr} {κ:Kp} {M:Mp} {δ:DSt} {h h':aA} {s:Shared} {pos:Pos} {body els:List Stmt} {x:Str} {g:XG} {tb:XS}
def Ps.go {κ1:Kp} {M1:Mp} {fl:Fl} {f:Flow} (o:Own X κ κ1) (l:Le M M1) (p:Ps X κ1 M1 h fl f s):Ps X κ M h fl f s:=let ⟨κ2,M2,a,b,q⟩:=p;⟨κ2,M2,o.trans a,l.trans b,q⟩
def quiet (F:Fra X κ M δ):interactive X.env=false:=by simp [interactive,F.ok.kind]
theorem jC (S:Snd v) (G:Good X st d):∀ ss,SSs X ss (xSs v st ss)
 | []=>fun _ _ _ _ _ _ _ R F e=>by cases e;exact wpAny_execs_nil ⟨_,_,.refl,.refl,R,F⟩
 | t::r=>by
  intro κ M δ h s fl h' R F e;obtain ⟨⟨f1,h1⟩,e1,e⟩:=bind_some (show (v.S st t δ h).bind (fun p=>match p.1 with
   | .nx δ'=>xSs v st r δ' p.2
   | f=>some (f,p.2))=some (fl,h') from e)
  refine wpAny_execs_cons (thn (S.S G t R F e1) fun f s1 ⟨κ1,M1,o1,l1,R1,q⟩=>?_);cases f1 with
  | nx δ1 =>
   cases f<;>first | exact q.elim | skip
   exact thn (jC S G r R1 q e) fun _ _ p=>p.go o1 l1
  | rt w=>cases e;cases f<;>first | exact q.elim | exact ⟨κ1,M1,o1,l1,R1,q⟩
  | bk w=>cases e;cases f<;>first | exact q.elim | exact ⟨κ1,M1,o1,l1,R1,q⟩
  | ct w=>cases e;cases f<;>first | exact q.elim | exact ⟨κ1,M1,o1,l1,R1,q⟩
def jD {t:Stmt}:SS X t fun _ _=>none:=fun _ _ _ _ _ _ _ _ _ e=>by cases e
def bU0 {f:XR W} (hf:SE X a f):SS X (.Return (some a) pos) fun δ h=>(f δ h).bind fun p=>some (.rt p.1,p.2):=by
 intro κ M δ h s fl h' R F e;obtain ⟨⟨w,h1⟩,e1,e⟩:=bind_some e;cases e;exact wpAny_Return_some (thn (hf R F e1) fun u s1 ⟨M1,l1,R1,r1⟩=>⟨κ,M1,.refl,l1,R1,r1⟩)
def cL2 (S:Snd v) (G:Good X st d):SS X (.If c body els pos) fun δ h=>(v.T st c δ h).bind fun p=>if p.1=true then xSs v st body δ p.2 else xSs v st els δ p.2:=by
 intro κ M δ h s fl h' R F e;obtain ⟨⟨t,h1⟩,e1,e⟩:=bind_some e;refine wpAny_If (thn (S.T G c R F e1) fun t' s1 ⟨et,M1,l1,R1⟩=>?_);subst et;cases t' with
 | true=>exact thn (jC S G body R1 (F.go l1) e) fun _ _ p=>p.go .refl l1
 | false=>exact thn (jC S G els R1 (F.go l1) e) fun _ _ p=>p.go .refl l1
def bG1 (S:Snd v) (G:Good X st d) (hs:swapsWith a none pos.line X.env=pure false):SS X (.Expr a pos) fun δ h=>(v.E st a δ h).bind fun p=>some (.nx δ,p.2):=by
 intro κ M δ h s fl h' R F e;obtain ⟨⟨w,h1⟩,e1,e⟩:=bind_some e;cases e;exact wpAny_Expr_any (thn (S.E G a R F e1) fun u s1 ⟨M1,l1,R1,r1⟩=>⟨κ,M1,.refl,l1,R1,F.go l1⟩) (quiet F) hs
def qS {α:Type} {l:List α} {i:Nat} {x:α} (e:l[i]?=some x):l.drop i=x::l.drop (i+1):=by
 obtain ⟨hi,rfl⟩:=List.getElem?_eq_some_iff.mp e;exact List.drop_eq_getElem_cons hi
def bU1 {f:XR (List PyData×Cw)} (hd:X.S.hm=false->X.A.handled=none) (hi:SI X tg iter f) (hg:SG X tg g) (hb:SSs X body tb) (hs:∀ x,foldedSetIterable iter X.env x=pure x) :
  SS X (.For tg iter body [] pos) fun δ h=>(f δ h).bind fun p=>bY g tb p.1.2 p.1.1 p.1.1 δ p.2:=by
 intro κ M δ h s fl h' R F e;obtain ⟨⟨⟨all,c⟩,h1⟩,e1,e⟩:=bind_some e;refine wpAny_For (thn (hi R F e1) fun v s1 q1=>thn q1 fun itv s2 q2=>?_) hs;obtain ⟨M2,it,fp,tn,l2,R2,rfl,T,t2,f2,_⟩:=q2;dsimp only at T e;have hp:PassesOwn (model X.S.P X.S.w) X.A X.env NE:=PassesOwn.never;obtain ⟨I,hI⟩:∃ I:Nat->Shared->Prop,I=fun n s'=>∃ i κ' M' δ' hh,n=all.length - i/\i<=all.length/\Own X κ κ'/\Le M2 M'/\Mem X.S κ' M' hh s'/\Fra X κ' M' δ'/\tn i s'.heap/\(∀ b∈fp,aU κ' M' b)/\bY g tb c all (all.drop i) δ' hh=some (fl,h'):=⟨_,rfl⟩;refine codeAny_forLoop_any I ?_ all.length (by rw [hI];exact ⟨0,κ,M2,δ,h1,rfl,Nat.zero_le _,.refl,.refl,R2,F.go l2,t2,f2,e⟩);intro n s3 hn;rw [hI] at hn;obtain ⟨i,κ3,M3,δ3,h3,rfl,hle,o3,l3,R3,F3,t3,f3,e3⟩:=hn;cases q:all[i]? with
 | none =>
  have hl:all.length<=i:=List.getElem?_eq_none_iff.mp q;rw [List.drop_of_length_le hl] at e3;obtain ⟨co,e3⟩:=aI (show (if condB c all h3=true then some (Fl.nx δ3,h3) else none)=some (fl,h') from e3);cases e3;refine wpAny_passesOwn hp (thn (T.done hd F3.hk R3 l3 f3 t3 hl co) fun r s4 ⟨hr,R4⟩=>?_);subst hr;exact wpAny_execs_nil ⟨κ3,M3,o3,l2.trans l3,R4,F3⟩
 | some x =>
  have hlt:i < all.length:=(List.getElem?_eq_some_iff.mp q).1;rw [qS q] at e3;obtain ⟨co,e3⟩:=aI (show (if condB c all h3=true then (g (.d x) δ3 h3).bind (fun p=>(tb p.1 p.2).bind fun q=>(match q.1 with
    | .nx δ'=>bY g tb c all (all.drop (i+1)) δ' q.2
    | .ct δ'=>bY g tb c all (all.drop (i+1)) δ' q.2
    | .bk δ'=>some (.nx δ',q.2)
    | .rt w=>some (.rt w,q.2))) else none)=some (fl,h') from e3)
  obtain ⟨⟨δ4,h4⟩,e4,e3⟩:=bind_some e3;obtain ⟨⟨f5,h5⟩,e5,e3⟩:=bind_some e3;refine wpAny_passesOwn hp (thn (T.item hd F3.hk R3 l3 f3 t3 q co) fun r s4 ⟨u,hr,q4⟩=>?_);subst hr;refine wpAny_passesOwn hp (thn q4 fun _ s5 ⟨M5,l5,R5,r5,t5,fr5⟩=>?_);have F5:=F3.go l5;refine wpAny_passesOwn hp (thn (hg (R5.pin fr5) (F5.pin fr5) (show RepW X.S M5 (.d x) u from r5) e4) fun _ s6 ⟨κ6,M6,o6,l6,R6,F6⟩=>?_);refine wpAny_passesOwn hp (thn (hb R6 F6 e5) fun f s7 ⟨κ7,M7,o7,l7,R7,q7⟩=>?_);obtain ⟨u1,u2,u3,u4,u5⟩:=unpin F5 fr5 (T.obj _ _ t5) (o6.trans o7) R7;have l37:=l5.trans (l6.trans l7);have again:∀ {δ'},Fra X κ7 M7 δ'->bY g tb c all (all.drop (i+1)) δ' h5=some (fl,h')->∃ m,m < all.length - i/\I m s7:=fun F7 e7 =>
   ⟨all.length - (i+1),by omega,by rw [hI];exact ⟨i+1,_,M7,_,h5,rfl,hlt,o3.trans u1,l3.trans l37,u2,u5 _ F7,T.keep _ _ _ t5 u4,u3,e7⟩⟩
  cases f5 with
  | nx δ5=>cases f<;>first | exact q7.elim | exact again q7 e3
  | ct δ5=>cases f<;>first | exact q7.elim | exact again q7 e3
  | bk δ5=>cases e3;cases f<;>first | exact q7.elim | exact ⟨_,M7,o3.trans u1,l2.trans (l3.trans l37),u2,u5 _ q7⟩
  | rt w=>cases e3;cases f<;>first | exact q7.elim | exact ⟨_,M7,o3.trans u1,l2.trans (l3.trans l37),u2,q7⟩

def aR7 {f:XR Bool} {n:Nat} (hc:ST X c f) (hb:SSs X body tb):SS X (.While c body [] pos) (fE f tb n):=by
 intro κ M δ h s fl h' R F e;have hp:PassesOwn (model X.S.P X.S.w) X.A X.env NE:=PassesOwn.never;obtain ⟨I,hI⟩:∃ I:Nat->Shared->Prop,I=fun n s'=>∃ κ' M' δ' hh,Own X κ κ'/\Le M M'/\Mem X.S κ' M' hh s'/\Fra X κ' M' δ'/\fE f tb n δ' hh=some (fl,h'):=⟨_,rfl⟩;refine wpAny_While (codeAny_whileLoop I ?_ n (by rw [hI];exact ⟨κ,M,δ,h,.refl,.refl,R,F,e⟩));intro n s3 hn;rw [hI] at hn;obtain ⟨κ3,M3,δ3,h3,o3,l3,R3,F3,e3⟩:=hn;cases n with
 | zero=>cases e3
 | succ n =>
  obtain ⟨⟨t,h4⟩,e4,e3⟩:=bind_some (show (f δ3 h3).bind (fun p=>if p.1=true then
   (tb δ3 p.2).bind fun q=>(match q.1 with
    | .nx δ'=>fE f tb n δ' q.2
    | .ct δ'=>fE f tb n δ' q.2
    | .bk δ'=>some (.nx δ',q.2)
    | .rt w=>some (.rt w,q.2))
  else some (.nx δ3,p.2))=some (fl,h') from e3)
  refine wpAny_passesOwn hp (thn (hc R3 F3 e4) fun t' s4 ⟨et,M4,l4,R4⟩=>?_);subst et;cases t' with
  | false =>
   cases e3;exact wpAny_execs_nil ⟨κ3,M4,o3,l3.trans l4,R4,F3.go l4⟩
  | true =>
   obtain ⟨⟨f5,h5⟩,e5,e3⟩:=bind_some (show (tb δ3 h4).bind (fun q=>(match q.1 with
    | .nx δ'=>fE f tb n δ' q.2
    | .ct δ'=>fE f tb n δ' q.2
    | .bk δ'=>some (.nx δ',q.2)
    | .rt w=>some (.rt w,q.2)))=some (fl,h') from e3)
   refine wpAny_passesOwn hp (thn (hb R4 (F3.go l4) e5) fun f s7 ⟨κ7,M7,o7,l7,R7,q7⟩=>?_);have l:=l3.trans (l4.trans l7);cases f5 with
   | nx δ5=>cases f<;>first | exact q7.elim | exact ⟨n,Nat.lt_succ_self _,by rw [hI];exact ⟨κ7,M7,δ5,h5,o3.trans o7,l,R7,q7,e3⟩⟩
   | ct δ5=>cases f<;>first | exact q7.elim | exact ⟨n,Nat.lt_succ_self _,by rw [hI];exact ⟨κ7,M7,δ5,h5,o3.trans o7,l,R7,q7,e3⟩⟩
   | bk δ5=>cases e3;cases f<;>first | exact q7.elim | exact ⟨κ7,M7,o3.trans o7,l,R7,q7⟩
   | rt w=>cases e3;cases f<;>first | exact q7.elim | exact ⟨κ7,M7,o3.trans o7,l,R7,q7⟩
def bG2 (G:Good X st d) {i:Nat} (hi:slot st x=some i) (hl:(oP st.S x&&(st.top||cG st.S x))=true):SG X (.Name x pos) fun w δ h=>some (δ.set i (some w),h):=by
 intro κ M δ h s w u δ' h' R F r e;cases e;obtain ⟨h1,h2⟩:=aF7 G hl;exact wpAny_assign_Name (aF6 F R (jB G hi) h1 h2 r fun s' κ' o R' F' _=>⟨κ',M,o,.refl,R',F'⟩)
def xM (e:Expr) (hs:aK e=true) (es:List Expr):(assignEach (e::es) X.env).map (·.2)=assign e X.env::(assignEach es X.env).map (·.2)/\(assignEach (e::es) X.env).length=(assignEach es X.env).length+1/\((assignEach es X.env).findIdx? (·.1)=none->(assignEach (e::es) X.env).findIdx? (·.1)=none):=by
 have t:assignEach (e::es) X.env=(false,assign e X.env)::assignEach es X.env:=by cases e<;>first | rfl | cases hs
 rw [t];refine ⟨rfl,rfl,fun z=>?_⟩;rw [List.findIdx?_cons,z];rfl
theorem qU:∀ (es:List Expr),es.all aK=true->(assignEach es X.env).length=es.length/\(assignEach es X.env).findIdx? (·.1)=none
 | [],_=>⟨rfl,rfl⟩
 | e::es,h=>by
  rw [List.all_cons,Bool.and_eq_true] at h;obtain ⟨h1,h2⟩:=qU es h.2;obtain ⟨_,h4,h5⟩:=xM (X:=X) e h.1 es;exact ⟨by rw [h4,h1];rfl,h5 h2⟩
theorem sM (S:Snd v) (G:Good X st d):∀ (es:List Expr),es.all aK=true->∀ {κ M δ h s xs us δ' h'},Mem X.S κ M h s->Fra X κ M δ->Reps' X.S M xs us->dX (mF v st es) xs δ h=some (δ',h') ->
  es.length=xs.length/\Wp X.S X.A (assignInOrder ((assignEach es X.env).map (·.2)) us) (fun _ s'=>∃ κ' M',Own X κ κ'/\Le M M'/\Mem X.S κ' M' h' s'/\Fra X κ' M' δ') NE s
 | [],_,κ,M,δ,h,s,xs,us,δ',h',R,F,r,e=>by
  cases xs with
  | nil=>cases e;cases r;exact ⟨rfl,assignInOrder_nil ⟨κ,M,.refl,.refl,R,F⟩⟩
  | cons _ _=>cases e
 | t::es,ha,κ,M,δ,h,s,xs,us,δ',h',R,F,r,e=>by
  rw [List.all_cons,Bool.and_eq_true] at ha;cases xs with
  | nil=>cases e
  | cons x xs =>
   cases r with
   | @cons _ u _ us r1 r2 =>
    obtain ⟨⟨δ1,h1⟩,e1,e⟩:=bind_some (show (v.G st t (.d x) δ h).bind (fun p=>dX (mF v st es) xs p.1 p.2)=some (δ',h') from e);have len:es.length=xs.length:=by
     have go:∀ (es:List Expr) (xs:List PyData) δ h r,dX (mF v st es) xs δ h=some r->es.length=xs.length:=by
      intro es;induction es with
      | nil=>intro xs δ h r e;cases xs with | nil=>rfl | cons _ _=>cases e
      | cons t es ih =>
       intro xs δ h r e;cases xs with
       | nil=>cases e
       | cons x xs =>
        obtain ⟨p,_,e⟩:=bind_some (show (v.G st t (.d x) δ h).bind (fun p=>dX (mF v st es) xs p.1 p.2)=some r from e);rw [List.length_cons,List.length_cons,ih _ _ _ _ e]
     exact go _ _ _ _ _ e
    refine ⟨by rw [List.length_cons,List.length_cons,len],?_⟩;rw [(xM (X:=X) t ha.1 es).1];refine assignInOrder_cons (thn (S.G G t R F (show RepW X.S M (.d x) u from r1) e1) fun _ s1 ⟨κ1,M1,o1,l1,R1,F1⟩=>?_);exact thn (sM S G es ha.2 R1 F1 (Reps'.go l1 r2) e).2 fun _ s2 ⟨κ2,M2,o2,l2,q⟩=>⟨κ2,M2,o1.trans o2,l1.trans l2,q⟩
def bU2 (S:Snd v) (G:Good X st d) {es:List Expr} {k} (ha:es.all aK=true):SG X (.Tuple es k pos) (bH (mF v st es)):=by
 intro κ M δ h s w u δ' h' R F r e;unfold bH at e;split at e
 ·obtain ⟨a,us,n,rfl,z,hz,rr⟩:=fQ (h:=h) R r rfl;obtain ⟨h1,h2⟩:=qU (X:=X) es ha;obtain ⟨hl,_⟩:=sM S G es ha R F rr e;refine zJ (F.hk.at R) (fW (R.z _ _ z)) (by rw [h1,hl,rr.length];simp) h2 fun h2 hx=>?_;exact (sM S G es ha (R.kept (t:=s.toks) fun b o e=>hx b o (Nat.ne_of_lt (Heap.lt_size e)) e) F (by simpa using rr) e).2
 ·rename_i i;split at e
  ·rename_i xs ei;obtain ⟨p,ep,rfl⟩:=r;obtain ⟨us,n,ho,hz,rr⟩:=R.cel i p _ ep ei;obtain ⟨h1,h2⟩:=qU (X:=X) es ha;obtain ⟨hl,_⟩:=sM S G es ha R F rr e;refine vG (F.hk.at R) (bW ho).isList (by rw [h1,hl,rr.length];simp) h2 fun h2 hx=>?_;exact (sM S G es ha (R.kept (t:=s.toks) fun b o e=>hx b o (Nat.ne_of_lt (Heap.lt_size e)) e) F (by simpa using rr) e).2
  ·cases e
 ·cases e
def mM (its:List Value) (n j:Nat) (u:Value):Obj.mapSeq (·.setIfInBounds j u) (bQ its n)=bQ (its.set j u) n:=by simp [Obj.mapSeq]
def Mem.upd {S:Sx} {i:Nat} {p:Addr×Addr} {us us':List Value} {n n' t:Nat} {xs:List PyData} {f:Obj->Obj} (R:Mem S κ M h s) (ei:M.m[i]?=some p) (hl:∃ ys,h[i]?=some (.l ys)) (ho:s.heap.get? p.1=some (bQ us n)) (hf:f (bQ us n)=bQ us' n') (r:Reps' S M xs us') (z:us'.length<=sizeLine) :
  Mem S κ M (h.set i (.l xs)) { s with heap:=s.heap.update p.1 f,toks:=t }:=by
 have e:(s.heap.update p.1 f).get? p.1=some (bQ us' n'):=by rw [Heap.get?_update_self f ho (by rw [hf]<;>rfl),hf]
 obtain ⟨_,_,o2,ho2⟩:=R.off p (List.mem_of_getElem? ei) p.2 (.inr rfl);refine R.wr ei (fun b o n1 _ q=>(Heap.get?_update_other _ _ (Ne.symm n1)).trans q) ⟨⟨_,e⟩,?_⟩ R.bare rfl ⟨us',n',e,z,r⟩
 by_cases hq:p.2=p.1
 ·exact ⟨_,by rw [hq];exact e⟩
 ·exact ⟨o2,(Heap.get?_update_other _ _ (Ne.symm hq)).trans ho2⟩
def sN {S:Sx} {k:Key} {y:PyData} {x:W} {u:Value} (ek:cQ y=some k) (rx:RepW S M x u) {kvs:List (PyData×W)} {vs:List (Key×Value)} (r:RepKW S M kvs vs):RepKW S M (lY kvs y x) (stored vs k u):=by
 unfold lY stored;have ea:(kvs.any fun p=>decide (cQ p.1=cQ y))=vs.any fun kv=>decide (kv.1=k):=by
  rw [ek];induction r with
  | nil=>rfl
  | cons h t ih=>rw [List.any_cons,List.any_cons,ih,h.1];simp
 rw [ea,ek];split
 ·rename_i hq;clear ea hq;induction r with
  | nil=>exact .nil
  | @cons p q ps qs h t ih =>
   rw [List.map_cons,List.map_cons];refine .cons ?_ ih
   by_cases e:q.1=k
   ·rw [if_pos (by rw [h.1,e]),if_pos e];exact ⟨h.1,rx⟩
   ·rw [if_neg (by rw [h.1];exact fun z=>e (Option.some.inj z)),if_neg e];exact h
 ·exact Paired.snoc r ⟨ek,rx⟩
def bG3 {S:Sx} {A:Around} {E:Value->Shared->Prop} {i j:Nat} {p:Addr×Addr} {xs:List PyData} {k:Int} {t:Tok} {x:PyData} {u:Value} {Q:Unit->Shared->Prop} (R:Mem S κ M h s) (ei:M.m[i]?=some p) (eh:h[i]?=some (.l xs)) (ej:ixN xs.length k=some j) (rx:Rep S M.Z x u)
  (q:∀ s',Mem S κ M (h.set i (.l (xs.set j x))) s'->Q () s'):Wp S A (setItem (.ref p.1) (.int k t) u) Q E s:=by
 obtain ⟨us,n,ho,hz,rr⟩:=R.cel i p _ ei eh;have hl:=rr.length;obtain ⟨h1,h2,h3,h4⟩:=qL ej;have hn:=mH;have R':=R.upd (t:=s.toks) ei ⟨_,eh⟩ ho (mM us n j u) (bD4 rx j rr) (by rw [List.length_set];exact hz)
 by_cases h0:0<=k
 ·have hk:k.toNat=j:=by rw [seqIndex_of h0 h4] at h1;exact Option.some.inj h1
  exact PySem.W.ki_setAt ho h0 (by omega) (by rw [List.size_toArray,<- hl];exact h4) (by rw [hk];exact q _ R')
 ·have hk:(k+(us.toArray.size:Int)).toNat=j:=by rw [seqIndex_neg (by omega) h3] at h1;rw [List.size_toArray,<- hl];exact Option.some.inj h1
  exact PySem.W.ki_setBack ho (by omega) (by rw [List.size_toArray,<- hl];exact h3) (by omega) (by rw [hk];exact q _ R')
def aG4 {S:Sx} {A:Around} {E:Value->Shared->Prop} {i:Nat} {p:Addr×Addr} {kvs:List (PyData×W)} {y:PyData} {x:W} {k:Key} {u uk:Value} {Q:Unit->Shared->Prop} (R:Mem S κ M h s) (ei:M.m[i]?=some p) (eh:h[i]?=some (.k kvs)) (ek:cQ y=some k) (hlt:kvs.length < sizeLine) (ry:Rep S M.Z y uk) (rx:RepW S M x u)
  (q:∀ s',Mem S κ M (h.set i (.k (lY kvs y x))) s'->Q () s'):Wp S A (setItem (.ref p.1) uk u) Q E s:=by
 obtain ⟨vs,dd,rk,hd,hz⟩:=R.cel i p _ ei eh;have hl:=rk.length;refine wpAny_setItem_pairs (hsz:=hz) (uZ ek ry) dd fun h' dd' hs=>q _ ?_;obtain ⟨o',es',ep',ho',hx'⟩:=id dd';obtain ⟨_,_,o2,ho2⟩:=R.off p (List.mem_of_getElem? ei) p.2 (.inr rfl);refine R.wr ei (fun b o n1 _ q=>(hs.2 b n1).trans q) ⟨⟨_,ho'⟩,?_⟩ R.bare rfl ⟨_,dd',sN ek rx rk,hd,?_⟩
 ·by_cases hq:p.2=p.1
  ·exact ⟨_,by rw [hq];exact ho'⟩
  ·exact ⟨o2,(hs.2 _ hq).trans ho2⟩
 ·have:(lY kvs y x).length<=kvs.length+1:=by
   unfold lY;split
   ·rw [List.length_map];omega
   ·rw [List.length_append];simp
  rw [<- (sN ek rx rk).length];omega
def Mem.updW {S:Sx} {i:Nat} {p:Addr×Addr} {us us':List Value} {n n' t:Nat} {ws:List W} {f:Obj->Obj} (R:Mem S κ M h s) (ei:M.m[i]?=some p) (ho:s.heap.get? p.1=some (bQ us n)) (hf:f (bQ us n)=bQ us' n') (r:RepWs S M ws us') (z:us'.length<=sizeLine) :
  Mem S κ M (h.set i (.r ws)) { s with heap:=s.heap.update p.1 f,toks:=t }:=by
 have e:(s.heap.update p.1 f).get? p.1=some (bQ us' n'):=by rw [Heap.get?_update_self f ho (by rw [hf]<;>rfl),hf]
 obtain ⟨_,_,o2,ho2⟩:=R.off p (List.mem_of_getElem? ei) p.2 (.inr rfl);refine R.wr ei (fun b o n1 _ q=>(Heap.get?_update_other _ _ (Ne.symm n1)).trans q) ⟨⟨_,e⟩,?_⟩ R.bare rfl ⟨us',n',e,z,r⟩
 by_cases hq:p.2=p.1
 ·exact ⟨_,by rw [hq];exact e⟩
 ·exact ⟨o2,(Heap.get?_update_other _ _ (Ne.symm hq)).trans ho2⟩
def qV {S:Sx} {A:Around} {E:Value->Shared->Prop} {i j n:Nat} {p:Addr×Addr} {us:List Value} {ws:List W} {k:Int} {t:Tok} {w:W} {u:Value} {Q:Unit->Shared->Prop} (R:Mem S κ M h s) (ei:M.m[i]?=some p) (ho:s.heap.get? p.1=some (bQ us n)) (hz:us.length<=sizeLine) (rr:RepWs S M ws us) (ej:ixN ws.length k=some j) (rx:RepW S M w u)
  (q:∀ s',Mem S κ M (h.set i (.r (ws.set j w))) s'->Q () s'):Wp S A (setItem (.ref p.1) (.int k t) u) Q E s:=by
 have hl:=rr.length;obtain ⟨h1,h2,h3,h4⟩:=qL ej;have hn:=mH;have R':=R.updW (t:=s.toks) ei ho (mM us n j u) (bD4 rx j rr) (by rw [List.length_set];exact hz)
 by_cases h0:0<=k
 ·have hk:k.toNat=j:=by rw [seqIndex_of h0 h4] at h1;exact Option.some.inj h1
  exact PySem.W.ki_setAt ho h0 (by omega) (by rw [List.size_toArray,<- hl];exact h4) (by rw [hk];exact q _ R')
 ·have hk:(k+(us.toArray.size:Int)).toNat=j:=by rw [seqIndex_neg (by omega) h3] at h1;rw [List.size_toArray,<- hl];exact Option.some.inj h1
  exact PySem.W.ki_setBack ho (by omega) (by rw [List.size_toArray,<- hl];exact h3) (by omega) (by rw [hk];exact q _ R')
def bU3 (S:Snd v) (G:Good X st d) (ha:∀ v,assign (.Subscript a b pos) X.env v=(do
   let ov <- holding [v] (eval a X.env)
   let iv <- holding [v,ov] (eval b X.env)
   standAt pos
   holding [v,ov,iv] (setItem ov iv v)
   release [v,ov,iv] [])):SG X (.Subscript a b pos) (sC (v.E st a) (v.E st b)):=by
 intro κ M δ h s w u δ' h' R F r e;obtain ⟨⟨x1,h1⟩,e1,e⟩:=bind_some e;obtain ⟨⟨x2,h2⟩,e2,e⟩:=bind_some e;rw [ha];refine wpAny_bind (wpAny_holding (thn (S.E G a R F e1) fun ov s1 ⟨M1,l1,R1,r1⟩=>?_));refine wpAny_bind (wpAny_holding (thn (S.E G b R1 (F.go l1) e2) fun iv s2 ⟨M2,l2,R2,r2⟩=>?_));refine wpAny_bind (wpAny_standAt (wpAny_bind (wpAny_holding ?_)));have l:=l1.trans l2;have rw':=r.go l;have fin:∀ {hh:aA} {s3:Shared},Mem X.S κ M2 hh s3->Wp X.S X.A (release [u,ov,iv] []) (fun _ s'=>∃ κ' M',Own X κ κ'/\Le M M'/\Mem X.S κ' M' hh s'/\Fra X κ' M' δ) NE s3:=fun R3=>wpAny_release ⟨κ,M2,.refl,l,R3,F.go l⟩;rcases x1 with _ | j
 ·cases e
 rcases x2 with y | _
 case c=>cases e
 rcases w with x | m
 case c =>
  obtain ⟨p,ep,rfl⟩:=r1.go l2;dsimp only at e;unfold zP at e;cases ej:h2[j]? with
  | none=>rw [ej] at e;cases e
  | some c =>
   rw [ej] at e;cases c with
   | l xs =>
    cases y<;>first | cases e;done | skip
    rename_i k;obtain ⟨n,en,e⟩:=map_some e;cases e;obtain ⟨t,rfl⟩:=wi.mp r2;obtain ⟨us,q,ho,hz,rr⟩:=R2.cel j p _ ep ej;exact qV R2 ep ho hz (ws:=xs.map .d) (rW rr) (by rw [List.length_map];exact en) rw' fun s3 R3=>fin R3
   | r ws =>
    cases y<;>first | cases e;done | skip
    rename_i k;obtain ⟨n,en,e⟩:=map_some e;cases e;obtain ⟨t,rfl⟩:=wi.mp r2;obtain ⟨us,q,ho,hz,rr⟩:=R2.cel j p _ ep ej;exact qV R2 ep ho hz rr en rw' fun s3 R3=>fin R3
   | k kvs =>
    cases y<;>first | cases e;done | skip
    obtain ⟨hz,e⟩:=aI e;cases e;exact aG4 R2 ep ej (k:=.inl _) rfl hz (show Rep X.S M2.Z (.int _) iv from r2) rw' fun s3 R3=>fin R3
   | _=>cases e
 obtain ⟨p,ep,rfl⟩:=r1.go l2;dsimp only at e;unfold zO at e;cases ej:h2[j]? with
 | none=>rw [ej] at e;cases e
 | some c =>
  rw [ej] at e;cases c with
  | l xs =>
   cases y<;>first | cases e;done | skip
   rename_i k;obtain ⟨n,en,e⟩:=map_some e;cases e;obtain ⟨t,rfl⟩:=wi.mp r2;exact bG3 R2 ep ej en rw' fun s3 R3=>fin R3
  | r ws =>
   cases y<;>first | cases e;done | skip
   rename_i k;obtain ⟨n,en,e⟩:=map_some e;cases e;obtain ⟨t,rfl⟩:=wi.mp r2;obtain ⟨us,q,ho,hz,rr⟩:=R2.cel j p _ ep ej;exact qV R2 ep ho hz rr en (w:=.d x) rw' fun s3 R3=>fin R3
  | k kvs =>
   cases y<;>first | cases e;done | skip
   obtain ⟨hz,e⟩:=aI e;cases e;exact aG4 R2 ep ej (k:=.inl _) rfl hz (show Rep X.S M2.Z (.int _) iv from r2) (x:=.d x) rw' fun s3 R3=>fin R3
  | _=>cases e
end
end DL

namespace DL
open PySem PySem.Spec PyProof.Rows L2 CI
structure CompSc (N N':List Str) (ixs:List (Option Nat)) (S sc:Scope):Prop where
 kind:sc.kind=.function
 nocell:∀ y∈sc.names,y.2≠.cell
 loc:∀ y∈sc.names,y.2=.local->sc.names.lookup y.1=some .local
 free:∀ y∈sc.names,y.2=.free->S.names.lookup y.1=some .cell\/S.names.lookup y.1=some .free
 nd:N'.Nodup
 len:ixs.length=N'.length
 cap:((ixs.zip N').all fun p=>match p.1 with
  | none=>true
  | some i=>decide (N[i]?=some p.2)&&decide (sc.names.lookup p.2=some NameKind.free))=true


def CompSc.at {N N':List Str} {ixs:List (Option Nat)} {S sc:Scope} (h:CompSc N N' ixs S sc) {j i:Nat} {x:Str} (e1:N'[j]?=some x) (e2:ixs[j]?=some (some i)) :
  N[i]?=some x/\sc.names.lookup x=some .free:=by
 have hm:(some i,x)∈ixs.zip N':=by
  refine List.mem_of_getElem? (i:=j) ?_;rw [List.getElem?_zip_eq_some];exact ⟨e2,e1⟩
 have q:=List.all_eq_true.mp h.cap _ hm;simp only [Bool.and_eq_true,decide_eq_true_eq] at q;exact q

theorem fY {env:Env}:∀ (names:List (Str×NameKind)) (acc:List (Str×Addr)),(∀ y∈names,y.2=.free->∃ c,env.cells.lookup y.1=some c) ->
  (∀ x c,acc.lookup x=some c->env.cells.lookup x=some c) ->
  ∃ cl,(∀ x c,cl.lookup x=some c->env.cells.lookup x=some c)/\(∀ y∈names,y.2=.free->∃ c,cl.lookup y.1=some c)/\(∀ x c,acc.lookup x=some c->∃ d,cl.lookup x=some d) /\
   (forIn names acc fun (x:Str×NameKind) (r:List (Str×Addr))=>(if (x.2==NameKind.free)=true then (do let a <- cellOf env x.1;pure (ForInStep.yield ((x.1,a)::r))) else pure (ForInStep.yield r):Sem (ForInStep (List (Str×Addr)))))=(pure cl:Sem (List (Str×Addr)))
 | [],acc,_,ha=>⟨acc,ha,fun _ h=>(nomatch h),fun x c h=>⟨c,h⟩,rfl⟩
 | (n,k)::r,acc,h,ha=>by
  by_cases hk:k=.free
  ·subst hk;obtain ⟨c,hc⟩:=h (n,.free) List.mem_cons_self rfl;obtain ⟨cl,h1,h2,h3,h4⟩:=fY r ((n,c)::acc) (fun y hy=>h y (List.mem_cons_of_mem _ hy)) (fun x d hd=>by
    rw [List.lookup_cons] at hd;cases q:x==n with
    | true =>
     rw [q] at hd;have e1:x=n:=by simpa using q
     have e2:c=d:=Option.some.inj hd;rw [e1,<- e2];exact hc
    | false=>rw [q] at hd;exact ha x d hd)
   refine ⟨cl,h1,fun y hy hf=>?_,fun x d hd=>?_,?_⟩
   ·rcases List.mem_cons.mp hy with e | hy
    ·subst e;exact h3 n c (by simp [List.lookup_cons])
    ·exact h2 y hy hf
   ·cases q:x==n with
    | true =>
     have e1:x=n:=by simpa using q
     subst e1;exact h3 x c (by simp [List.lookup_cons])
    | false=>exact h3 x d (by rw [List.lookup_cons,q];exact hd)
   ·rw [<- h4,List.forIn_cons];have e:cellOf env n=pure c:=by unfold cellOf;rw [hc]
    show ((if (NameKind.free==NameKind.free)=true then (do let a <- cellOf env n;pure (ForInStep.yield ((n,a)::acc))) else pure (ForInStep.yield acc):Sem _) >>= _)=_;rw [if_pos (by decide),e];rfl
  ·obtain ⟨cl,h1,h2,h3,h4⟩:=fY r acc (fun y hy=>h y (List.mem_cons_of_mem _ hy)) ha;refine ⟨cl,h1,fun y hy hf=>?_,h3,?_⟩
   ·rcases List.mem_cons.mp hy with e | hy
    ·subst e;exact absurd hf hk
    ·exact h2 y hy hf
   ·rw [<- h4,List.forIn_cons];have e:(k==NameKind.free)=false:=by simpa using hk
    show ((if (k==NameKind.free)=true then (do let a <- cellOf env n;pure (ForInStep.yield ((n,a)::acc))) else pure (ForInStep.yield acc):Sem _) >>= _)=_;rw [if_neg (by rw [e];exact Bool.false_ne_true)];rfl
def iJ {sc:Scope} {env:Env} (h:∀ y∈sc.names,y.2=.free->∃ c,env.cells.lookup y.1=some c) :
  ∃ cl,closureFor sc env=pure cl/\(∀ x c,cl.lookup x=some c->env.cells.lookup x=some c)/\(∀ y∈sc.names,y.2=.free->∃ c,cl.lookup y.1=some c):=by
 obtain ⟨cl,h1,h2,_,h4⟩:=fY (env:=env) sc.names [] h (fun x c e=>by simp at e);refine ⟨cl,?_,h1,h2⟩;unfold closureFor;exact (congrArg (fun m:Sem (List (Str×Addr))=>m >>= fun r=>pure r) h4).trans rfl

theorem eG {env:Env} {x:Str}:∀ {names:List (Str×NameKind)} {k:NameKind},names.lookup x=some k ->
  (names.map fun (n,k)=>if (k==NameKind.free&&env.scope.kind==.function&&env.kindOf n==some .cell) then (n,NameKind.cell) else (n,k)).lookup x
   = some (if (k==NameKind.free&&env.scope.kind==.function&&env.kindOf x==some .cell) then NameKind.cell else k)
 | [],_,h=>by simp at h
 | (n,k0)::r,k,h=>by
  rw [List.lookup_cons] at h;rw [List.map_cons];cases q:x==n with
  | true =>
   have e1:x=n:=by simpa using q
   subst e1;rw [q] at h;have e2:k0=k:=Option.some.inj h;subst e2;dsimp only
   by_cases hc:(k0==NameKind.free&&env.scope.kind==.function&&env.kindOf x==some .cell)=true
   ·rw [if_pos hc,if_pos hc,List.lookup_cons,q]
   ·rw [if_neg hc,if_neg hc,List.lookup_cons,q]
  | false =>
   rw [q] at h;have ih:=eG (env:=env) h;dsimp only
   by_cases hc:(k0==NameKind.free&&env.scope.kind==.function&&env.kindOf n==some .cell)=true
   ·rw [if_pos hc,List.lookup_cons,q];exact ih
   ·rw [if_neg hc,List.lookup_cons,q];exact ih
theorem jE {env:Env} {x:Str}:∀ {names:List (Str×NameKind)},names.lookup x=none ->
  (names.map fun (n,k)=>if (k==NameKind.free&&env.scope.kind==.function&&env.kindOf n==some .cell) then (n,NameKind.cell) else (n,k)).lookup x=none
 | [],_=>rfl
 | (n,k0)::r,h=>by
  rw [List.lookup_cons] at h;rw [List.map_cons];cases q:x==n with
  | true=>rw [q] at h;cases h
  | false =>
   rw [q] at h;have ih:=jE (env:=env) h;dsimp only
   by_cases hc:(k0==NameKind.free&&env.scope.kind==.function&&env.kindOf n==some .cell)=true
   ·rw [if_pos hc,List.lookup_cons,q];exact ih
   ·rw [if_neg hc,List.lookup_cons,q];exact ih

def zW {prog:Program} {w:World} {A:Around} {R:Result->Shared->Prop} {s:Shared} {elt target iter:Expr} {ifs:List Expr} {scope:Scope} {pos:Pos} {it acc:Value} {env:Env} (I:Nat->Shared->Prop)
  (turn:∀ n s,I n s->wpAny (model prog w) A (pyNext it) (fun r s₁=>match r with
   | none=>R (.ok .next) s₁
   | some v=>wpAny (model prog w) A (letOwnedTupleGo target it v) (fun _ t₁=>wpAny (model prog w) A (assign target env v) (fun _ s₂ =>
     wpAny (model prog w) A (forIn ifs true fun c r=>if r=true then do let ok <- isTrue c env (eval c env);pure (ForInStep.yield ok) else pure (ForInStep.yield r)) (fun ok s₃ =>
      if ok=true then wpAny (model prog w) A (eval elt env) (fun x s₄ =>
       wpAny (model prog w) A (call (.builtin "list.append") [acc,x]) (fun _ s₅=>∃ m,m < n/\I m s₅) (fun _ _=>False) s₄) (fun _ _=>False) s₃
      else ∃ m,m < n/\I m s₃) (fun _ _=>False) s₂) (fun _ _=>False) t₁) (fun _ _=>False) s₁) (fun _ _=>False) s)
  (n:Nat) (h:I n s):codeAny (model prog w) A (.compLoop (.ListComp elt [⟨target,iter,ifs,0⟩] scope pos) 0 it acc env) R s:=by
 refine codeAny_loop rfl I (fun n s hI=>?_) n h;show wpAny _ A ((compTurn (.ListComp elt [⟨target,iter,ifs,0⟩] scope pos) 0 it acc env).onRaise (fun x=>do noteFrame x env;theTreesLotGoes x)) _ _ s;refine wpAny_noted (wpAny_noRaise ?_);rw [compTurn_list];refine wpAny_bind (wpAny_standAt (wpAny_bind (thn (turn n s hI) fun r s₁ h₁=>?_)));cases r with
 | none=>exact wpAny_pure h₁
 | some v =>
  refine wpAny_bind (thn h₁ fun _ t₁ h₂=>wpAny_bind (thn h₂ fun _ s₂ h₃=>wpAny_bind (thn h₃ fun ok s₃ h₄=>?_)));cases ok with
  | false=>exact wpAny_pure ⟨rfl,h₄⟩
  | true=>exact wpAny_bind (wpAny_bind (thn h₄ fun x s₄ h₅=>wpAny_bind (thn h₅ fun _ s₅ h₆=>wpAny_pure (wpAny_pure ⟨rfl,h₆⟩))))

def aR8 {ixs:List (Option Nat)} {δ:DSt} {j:Nat} {w:W} (e:(cD ixs δ)[j]?=some (some w)):∃ i,ixs[j]?=some (some i)/\δ[i]?=some (some w):=by
 unfold cD at e;rw [List.getElem?_map] at e;cases h:ixs[j]? with
 | none=>rw [h] at e;cases e
 | some o =>
  rw [h] at e;cases o with
  | none=>cases e
  | some i =>
   refine ⟨i,rfl,?_⟩;have e':(δ[i]?).bind id=some w:=Option.some.inj e;cases q:δ[i]? with
   | none=>rw [q] at e';cases e'
   | some w=>rw [q] at e';exact congrArg some e'
def Pl (S:Sx) (κ:Kp) (M:Mp) (h:aA) (ws:List W) (u:Value) (s:Shared):Prop :=
 ∃ M',Le M M'/\Mem S κ M' h s/\∃ a us n,u=.ref a/\s.heap.get? a=some (bQ us n)/\aU κ M' a/\us.length<=sizeLine/\RepWs S M' ws us
def fR (g:XG) (tt:XR Bool) (te:XR W) (c:Cw) (all:List PyData):List PyData->DSt->aA->List W->Option (List W×aA)
 | [],_,h,ac=>if condB c all h=true then some (ac,h) else none
 | x::r,δ,h,ac=>if condB c all h=true then
   (g (.d x) δ h).bind fun p=>(tt p.1 p.2).bind fun q=>if q.1=true then
     (te p.1 q.2).bind fun y=>fR g tt te c all r p.1 y.2 (ac++[y.1])
    else fR g tt te c all r p.1 q.2 ac
  else none
theorem qW {g:XG} {tt:XR Bool} {te:XR W} {c:Cw} {all:List PyData}:∀ (r:List PyData) (δ:DSt) (h:aA) (ac:List W),fR g tt te c all r δ h ac=dD g tt te (condB c all) (r.map .d) δ h ac
 | [],δ,h,ac=>rfl
 | x::r,δ,h,ac=>by
  rw [List.map_cons,fR,dD];simp only [qW r]
theorem jF {g:XG} {tt:XR Bool} {te:XR W} {c:Cw} {all:List PyData}:∀ {r:List PyData} {δ:DSt} {h:aA} {ac xs:List PyData} {h':aA},aZ g tt te c all r δ h ac=some (xs,h')->fR g tt te c all r δ h (ac.map .d)=some (xs.map .d,h')
 | [],δ,h,ac,xs,h',e=>by
  unfold aZ at e;obtain ⟨co,e⟩:=aI e;cases e;unfold fR;rw [if_pos co]
 | x::r,δ,h,ac,xs,h',e=>by
  unfold aZ at e;obtain ⟨co,e⟩:=aI e;obtain ⟨p,e1,e⟩:=bind_some e;obtain ⟨q,e2,e⟩:=bind_some e;unfold fR;rw [if_pos co,e1];show (tt p.1 p.2).bind _=_;rw [e2];show (if q.1=true then _ else _)=_
  by_cases hq:q.1=true
  ·rw [if_pos hq] at e ⊢;obtain ⟨⟨y,hy⟩,e3,e⟩:=bind_some e;rw [e3];cases y with
   | c i=>cases e
   | d z =>
    have:=jF (show aZ g tt te c all r p.1 hy (ac++[z])=_ from e);rw [List.map_append] at this;exact this
  ·rw [if_neg hq] at e ⊢;exact jF e
theorem gN {g:XG} {tt:XR Bool} {te:XR W} {c:Cw} {all:List PyData}:∀ {r:List PyData} {δ:DSt} {h:aA} {ac xs:List Nat} {h':aA},dH g tt te c all r δ h ac=some (xs,h')->fR g tt te c all r δ h (ac.map .c)=some (xs.map .c,h')
 | [],δ,h,ac,xs,h',e=>by
  unfold dH at e;obtain ⟨co,e⟩:=aI e;cases e;unfold fR;rw [if_pos co]
 | x::r,δ,h,ac,xs,h',e=>by
  unfold dH at e;obtain ⟨co,e⟩:=aI e;obtain ⟨p,e1,e⟩:=bind_some e;obtain ⟨q,e2,e⟩:=bind_some e;unfold fR;rw [if_pos co,e1];show (tt p.1 p.2).bind _=_;rw [e2];show (if q.1=true then _ else _)=_
  by_cases hq:q.1=true
  ·rw [if_pos hq] at e ⊢;obtain ⟨⟨y,hy⟩,e3,e⟩:=bind_some e;rw [e3];cases y with
   | d i=>cases e
   | c z =>
    have:=gN (show dH g tt te c all r p.1 hy (ac++[z])=_ from e);rw [List.map_append] at this;exact this
  ·rw [if_neg hq] at e ⊢;exact gN e
noncomputable def blk (X:Cx) (N':List Str) (sc:Scope) (cl:List (Str×Addr)) (C:Addr):Cx:={ X with N:=N',env:=compEnvC sc cl C X.env,fn:=false }
def SIf (X:Cx) (ifs:List Expr) (f:XR Bool):Prop:=∀ ⦃κ M δ h s w h'⦄,Mem X.S κ M h s->Fra X κ M δ->f δ h=some (w,h')->Wp X.S X.A (forIn ifs true fun c r=>if r=true then do let ok <- isTrue c X.env (eval c X.env);pure (ForInStep.yield ok) else pure (ForInStep.yield r)) (Pt X.S κ M h' w) NE s
section
variable {X:Cx} {κ:Kp} {M:Mp} {δ:DSt} {h h':aA} {s:Shared} {N':List Str} {ixs:List (Option Nat)} {sc:Scope} {cl:List (Str×Addr)} {C:Addr} {tg iter elt:Expr} {ifs:List Expr} {pos:Pos} {g:XG} {tt:XR Bool} {te:XR W} {f:XR (List PyData×Cw)}
def zX {κ':Kp} {o:Obj} (F:Fra X κ M δ) (SC:CompSc X.N N' ixs X.env.scope sc) (hcl1:∀ x c,cl.lookup x=some c->X.env.cells.lookup x=some c) (hcl2:∀ y∈sc.names,y.2=.free->∃ c,cl.lookup y.1=some c)
  (k:∀ a,κ a≠none->κ' a=κ a) (hC:κ' C=some (false,o)) (ho:jA o fun _=>none) (hb:X.S.base.objs.size<=C):Fra (blk X N' sc cl C) κ' M (cD ixs δ):=by
 have kfree:∀ {x:Str} {k:NameKind},(relabel sc X.env).names.lookup x=some k->k=.cell\/k=.free->(x,NameKind.free)∈sc.names:=fun {x k} e hk=>by
  cases q:sc.names.lookup x with
  | none =>
   have z:=jE (env:=X.env) q;have z':(relabel sc X.env).names.lookup x=none:=z;rw [e] at z';cases z'
  | some k0 =>
   have z:=eG (env:=X.env) q;have z':(relabel sc X.env).names.lookup x=_:=z;rw [e] at z';have m:=PySem.mem_of_lookup q;have hz:=Option.some.inj z'
   by_cases hc:(k0==NameKind.free&&X.env.scope.kind==.function&&X.env.kindOf x==some .cell)=true
   ·have h0:k0=.free:=by
     simp only [Bool.and_eq_true,beq_iff_eq] at hc;exact hc.1.1
    rw [<- h0];exact m
   ·rw [if_neg hc] at hz;subst hz;rcases hk with hk | hk
    ·exact absurd hk (SC.nocell _ m)
    ·rw [<- hk];exact m
 refine ⟨⟨F.ok.mod,SC.kind,F.ok.glob,F.ok.blt,fun x y c e1 e2=>F.ok.inj x y c (hcl1 x c e1) (hcl1 y c e2),fun x hx=>?_,hb,SC.nd⟩,F.hk,?_,⟨o,_,hC,ho,fun j x w e1 e2 e3=>?_⟩,fun x c e=>?_,F.frs.kp fun a z=>k a (F.mine (.inr (.inr z)))⟩
 ·rcases hx with hx | hx
  ·exact hcl2 _ (kfree hx (.inl rfl)) rfl
  ·exact hcl2 _ (kfree hx (.inr rfl)) rfl
 ·show (cD ixs δ).length=N'.length;unfold cD;rw [List.length_map];exact SC.len
 ·obtain ⟨i,ei,ev⟩:=aR8 e2;obtain ⟨eN,ef⟩:=SC.at e1 ei;have hm:=PySem.mem_of_lookup ef;have hvis:X.env.scope.names.lookup x=some .cell\/X.env.scope.names.lookup x=some .free:=SC.free _ hm rfl;obtain ⟨_,m,_,_,hl⟩:=F.loc;obtain ⟨u,r,l⟩:=hl i x w eN ev (.inr hvis);refine ⟨u,r,?_⟩;rcases l with ⟨hk,_⟩ | ⟨_,c,oc,ec,eo,ed⟩
  ·have hk':X.env.scope.names.lookup x=some .local:=hk;rcases hvis with z | z
   ·rw [hk'] at z;cases z
   ·rw [hk'] at z;cases z
  ·obtain ⟨c',ec'⟩:=hcl2 _ hm rfl;have e5:=hcl1 _ _ ec';rw [ec] at e5;have e6:c=c':=Option.some.inj e5;subst e6;refine .inr ⟨?_,c,oc,ec',by rw [k c (by rw [eo];exact fun z=>nomatch z)];exact eo,ed⟩;have z:=eG (env:=X.env) ef;have z':(relabel sc X.env).names.lookup x=_:=z
   by_cases hc:(NameKind.free==NameKind.free&&X.env.scope.kind==.function&&X.env.kindOf x==some .cell)=true
   ·rw [if_pos hc] at z';exact .inl z'
   ·rw [if_neg hc] at z';exact .inr z'
 ·obtain ⟨oc,v,e1,e2⟩:=F.cell x c (hcl1 x c e);exact ⟨oc,v,by rw [k c (by rw [e1];exact fun z=>nomatch z)];exact e1,e2⟩
def zY {S:Sx} {A:Around} {E:Value->Shared->Prop} {a:Addr} {us:List Value} {n:Nat} {u:Value} {Q:Value->Shared->Prop} (R:Mem S κ M h s) (ea:κ a=some (true,bQ us n)) (hz:us.length < sizeLine)
  (q:∀ s' n',Mem S (κ.up a (true,bQ (us++[u]) n')) M h s'->(∀ b o,b≠a->s.heap.get? b=some o->s'.heap.get? b=some o)->Q .none s'):Wp S A (call (.builtin "list.append") [.ref a,u]) Q E s:=by
 have e:=(R.k a _ _ ea).1 rfl;refine call_meets F.slot_list_append ⟨_,e,rfl⟩ F.entry_list_append (F.args_list_append_2 _ _) (PySem.list_append a us.toArray n u (by rw [List.size_toArray];omega)) ⟨e,?_⟩;have q2:=PySem.IsL.update e (·.push u);have ep:us.toArray.push u=(us++[u]).toArray:=by simp
 rw [ep] at q2;have k:∀ b o,b≠a->s.heap.get? b=some o->(s.heap.update a (Obj.mapSeq (·.push u))).get? b=some o:=fun b o hb e=>(Heap.get?_update_other s.heap _ (Ne.symm hb)).trans e;exact q _ _ (R.own ea k q2 R.bare rfl) k
def mO (hd:X.S.hm=false->X.A.handled=none) (SC:CompSc X.N N' ixs X.env.scope sc) (hcl1:∀ x c,cl.lookup x=some c->X.env.cells.lookup x=some c) (hcl2:∀ y∈sc.names,y.2=.free->∃ c,cl.lookup y.1=some c)
  (hg:∀ cl C,SG (blk X N' sc cl C) tg g) (ht:∀ cl C,SIf (blk X N' sc cl C) ifs tt) (he:∀ cl C,SE (blk X N' sc cl C) elt te) {all:List W} {co:aA->Bool} {it:Addr} {fp:List Addr} {tn:Nat->Heap->Prop} {ws:List W} {R':Value->Addr->Result->Shared->Prop}
  (F:Fra X κ M δ) (R:Mem X.S κ M h s) (T:TurnW X.S tg all co M fp it tn) (t0:tn 0 s.heap) (f0:∀ b∈fp,aU κ M b) (hz:all.length<=sizeLine) (e:dD g tt te co all (cD ixs δ) h []=some (ws,h'))
  (hR:∀ {s':Shared} {m:Str->Option Value} {M':Mp} {us:List Value} {n:Nat},Le M M'->Mem X.S κ M' h' s'->s'.heap.get? s.heap.objs.size=some (bQ us n)->aU κ M' s.heap.objs.size->aU κ M' (s.heap.objs.size+1)->us.length<=sizeLine->RepWs X.S M' ws us->s'.heap.Ns (s.heap.objs.size+1) m->R' (.ref s.heap.objs.size) (s.heap.objs.size+1) (.ok .next) s') :
  Wp X.S X.A (newList []) (fun acc s₃=>Wp X.S X.A (newFunctionEnv sc X.env.globals cl [] X.env.qual none .none (some X.env)) (fun cenv s₄ =>
   codeAny (model X.S.P X.S.w) X.A (.compStart (.ListComp elt [⟨tg,iter,ifs,0⟩] sc pos) 0 (.ref it) acc { cenv with scope:=relabel sc X.env }) (R' acc cenv.locals) s₄) NE s₃) NE s:=by
 refine wpAny_newObj_type (wpAny_newFunctionEnv SC.nocell (by intro y hy;simp at hy) (fun h₁ hns₁ hsb₁=>?_) SC.kind);dsimp only at hns₁ hsb₁ ⊢;have eC:(s.heap.push { cls:=.type "list",dict:=none,data:=.seq ([]:List Value).toArray }).objs.size=s.heap.objs.size+1:=by rw [Heap.size_push]
 rw [eC] at hns₁ hsb₁ ⊢;obtain ⟨acc,ea⟩:∃ a,a=s.heap.objs.size:=⟨_,rfl⟩;rw [<- ea] at hns₁ hsb₁ hR ⊢;have nAC:acc≠acc+1:=Nat.ne_of_lt (Nat.lt_succ_self _);have old:∀ b o,s.heap.get? b=some o->h₁.get? b=some o:=fun b o e=>hsb₁.extBut b o (by rw [ea];exact Nat.ne_of_lt (Nat.lt_succ_of_lt (Heap.lt_size e))) (Heap.get?_push_of_some _ (Heap.get?_push_of_some _ e));have hacc:h₁.get? acc=some (bQ [] 0):=by
  refine hsb₁.extBut _ _ nAC ?_;rw [ea];exact Heap.get?_push_of_some _ (Heap.get?_push_size _ rfl)
 obtain ⟨oC,es,ep,hoC,hd1,hk1,hm1⟩:=id hns₁;have fA:aU κ M acc:=ea ▸ R.size;have fC:aU κ M (acc+1):=R.new (Heap.get?_none_of_le (by rw [ea];exact Nat.le_succ _));have R1:Mem X.S κ M h { s with heap:=h₁,toks:=s.toks+([]:List (Str×Value)).length }:=R.kept old;have R2:=(R1.more (b:=true) ⟨fA.1,fA.2.2⟩ hacc).more (b:=false) ⟨fC.1,fC.2.2⟩ hoC;have hfl:∀ b∈fp,b≠acc/\b≠acc+1:=fun b hb=>by
  obtain ⟨o,q⟩:=T.obj _ _ t0 b hb;have:=Heap.lt_size q;rw [<- ea] at this;exact ⟨Nat.ne_of_lt this,Nat.ne_of_lt (Nat.lt_succ_of_lt this)⟩
 have F2:Fra (blk X N' sc cl (acc+1)) ((κ.up acc (true,bQ [] 0)).up (acc+1) (false,oC)) M (cD ixs δ):=zX F SC hcl1 hcl2 (fun a ha=>by
  rw [cC fun z=>ha (by rw [z];exact fC.2.1),cC fun z=>ha (by rw [z];exact fA.2.1)]) eZ ⟨es,ep,hd1,hk1,hm1⟩ (by rw [ea];exact Nat.le_succ_of_le (F.size R))
 have f2:∀ b∈fp,aU ((κ.up acc (true,bQ [] 0)).up (acc+1) (false,oC)) M b:=fun b hb=>⟨(f0 b hb).1,by rw [cC (hfl b hb).2,cC (hfl b hb).1];exact (f0 b hb).2.1,(f0 b hb).2.2⟩;generalize hY:blk X N' sc cl (acc+1)=Y at F2;have hg':SG Y tg g:=by subst hY;exact hg _ _
 have ht':SIf Y ifs tt:=by subst hY;exact ht _ _
 have he':SE Y elt te:=by subst hY;exact he _ _
 have eS:Y.S=X.S:=by subst hY;rfl
 have eA:Y.A=X.A:=by subst hY;rfl
 have eL:Y.env.locals=acc+1:=by subst hY;rfl
 have eF:Y.fn=false:=by subst hY;rfl
 have loop:∀ s₃:Shared,s₃={ s with heap:=h₁,toks:=s.toks+([]:List (Str×Value)).length } ->
   codeAny (model X.S.P X.S.w) X.A (.compLoop (.ListComp elt [⟨tg,iter,ifs,0⟩] sc pos) 0 (.ref it) (.ref acc) Y.env) (R' (.ref acc) (acc+1)) s₃:=by
  rintro s₃ rfl;clear hY;obtain ⟨I,hI⟩:∃ I:Nat->Shared->Prop,I=fun n s'=>∃ i κ' M' δ' hh us m ac,n=all.length - i/\i<=all.length/\(κ' acc=some (true,bQ us m)/\∀ a,a≠acc->a≠acc+1->κ' a=κ a)/\Le M M'/\Mem X.S κ' M' hh s'/\Fra Y κ' M' δ'/\tn i s'.heap/\(∀ b∈fp,aU κ' M' b)/\ac.length<=i/\RepWs X.S M' ac us/\dD g tt te co (all.drop i) δ' hh ac=some (ws,h'):=⟨_,rfl⟩;refine zW I ?_ all.length (by rw [hI];exact ⟨0,_,M,_,h,[],0,[],rfl,Nat.zero_le _,⟨by rw [cC nAC];exact eZ,fun a h1 h2=>by rw [cC h2,cC h1]⟩,.refl,R2,F2,T.keep _ _ _ t0 (fun b _ o e=>old b o e),f2,Nat.le_refl _,.nil,e⟩);intro n s3 hn;rw [hI] at hn;obtain ⟨i,κ3,M3,δ3,h3,us,m,ac,rfl,hle,⟨ka,ko⟩,l3,R3,F3,t3,f3,hac,rac,e3⟩:=hn;have hlen:=rac.length;have back:∀ {κ7 M7 h7 s7},(κ7 acc=some (true,bQ us m)/\∀ a,a≠acc->a≠acc+1->κ7 a=κ a)->Mem X.S κ7 M7 h7 s7->Mem X.S κ M7 h7 s7:=fun k R7=>R7.less fun a x q=>by
   rw [k.2 a (fun z=>by rw [z,fA.2.1] at q;cases q) (fun z=>by rw [z,fC.2.1] at q;cases q)];exact q
  cases q:all[i]? with
  | none =>
   have hl:all.length<=i:=List.getElem?_eq_none_iff.mp q;rw [List.drop_of_length_le hl] at e3;obtain ⟨co3,e3⟩:=aI (show (if co h3=true then some (ac,h3) else none)=some (ws,h') from e3);cases e3;refine thn (T.done hd (F.hk.go l3) R3 l3 f3 t3 hl co3) fun r s4 ⟨hr,R4⟩=>?_;subst hr;obtain ⟨mC,hnC,_⟩:=F3.ns (h:=h') (s:=s4) (by rw [eS];exact R4);rw [eL] at hnC;have ho:=(R4.k acc _ _ ka).1 rfl;have za:=(R4.k acc _ _ ka).2.2;obtain ⟨oL,_,kL,_⟩:=F3.loc;rw [eL] at kL;have R5:=back ⟨ka,ko⟩ R4;have fr:aU κ M3 acc:=⟨za,fA.2.1,R4.kc ka⟩;exact hR l3 R5 ho fr ⟨(R4.k _ _ _ kL).2.2,fC.2.1,R4.kc kL⟩ (by omega) rac hnC
  | some x =>
   have hlt:i < all.length:=(List.getElem?_eq_some_iff.mp q).1;rw [qS q] at e3;unfold dD at e3;obtain ⟨co3,e3⟩:=aI e3;obtain ⟨⟨δ4,h4⟩,e4,e3⟩:=bind_some e3;obtain ⟨⟨tb,h5⟩,e5,e3⟩:=bind_some e3;refine thn (T.item hd (F.hk.go l3) R3 l3 f3 t3 q co3) fun r s4 ⟨u,hr,q4⟩=>?_;subst hr;refine thn q4 fun _ s5 ⟨M5,l5,R5,r5,t5,fr5⟩=>?_;have F5:=F3.go l5;rw [<- eS] at R5;have w6:=hg' (R5.pin fr5) (F5.pin fr5) (show RepW Y.S M5 x u by rw [eS];exact r5) e4;rw [eS,eA] at w6;refine thn w6 fun _ s6 ⟨κ6,M6,o6,l6,R6,F6⟩=>?_;rw [<- eS] at R6;have w7:=ht' R6 F6 e5;rw [eS,eA] at w7;refine thn w7 fun t' s7 ⟨et,M7,l7,R7⟩=>?_;subst et;have notC:∀ a,a≠acc+1->κ6 a=dQ κ3 fp s5.heap a:=fun a ha=>by
    by_cases z:κ6 a=dQ κ3 fp s5.heap a
    ·exact z
    ·rcases o6 a z with y | y
     ·rw [eL] at y;exact absurd y ha
     ·rw [eF] at y;exact absurd y.1 Bool.false_ne_true
   have k6:κ6 acc=some (true,bQ us m):=by
    rw [notC acc nAC];unfold dQ;rw [if_neg fun hm=>(hfl acc hm).1 rfl];exact ka
   have kun:∀ κ8:Kp,(∀ a,a≠acc->κ8 a=κ6 a)->∀ a,a≠acc->a≠acc+1->unK fp κ8 a=κ a:=fun κ8 hk a h1 h2=>by
    unfold unK;split
    ·rename_i hm;rw [<- ko a h1 h2];exact (f3 a hm).2.1.symm
    ·rename_i hm;rw [hk a h1,notC a h2];unfold dQ;rw [if_neg hm];exact ko a h1 h2
   cases t' with
   | false =>
    obtain ⟨u1,u2,u3,u4,u5⟩:=unpin F5 fr5 (T.obj _ _ t5) o6 R7;exact ⟨all.length - (i+1),by omega,by rw [hI];exact ⟨i+1,_,M7,δ4,h5,us,m,ac,rfl,hlt,⟨by unfold unK;rw [if_neg fun hm=>(hfl acc hm).1 rfl];exact k6,kun κ6 fun _ _=>rfl⟩,l3.trans (l5.trans (l6.trans l7)),u2,u5 _ (F6.go l7),T.keep _ _ _ t5 u4,u3,by omega,rac.go (l5.trans (l6.trans l7)),e3⟩⟩
   | true =>
    obtain ⟨⟨y,h8⟩,e8,e3⟩:=bind_some (show (te δ4 h5).bind (fun y=>dD g tt te co (all.drop (i+1)) δ4 y.2 (ac++[y.1]))=some (ws,h') from e3);rw [<- eS] at R7;have w8:=he' R7 (F6.go l7) e8;rw [eS,eA] at w8;refine thn w8 fun v s8 ⟨M8,l8,R8,r8⟩=>?_;refine zY R8 k6 (by omega) fun s9 m9 R9 k9=>?_;have o9:Own Y (dQ κ3 fp s5.heap) κ6:=o6;obtain ⟨_,u2,u3,u4,_⟩:=unpin (X:=Y) F5 fr5 (T.obj _ _ t5) o9 R8;have u4':∀ b∈fp,∀ o,s5.heap.get? b=some o->s9.heap.get? b=some o:=fun b hb o e=>k9 b o (hfl b hb).1 (u4 b hb o e);have Rn:Mem X.S (unK fp (κ6.up acc (true,bQ (us++[v]) m9))) M8 h8 s9:=R9.less fun a x q=>by
     unfold unK at q;split at q
     ·cases q
     ·exact q
    have fn:∀ b∈fp,aU (unK fp (κ6.up acc (true,bQ (us++[v]) m9))) M8 b:=fun b hb=>⟨(u3 b hb).1,by unfold unK;rw [if_pos hb],(u3 b hb).2.2⟩;have Fn:Fra Y (unK fp (κ6.up acc (true,bQ (us++[v]) m9))) M8 δ4:=(F6.go (l7.trans l8)).kp fun a ha=>by
     have z:=F5.mine ha;have n1:a∉fp:=fun hm=>z (fr5 a hm).2.1;have n2:a≠acc:=fun hz=>by
      rcases ha with y | ⟨x,y⟩ | ⟨l,env,z1,z2,z3⟩
      ·rw [eL] at y;exact nAC (hz.symm.trans y)
      ·obtain ⟨o,vv,q1,q2⟩:=F3.cell x a y;rw [hz,ka] at q1;cases q1;cases q2
      ·obtain ⟨l',y1,y2⟩:=F3.frs;rw [z1] at y1;cases y1;obtain ⟨_,L,o,y3,y4,_⟩:=y2 env z2;rw [z3] at y3;cases y3;rw [hz,ka] at y4;cases y4
     unfold unK;rw [if_neg n1,cC n2]
    have l:=l3.trans (l5.trans (l6.trans (l7.trans l8)));exact ⟨all.length - (i+1),by omega,by rw [hI];exact ⟨i+1,_,M8,δ4,h8,us++[v],m9,ac++[y],rfl,hlt,⟨by unfold unK;rw [if_neg fun hm=>(hfl acc hm).1 rfl];exact eZ,kun _ fun a h1=>cC h1⟩,l,Rn,Fn,T.keep _ _ _ t5 u4',fn,by rw [List.length_append,List.length_singleton];omega,Paired.snoc (rac.go (l5.trans (l6.trans (l7.trans l8)))) r8,e3⟩⟩
 have eEnv:Y.env={ (newEnv sc (acc+1) X.env.globals cl X.env.qual none .none (some X.env) builtinsNs) with scope:=relabel sc X.env }:=by subst hY;rfl
 rw [eEnv] at loop;exact codeAny_compStart_list (loop _ rfl) (T.self X.A 0 _ _ _ (T.keep _ _ _ t0 fun b _ o e=>old b o e) (loop _ rfl))
end
end DL

namespace DL
open PySem PySem.Spec PyProof.Rows L2 CI
section
variable {X:Cx} {st:Sta} {d:Nat} {v:Evs} {κ:Kp} {M:Mp} {δ:DSt} {h h' h2:aA} {s:Shared} {N':List Str} {ixs:List (Option Nat)} {sc:Scope} {a b e tg iter elt:Expr} {es:List Expr} {ifs:List Expr} {pos:Pos} {g:XG} {tt:XR Bool} {te:XR W} {f:XR (List PyData×Cw)} {x:Str} {i:Nat} {w:W}
def Mem.drop {S:Sx} {C:Addr} {h3:Heap} (R:Mem S κ M h s) (f:aU κ M C) (k:Heap.SameBut C s.heap h3):Mem S κ M h { s with heap:=h3 }:=R.keep (fun b o e nf=>(k.2 b fun z=>nf (by rw [z];exact f)).trans e) R.bare rfl
def aG5 {all:List PyData} {c:Cw} {h1:aA} {ws:List W} (hd:X.S.hm=false->X.A.handled=none) (SC:CompSc X.N N' ixs X.env.scope sc) (hi:SI X tg iter f) (hg:∀ cl C,SG (blk X N' sc cl C) tg g) (ht:∀ cl C,SIf (blk X N' sc cl C) ifs tt) (he:∀ cl C,SE (blk X N' sc cl C) elt te) (hs:∀ x,foldedSetIterable iter X.env x=pure x)
  (R:Mem X.S κ M h s) (F:Fra X κ M δ) (e1:f δ h=some ((all,c),h1)) (e2:fR g tt te c all all (cD ixs δ) h1 []=some (ws,h')):Wp X.S X.A (eval (.ListComp elt [⟨tg,iter,ifs,0⟩] sc pos) X.env) (Pl X.S κ M h' ws) NE s:=by
 obtain ⟨cl,ecl,hcl1,hcl2⟩:=iJ (sc:=sc) (env:=X.env) fun y hy hf=>F.ok.has y.1 (SC.free y hy hf);rw [eval_ListComp];refine wpAny_comprehension_free (use:=none) rfl hs ecl SC.kind SC.loc ?_;refine thn (hi R F e1) fun v s1 q1=>thn q1 fun itv s2 q2=>?_;obtain ⟨M2,it,fp,tn,l2,R2,rfl,T,t2,f2,hz⟩:=q2;refine mO (R':=fun acc C=>compPost (model X.S.P X.S.w) X.A NE none (Pl X.S κ M h' ws) acc C) hd SC hcl1 hcl2 hg ht he (F.go l2) R2 T.w t2 f2 (by rw [List.length_map];exact hz) (by rw [<- qW];exact e2) fun {s' m M' us n} l R ho fa fc z r hn=>⟨m,hn,fun h3 k3=>?_⟩;exact ⟨M',l2.trans l,R.drop fc k3,_,us,n,rfl,(k3.2 _ (Nat.ne_of_lt (Nat.lt_succ_self _))).trans ho,fa,z,r⟩
def aG6 {all:List PyData} {c:Cw} {h1:aA} {ws:List W} {py spos:Pos} (hd:X.S.hm=false->X.A.handled=none) (SC:CompSc X.N N' ixs X.env.scope sc) (hi:SI X tg iter f) (hg:∀ cl C,SG (blk X N' sc cl C) tg g) (ht:∀ cl C,SIf (blk X N' sc cl C) ifs tt) (he:∀ cl C,SE (blk X N' sc cl C) elt te) (hs:∀ x,foldedSetIterable iter X.env x=pure x)
  (R:Mem X.S κ M h s) (F:Fra X κ M δ) (e1:f δ h=some ((all,c),h1)) (e2:fR g tt te c all all (cD ixs δ) h1 []=some (ws,h')) (cv:∀ {κ:Kp} {M:Mp} {u:Value} {s:Shared},Pl X.S κ M h' ws u s->Pw X.S κ M h2 w u s)
  (hiN:X.N[i]?=some x) (hx:X.env.scope.names.lookup x=some .local) (hsw:swapsWith (.ListComp elt [⟨tg,iter,ifs,0⟩] sc pos) (some (.Name x py)) spos.line X.env=pure true):Wp X.S X.A (exec (.Assign [.Name x py] (.ListComp elt [⟨tg,iter,ifs,0⟩] sc pos) spos) X.env) (Ps X κ M h2 (.nx (δ.set i (some w)))) NE s:=by
 obtain ⟨cl,ecl,hcl1,hcl2⟩:=iJ (sc:=sc) (env:=X.env) fun y hy hf=>F.ok.has y.1 (SC.free y hy hf);rw [exec_Assign_Name_used _ _ _ _ hsw];refine wpAny_bind (wpAny_standAt (wpAny_bind ?_));show wpAny _ _ (do let _ <- comprehension (.ListComp elt [⟨tg,iter,ifs,0⟩] sc pos) sc X.env _ (newList []) false (eval iter X.env) (some (assign (.Name x py) X.env))) _ _ s;refine wpAny_bind (thn (wpAny_comprehension_free (use:=some (assign (.Name x py) X.env)) (Q:=fun _ s'=>Ps X κ M h2 (.nx (δ.set i (some w))) .next s') rfl hs ecl SC.kind SC.loc ?_) fun _ s' hq=>wpAny_pure (wpAny_pure hq));refine thn (hi R F e1) fun v s1 q1=>thn q1 fun itv s2 q2=>?_;obtain ⟨M2,it,fp,tn,l2,R2,rfl,T,t2,f2,hz⟩:=q2;refine mO (R':=fun acc C=>compPost (model X.S.P X.S.w) X.A NE (some (assign (.Name x py) X.env)) (fun _ s'=>Ps X κ M h2 (.nx (δ.set i (some w))) .next s') acc C) hd SC hcl1 hcl2 hg ht he (F.go l2) R2 T.w t2 f2 (by rw [List.length_map];exact hz) (by rw [<- qW];exact e2) fun {s' m M' us n} l R ho fa fc z r hn=>?_;show wpAny _ _ (assign (.Name x py) X.env (.ref s2.heap.objs.size)) _ _ s';generalize eC:s2.heap.objs.size+1=C at fc hn;have nA:s2.heap.objs.size≠C:=by rw [<- eC];exact Nat.ne_of_lt (Nat.lt_succ_self _)
 obtain ⟨oC,es,ep,hoC,hC⟩:=id hn;have RC:=R.more (b:=true) ⟨fc.1,fc.2.2⟩ hoC;have FC:Fra X (κ.up C (true,oC)) M' δ:=((F.go l2).go l).kp fun a ha=>cC fun z=>F.mine ha (by rw [z];exact fc.2.1);obtain ⟨M3,l3,R3,r3⟩:=cv ⟨M',.refl,RC,_,us,n,rfl,ho,⟨fa.1,by rw [cC nA];exact fa.2.1,fa.2.2⟩,z,r⟩;refine wpAny_assign_Name (aF6 (FC.go l3) R3 hiN (.inl hx) (.inr hx) r3 fun s4 κ4 o4 R4 F4 _=>?_);have kC:κ4 C=some (true,oC):=by
  by_cases q:κ4 C=κ.up C (true,oC) C
  ·rw [q];exact eZ
  ·have own:C=X.env.locals\/∃ x,X.env.cells.lookup x=some C:=by
    rcases o4 C q with y | y
    ·exact .inl y
    ·exact .inr y.2
   exact absurd fc.2.1 (F.mine (own.imp_right .inl))
 have h4:=(R4.k C _ _ kC).1 rfl;refine ⟨m,⟨oC,es,ep,h4,hC⟩,fun h5 k5=>⟨unK [C] κ4,M3,fun a ha=>?_,l2.trans (l.trans l3),?_,F4.kp fun a ha=>?_⟩⟩
 ·have na:a≠C:=fun z=>ha (by unfold unK;rw [if_pos (by simp [z]),z];exact fc.2.1.symm);refine o4 a fun q=>ha ?_;unfold unK;rw [if_neg (by simpa using na),q,cC na]
 ·have R5:Mem X.S (unK [C] κ4) M3 h2 s4:=R4.less fun a x q=>by
   unfold unK at q;split at q
   ·cases q
   ·exact q
  exact R5.drop ⟨(R4.k C _ _ kC).2.2,by unfold unK;rw [if_pos (by simp)],R4.kc kC⟩ k5
 ·unfold unK;rw [if_neg fun hm=>F.mine ha (by rw [List.mem_singleton.mp hm];exact fc.2.1)]
def bG4 {S:Sx} {xs:List PyData} {u:Value} (p:Pl S κ M h (xs.map .d) u s):Pf S κ M h xs u s:=let ⟨N,l,R,a,us,n,e1,e2,f,z,r⟩:=p;⟨N,l,R,a,us,n,e1,e2,f,z,show Paired (fun a b=>RepW S N (.d a) b) xs us from aZ9 r⟩
def bG5 {S:Sx} {is:List W} {u:Value} (p:Pl S κ M h is u s):Pw S κ M (h++[.r is]) (.c h.length) u s:=by
 obtain ⟨N,l,R,a,us,n,rfl,e,f,z,r⟩:=p;exact ⟨N.cel (a,a),l.trans .cel,R.add f f ⟨⟨_,e⟩,_,e⟩ ⟨us,n,e,z,r.go .cel⟩,(a,a),by show (N.m++[(a,a)])[h.length]?=_;rw [<- R.len];simp,rfl⟩
theorem sO:∀ {ws:List W} {xs:List PyData},cO ws=some xs->ws=xs.map .d
 | [],_,e=>by cases e;rfl
 | .d x::ws,_,e=>by
  unfold cO at e;obtain ⟨ys,q,rfl⟩:=map_some e;rw [sO q];rfl
def cL3 {S:Sx} {is:List W} {u:Value} (p:Pl S κ M h is u s):Pw S κ M (h++[plR is]) (.c h.length) u s:=by
 unfold plR;cases e:cO is with
 | none=>exact bG5 p
 | some xs =>
  rw [sO e] at p;exact uX (bG4 p)
def jG {N:List Str} {S:Scope} (h:pH N sc S=true):CompSc N (uU sc) (iY N sc) S sc:=by
 unfold pH at h;simp only [Bool.and_eq_true,decide_eq_true_eq,List.all_eq_true] at h;obtain ⟨h1,h2,h3,h4,h5,h6⟩:=h;refine ⟨h1,fun y hy e=>?_,fun y hy e=>?_,fun y hy e=>?_,h5,by unfold iY;rw [List.length_map],?_⟩
 ·have:=h2 y hy;rw [e] at this;simp at this
 ·have:=h3 y hy;rw [e] at this
  simpa using this
 ·have:=h4 y hy;rw [e] at this
  simpa using this
 ·rw [List.all_eq_true];exact h6
def bF (G:Good X st d) (cl:List (Str×Addr)) (C:Addr):Good (blk X (uU sc) sc cl C) (st.blk sc) d:=by
 refine ⟨G.bl,G.gc,G.tk,G.fn,G.fnW,G.cls,G.om,G.fo,rfl,?_,(fun z=>nomatch z),G.rm,G.hm,fun q z=>nomatch z⟩;show relabel sc X.env=bE4 sc st.S;unfold relabel bE4 Env.kindOf;rw [G.S]
theorem mQ (S:Snd v) (G:Good X st d):∀ ifs,SIf X ifs (zL v st ifs)
 | []=>fun _ _ _ _ _ _ _ R F e=>by cases e;exact wpAny_tests_nil ⟨rfl,_,.refl,R⟩
 | [c]=>fun _ _ _ _ _ _ _ R F e=>wpAny_tests_one (S.T G c R F e)
 | _::_::_=>fun _ _ _ _ _ _ _ R F e=>by cases e
def fG (h:dZ e=false) (env:Env) (y:Value):foldedSetIterable e env y=pure y:=by
 cases e<;>first | rfl | cases h
def ItS (v:Evs):Prop:=∀ {X:Cx} {st:Sta} {d:Nat},Good X st d->∀ tg iter,SI X tg iter (fP v st tg iter)
def bG6 (S:Snd v) (I:ItS v) (G:Good X st d):SF X (.ListComp elt [⟨tg,iter,ifs,0⟩] sc pos) (kU v st elt tg iter ifs sc):=by
 unfold kU;split
 ·rename_i hc;rw [Bool.and_eq_true] at hc;have hs:dZ iter=false:=by simpa using hc.2
  intro κ M δ h s w h' R F e;obtain ⟨⟨all,c⟩,h1,e1,e⟩:=aH e;exact thn (aG5 G.rm.hd (by rw [G.S,G.N];exact jG hc.1) (I G tg iter) (fun cl C=>S.G (bF G cl C) tg) (fun cl C=>mQ S (bF G cl C) ifs) (fun cl C=>S.E (bF G cl C) elt) (fG hs _) R F e1 (jF e)) fun _ _ p=>bG4 p
 ·exact fun _ _ _ _ _ _ _ _ _ e=>by cases e
def aR9 (S:Snd v) (G:Good X st d):SE X (.ListComp elt [⟨tg,iter,ifs,0⟩] sc pos) (qH v st elt tg iter ifs sc):=by
 unfold qH;split
 ·rename_i hc;rw [Bool.and_eq_true] at hc;have hs:dZ iter=false:=by simpa using hc.2
  intro κ M δ h s w h' R F e;obtain ⟨x,h1,e1,e⟩:=aH e;cases x with
  | d x=>cases e
  | c j =>
   obtain ⟨ws,ew,e⟩:=bind_some e;obtain ⟨⟨vs,h2⟩,e2,e⟩:=bind_some e;cases e;have SC:CompSc X.N (uU sc) (iY X.N sc) X.env.scope sc:=by rw [G.S,G.N];exact jG hc.1
   have e2:dD (v.G (st.blk sc) tg) (zL v (st.blk sc) ifs) (v.E (st.blk sc) elt) (coW j ws) ws (cD (iY X.N sc) δ) h1 []=some (vs,h2):=by rw [G.N];exact e2
   obtain ⟨cl,ecl,hcl1,hcl2⟩:=iJ (sc:=sc) (env:=X.env) fun y hy hf=>F.ok.has y.1 (SC.free y hy hf);refine thn ?_ fun _ _ p=>cL3 p;rw [eval_ListComp];refine wpAny_comprehension_free (use:=none) rfl (fG hs _) ecl SC.kind SC.loc ?_;refine thn (S.E G iter R F e1) fun u s1 ⟨M1,l1,R1,r1⟩=>?_;obtain ⟨p,ep,rfl⟩:=r1;obtain ⟨us,n,ho,hz,rr⟩:=vD R1 ep ew;refine wpAny_pyIter_list (bW ho).isList ?_;exact mO (R':=fun acc C=>compPost (model X.S.P X.S.w) X.A NE none (Pl X.S κ M h2 vs) acc C) G.rm.hd SC hcl1 hcl2 (fun cl C=>S.G (bF G cl C) tg) (fun cl C=>mQ S (bF G cl C) ifs) (fun cl C=>S.E (bF G cl C) elt) (F.go l1) (R1.kept (t:=s1.toks) fun b o e=>Heap.get?_push_of_some _ e) (aR5 ep) ⟨_,Heap.get?_push_size _ rfl,rfl,rfl⟩ R1.one (by rw [rr.length];exact hz) e2 fun {s' m M' us n} l R ho fa fc z r hn=>⟨m,hn,fun h3 k3 =>
    ⟨M',l1.trans l,R.drop fc k3,_,us,n,rfl,(k3.2 _ (Nat.ne_of_lt (Nat.lt_succ_self _))).trans ho,fa,z,r⟩⟩
 ·exact fun _ _ _ _ _ _ _ _ _ e=>by cases e
def bU4 {gs:List Comprehension} {tg iter:Expr} {ifs:List Expr} (e:gW st gs=some (tg,iter,ifs)):gs=[⟨tg,iter,ifs,0⟩]:=by
 unfold gW at e;obtain ⟨y,_,ey⟩:=Option.map_eq_some_iff.mp e;have:=y.2;rw [ey] at this;exact this
def kY {f:XR (List PyData)} (hf:SF X e f):SE X e (bT f):=by
 intro κ M δ h s w h' R F e;obtain ⟨⟨xs,h1⟩,e1,e⟩:=bind_some (show (f δ h).bind _=_ from e);cases e;exact thn (hf R F e1) fun _ _ p=>uX p
def mR {f:XR (List PyData)} (hf:SF X e f):SE X e (aN f):=by
 intro κ M δ h s w h' R F e;obtain ⟨⟨xs,h1⟩,e1,e⟩:=bind_some (show (f δ h).bind _=_ from e);cases e;exact thn (hf R F e1) fun _ _ p=>qK p
def hU:SF X e xno:=fun _ _ _ _ _ _ _ _ _ e=>by cases e
def Pf.go {S:Sx} {M M':Mp} {xs:List PyData} {u:Value} (l:Le M M') (p:Pf S κ M' h xs u s):Pf S κ M h xs u s:=let ⟨N,a,b⟩:=p;⟨N,l.trans a,b⟩
theorem bU5 (S:Snd v) (G:Good X st d):SF X (.BinOp a .Add b pos) (xb (v.E st a) fun u=>xb (v.E st b) fun w=>fun _ h=>(match ref h u,ref h w with
  | some (.list xs),some (.list ys)=>if xs.length+ys.length<=sizeLine then some (xs++ys,h) else none
  | _,_=>none)):=by
 intro κ M δ h s w h' R F e;obtain ⟨x,h1,e1,e⟩:=aH e;obtain ⟨y,h2,e2,e⟩:=aH e;refine wpAny_BinOp (thn (S.E G a R F e1) fun u s1 ⟨M1,l1,R1,r1⟩=>thn (S.E G b R1 (F.go l1) e2) fun v s2 ⟨M2,l2,R2,r2⟩=>?_);split at e
 ·rename_i ha hb;obtain ⟨hz,e⟩:=aI e;cases e;obtain ⟨a,us,n,rfl,ea,la,ra'⟩:=dE R2 (r1.go l2) ha;obtain ⟨b,vs,m,rfl,eb,lb,rb'⟩:=dE R2 r2 hb;have k1:=ra'.length;have k2:=rb'.length;refine PySem.P.add_list ea eb ?_ (by rw [List.size_toArray,List.size_toArray];omega);have ea:us.toArray++vs.toArray=(us++vs).toArray:=by simp
  rw [ea];exact Pf.go (l1.trans l2) (R2.lstP (t:=s2.toks) (zH ra' rb') (by rw [List.length_append];omega))
 ·cases e
def bU6 (S:Snd v) (G:Good X st d) {lo hi:Option Expr} {p2:Pos}:SE X (.Subscript a (.Slice lo hi none p2) pos) (xb (v.E st a) fun x=>xb (uT v st lo) fun l=>xb (uT v st hi) fun u=>fun _ h=>xSl x l u h):=by
 intro κ M δ h s w h' R F e;refine cL1 S G (Q:=Pw X.S κ M h') (r:=(w,h')) R F e fun l1 R1 r1 hs pl pu e=>?_;unfold xSl at e;split at e
 ·cases e;obtain ⟨t,q⟩:=sl_t (A:=X.A) (E:=NE) R1 r1 hs pl pu;exact ⟨"tuple",_,PyProof.Rows.slot_tuple_getitem.lookup,t,thn q fun _ _ p=>p.go l1⟩
 ·split at e
  ·rename_i ea;cases e;obtain ⟨t,q⟩:=sl_l (A:=X.A) (E:=NE) R1 r1 ea hs pl pu;exact ⟨"list",_,slot_list_getitem.lookup,t,thn q fun _ _ p=>(qK p).go l1⟩
  ·cases e
theorem bU7 (S:Snd v) (G:Good X st d) {p:Pos}:SF X (.BinOp (.List es p) .Mult b pos) (xb (bT (xPl (aR v st es))) fun u=>xb (v.E st b) fun w=>fun _ h=>(match u,w with
  | .c i,.d (.int k)=>(match h[i]? with
   | some (.l xs)=>if -(2^63)<=k/\k < 2^63/\xs.length*k.toNat<=sizeLine then some ((List.replicate k.toNat xs).flatten,h) else none
   | _=>none)
  | _,_=>none)):=by
 intro κ M δ h s w h' R F e;obtain ⟨x,h1,e1,e⟩:=aH e;obtain ⟨y,h2,e2,e⟩:=aH e;refine wpAny_BinOp (thn (kY (qR S G) R F e1) fun u s1 ⟨M1,l1,R1,r1⟩=>thn (S.E G b R1 (F.go l1) e2) fun v s2 ⟨M2,l2,R2,r2⟩=>?_);rcases x with _ | i
 ·cases e
 rcases y with (_ | _ | k | _ | _ | _ | _) | _<;>first | cases e;done | skip
 dsimp only at e;split at e
 ·rename_i xs ei;obtain ⟨⟨q1,q2,hz⟩,e⟩:=aI e;cases e;obtain ⟨t,rfl⟩:=wi.mp r2;obtain ⟨p,ep,rfl⟩:=r1.go l2;obtain ⟨us,n,ho,hl,rr⟩:=R2.cel i p _ ep ei;have hlen:=rr.length;have hsz:us.toArray.size*k.toNat<=sizeLine:=by rw [List.size_toArray,<- hlen];exact hz
  have hcap:¬ us.toArray.size*k.toNat > (2^63 - 1) / 8:=by
   have:(sizeLine:Nat)<=(2^63 - 1) / 8:=by decide
   omega
  have hfit:¬ (!Builtin.List.listFitsIndex k)=true:=by rw [fitsIndex_both q1 q2];exact Bool.false_ne_true
  have hlong:¬ Builtin.List.listTooLong (us.toArray.size*k.toNat)=true:=by
   unfold Builtin.List.listTooLong;rw [decide_eq_false (by omega)];exact Bool.false_ne_true
  have hnew:List.foldl (fun x1 x2=>x1++x2) #[] (List.replicate (if us.toArray.isEmpty=true then 0 else k.toNat) us.toArray)=(List.replicate k.toNat us).flatten.toArray:=by
   have f0:∀ m:Nat,List.foldl (fun x1 x2=>x1++x2) #[] (List.replicate m us.toArray)=(List.replicate m us).flatten.toArray:=fun m=>by
    have:=pI us m [];rw [List.nil_append] at this;exact this
   rw [f0];cases us with
   | nil=>simp
   | cons a r'=>rw [if_neg (by simp)]
  refine wpAny_binaryOp_repeat_ref (T:="list") (U:="int") (by decide) ⟨_,ho,rfl⟩ (fun s'=>typeIs_int s' k t) noFill_list_mul PySem.F.fills_int_mul PySem.F.slot_int_rmul repeat_list PySem.F.slot_int_index.lookup
   (call_meets PySem.F.slot_int_rmul (typeIs_int s2 k t) PySem.F.entry_int_rmul (PySem.F.args_int_rmul_2 _ _) (int___rmul___int_list k t p.1 us.toArray n)
    ⟨ho,rfl,⟨_,ho,rfl⟩,call_meets PySem.F.slot_list_mul ⟨_,ho,rfl⟩ PySem.F.entry_list_mul (PySem.F.args_list_mul_2 _ _) (AutoListH.list___mul___list_int_3 p.1 us.toArray n k t hfit hcap hlong) ⟨ho,?_⟩⟩)
  rw [hnew];exact Pf.go (l1.trans l2) (R2.lstP (t:=s2.toks) (n:=0) (bS0 rr k.toNat) (by rw [aR0,Nat.mul_comm,<- hlen];exact hz))
 ·cases e
end
end DL


namespace DL
open PySem PySem.Spec PyProof.Rows L2 CI
section
variable {S:Sx} {κ:Kp} {M:Mp} {h h':aA} {s:Shared} {A:Around} {E:Value->Shared->Prop} {d:Nat}
def Room.deeper {k:Nat} (r:Room S (k+1) A) (env:Env):Room S k (A.deeper env) :=
 ⟨r.hd,by have:=r.dp;show A.depth+1+3*k+5 < _;omega,by have:=r.un;show A.units+3+16*k+200 < _;omega⟩
def vH {C:Addr} {us:List Value} {kw:List (Str×Value)}:(A.under (.builtin "type.__call__" ⟨.ref C::us,kw⟩)).depth=A.depth+1:=by
 first | rfl | simp [Around.under,Code.weight,Code.isCreation,Code.isGuard,Code.isCaller,Code.frames,Code.isFrame,guardIds]
def vI {C:Addr} {us:List Value} {kw:List (Str×Value)}:(A.under (.builtin "type.__call__" ⟨.ref C::us,kw⟩)).units=A.units+1:=by
 first | rfl | simp [Around.under,Code.cUnits,Code.frames,Code.isFrame]
def Room.make {k:Nat} (r:Room S (k+1) A) (C:Addr) (us:List Value) (kw:List (Str×Value)):Room S k (A.under (.builtin "type.__call__" ⟨.ref C::us,kw⟩)) :=
 ⟨r.hd,by have:=r.dp;rw [vH];omega,by have:=r.un;rw [vI];omega⟩
def FrO.make (r:FrO κ A) (C:Addr) (us:List Value) (kw:List (Str×Value)):FrO κ (A.under (.builtin "type.__call__" ⟨.ref C::us,kw⟩)):=by
 have:(A.under (.builtin "type.__call__" ⟨.ref C::us,kw⟩)).frames=A.frames:=by
  first | rfl | simp [Around.under,Code.frames,Code.isFrame]
 unfold FrO;rw [this];exact r
def aG7 {f:Addr} {fd:FuncData} {ps:List Str} {m:XFW} {us:List Value} {ws:List W} {w:W} (F:FnS S d f fd ps m) (hr:Room S d A) (hk:Hk A M) (fo:FrO κ A) (hb:dM S.K fd ps) (md:Mod S) (hz:S.base.objs.size<=s.heap.objs.size) (R:Mem S κ M h s) (r:RepWs S M ws us) (e:m ws h=some (w,h')):Wp S A (call (.ref f) us) (Pw S κ M h' w) E s:=by
 have hl:us.length=ps.length:=by rw [<- r.length];exact F.len _ _ _ e
 refine wpAny_call (codeAny_mono (F.run (args:=⟨us,[]⟩) hr hk fo md hz R (hb s us (md.kin.keeps R.bk) hl) r e) fun r s' ⟨u,hq,p⟩=>?_);subst hq;exact p
def RelO.some_of {w:W} {o:Option Value} (r:RelO S M (some w) o):∃ u,o=some u/\RepW S M w u:=by
 cases o with
 | none=>exact (show False from r).elim
 | some u=>exact ⟨u,rfl,r⟩
def Mem.lset {i:Nat} {p:Addr×Addr} {us us':List Value} {n t:Nat} {c:Cell} {f:Array Value->Array Value} (R:Mem S κ M h s) (ei:M.m[i]?=some p) (e:s.heap.get? p.1=some (bQ us n)) (hf:f us.toArray=us'.toArray)
  (x:∀ (h2:Heap) (n':Nat),h2.get? p.1=some (bQ us' n')->CellOk S M h2 p c):Mem S κ M (h.set i c) { s with heap:=s.heap.update p.1 (Obj.mapSeq f),toks:=t }:=by
 have q:=PySem.IsL.update e f;rw [hf] at q;obtain ⟨_,_,o2,ho2⟩:=R.off p (List.mem_of_getElem? ei) p.2 (.inr rfl);refine R.wr ei (fun b o n1 _ q=>(Heap.get?_update_other _ _ (Ne.symm n1)).trans q) ⟨⟨_,q⟩,?_⟩ R.bare rfl (x _ _ q)
 by_cases hq:p.2=p.1
 ·exact ⟨_,by rw [hq];exact q⟩
 ·exact ⟨o2,(Heap.get?_update_other _ _ (Ne.symm hq)).trans ho2⟩
def bG7 {i:Nat} {p:Addr×Addr} {xs:List PyData} {x:PyData} {u:Value} (R:Mem S κ M h s) (ep:M.m[i]?=some p) (ei:h[i]?=some (.l xs)) (hz:xs.length < sizeLine) (rx:Rep S M.Z x u):Wp S A (call (.builtin "list.append") [.ref p.1,u]) (Pw S κ M (h.set i (.l (xs++[x]))) (.d .none)) E s:=by
 obtain ⟨us,n,e,hl,r⟩:=R.cel i p _ ep ei;have hlen:=r.length;refine call_meets F.slot_list_append ⟨_,e,rfl⟩ F.entry_list_append (F.args_list_append_2 _ _) (PySem.list_append p.1 us.toArray n u (by rw [List.size_toArray];omega)) ⟨e,?_⟩;exact (R.lset (t:=s.toks) (us':=us++[u]) (c:=.l (xs++[x])) ep e (by simp) fun h2 n' e'=>⟨_,n',e',by rw [List.length_append,List.length_singleton];omega,Paired.snoc r rx⟩).pn
end
section
variable {X:Cx} {st:Sta} {d:Nat} {v:Evs} {κ:Kp} {M:Mp} {δ:DSt} {h h':aA} {s:Shared} {a o:Expr} {es:List Expr} {pos p apos:Pos} {x m:Str} {w:W}
def Fra.kin (F:Fra X κ M δ):X.S.K.In X.S.base:=F.ok.mod.kin
def bG8 {m:XFW} {fa:XR (List W)} (G:Good X st d) (ht:cR st x=true) (hm:FnG X.S d x m) (hA:SA X (a::es) fa) (hstar:∀ {δ h r},fa δ h=some r->(a::es).all aK=true):SE X (.Call (.Name x p) (a::es) [] pos) (xb fa fun ws=>fun _ h=>m ws h):=by
 intro κ M δ h s w h' R F e;obtain ⟨hn,hg⟩:=qQ G ht;obtain ⟨ws,h1,e1,e⟩:=aH e;have hst:=hstar e1;rw [List.all_cons,Bool.and_eq_true] at hst;rcases hm with z | ⟨f,fd,ps,mg,kp,hb,FF⟩
 ·rw [z] at e;cases e
 refine wpAny_Call_Name_kw (fF F R hg mg hn ?_);refine PySem.W.callWith_K (h₀:=X.S.base) F.kin kp (thn (hA pos R F e1) fun us s1 ⟨M1,l1,R1,r1⟩=>⟨F.kin.keeps R1.bk,?_⟩) (bE a hst.1) (cK pos es hst.2);exact thn (aG7 FF G.rm (F.hk.go l1) F.frs hb F.ok.mod ((F.go l1).size R1) R1 r1 e) fun _ _ q=>q.go l1
def bB1 (S:Snd v) (G:Good X st d) {m:XFW} (ht:cR st x=true) (hm:FnG X.S d x m):SE X (.Call (.Name x p) (a::es) [] pos) (xb (aR v st (a::es)) fun ws=>fun _ h=>m ws h):=bG8 G ht hm (bR S G _) dU
def bG9 (S:Snd v) (G:Good X st d):SE X (.Call (.Name x p) (a::es) [] pos) (uW v st x (a::es)):=by
 intro κ M δ h s w h' R F e;unfold uW at e;dsimp only at e;obtain ⟨y,h1,e1,e⟩:=aH e;rcases y with z | j
 ·cases z with
  | dict kvs =>
   dsimp only at e;cases hg:lW kvs with
   | none=>rw [hg] at e;cases e
   | some g =>
    rw [hg] at e;dsimp only at e;cases hm:st.fn g with
    | none=>rw [hm] at e;cases e
    | some m =>
     rw [hm] at e;obtain ⟨ws,h2,e2,e⟩:=aH e;have hst:=dU e2;rw [List.all_cons,Bool.and_eq_true] at hst;refine wpAny_Call_Name_kw (thn (aF8 G R F e1) fun u s1 ⟨M1,l1,R1,r1⟩=>?_);obtain ⟨⟨af,rfl⟩,mg'⟩:=(bD5 hg).mp (show Rep X.S M1.Z (.dict kvs) u from r1);rcases G.fn _ _ hm with z | ⟨f,fd,ps,mg,kp,hb,FF⟩
     ·exact absurd ((z ws h2).symm.trans e) (by simp)
     rw [mg'] at mg;cases mg;refine PySem.W.callWith_K (h₀:=X.S.base) F.kin kp (thn (bR S G _ pos R1 (F.go l1) e2) fun us s2 ⟨M2,l2,R2,r2⟩=>⟨F.kin.keeps R2.bk,?_⟩) (bE a hst.1) (cK pos es hst.2);exact thn (aG7 FF G.rm (F.hk.go (l1.trans l2)) F.frs hb F.ok.mod ((F.go (l1.trans l2)).size R2) R2 r2 e) fun _ _ q=>q.go (l1.trans l2)
  | _=>cases e
 ·cases e
theorem sQ (env:Env) (cpos:Pos):∀ (es:List Expr),es.all aK=true->(backTo cpos (starEach es env)).all (fun x=>!x.1)=true
 | [],_=>rfl
 | e::es,h=>by
  rw [List.all_cons,Bool.and_eq_true] at h;have t:starEach (e::es) env=(false,eval e env)::starEach es env:=by
   have h1:=h.1;cases e<;>first | rfl | cases h1
  rw [t];exact sQ env cpos es h.2
def aG8 (hs:(a::es).all aK=true) (hl:(a::es).length < 29) (env:Env) (cpos:Pos) :
  ((backTo cpos (starEach (a::es) env)).all (fun x=>!x.1)&&(backToKw cpos (keywordEach [] env)).all (fun x=>x.1.isSome)
   && decide ((a::es).length+([]:List Keyword).length+(if ([]:List Keyword).isEmpty then 0 else 1) < 30))=true:=by
 rw [sQ _ _ _ hs];have:(a::es).length+0+0 < 30:=by omega
 show (true&&true&&decide _)=true;simp only [Bool.true_and,decide_eq_true_eq];exact this
def lN (ho:iH o=true) (m:Str) (env:Env):attributeBase o m env (eval o env)=eval o env:=by
 cases o<;>first | rfl | cases ho
def kA (S:Snd v) (G:Good X st d) {f:Value} {ws:List W} {h1:aA} {Q:Value->Shared->Prop} (hx:(cR st x&&(slot st x).isNone&&st.bl.contains x)=true) (hv:bootBuiltins x=some f) (hf:(∃ i,f=.builtin i)\/∃ i,f=.type i) (R:Mem X.S κ M h s) (F:Fra X κ M δ) (e:aR v st (a::es) δ h=some (ws,h1))
  (q:∀ {M1 us s1},Le M M1->Mem X.S κ M1 h1 s1->RepWs X.S M1 ws us->Wp X.S X.A (call f us) Q NE s1):Wp X.S X.A (eval (.Call (.Name x p) (a::es) [] pos) X.env) Q NE s:=by
 obtain ⟨h1,h2,h3⟩:=dI G hx;have hst:=dU e;rw [List.all_cons,Bool.and_eq_true] at hst;refine wpAny_Call_Name_kw (cU F R h2 h3 hv h1 ?_);rcases hf with ⟨i,rfl⟩ | ⟨i,rfl⟩
 ·exact PyProof.Rows.callWith_builtin1 (thn (bR S G _ pos R F e) fun us s1 ⟨M1,l1,R1,r1⟩=>q l1 R1 r1) (bE a hst.1) (cK pos es hst.2)
 ·exact PyProof.Rows.callWith_type1 (thn (bR S G _ pos R F e) fun us s1 ⟨M1,l1,R1,r1⟩=>q l1 R1 r1) (bE a hst.1) (cK pos es hst.2)
def qX (F:Fra X κ M δ) (R:Mem X.S κ M h s):(s.heap.objs.size==sysModules)=false:=by
 have h:mainGlobals < s.heap.objs.size:=(F.ok.mod.glob.keeps R.bk).lt;have:sysModules < s.heap.objs.size:=Nat.lt_trans (by decide) h;exact beq_eq_false_iff_ne.mpr (Nat.ne_of_gt this)
def cL4 (S:Snd v) (G:Good X st d) {f:Value} {g:List W->aA->Option (W×aA)} (hx:(cR st x&&(slot st x).isNone&&st.bl.contains x)=true) (hv:bootBuiltins x=some f) (hf:(∃ i,f=.builtin i)\/∃ i,f=.type i) (hg:BfS X.S f g):SE X (.Call (.Name x p) (a::es) [] pos) (xb (aR v st (a::es)) fun ws=>fun _ h=>g ws h):=by
 intro κ M δ h s w h' R F e;obtain ⟨ws,h1,e1,e⟩:=aH e;exact kA S G hx hv hf R F e1 fun l1 R1 r1=>thn (hg G.rm (F.hk.go l1) F.kin (qX (F.go l1) R1) R1 r1 e) fun _ _ q=>q.go l1
def bU8 (S:Snd v) (G:Good X st d) (hx:(cR st "list"&&(slot st "list").isNone&&st.bl.contains "list")=true):SF X (.Call (.Name "list" p) (a::es) [] pos) (xb (aR v st (a::es)) fun ws=>fun _ h=>mB ws h):=by
 intro κ M δ h s w h' R F e;obtain ⟨ws,h1,e1,e⟩:=aH e;refine kA (f:=.type "list") S G hx (by decide +kernel) (.inr ⟨_,rfl⟩) R F e1 fun {M1 us s1} l1 R1 r1=>?_;rcases ws with _ | ⟨x,_ | ⟨_,_⟩⟩
 ·cases e
 ·obtain ⟨u,rfl,ru⟩:=w1 r1;unfold mB at e;dsimp only at e;split at e
  ·rename_i ex;cases e;exact thn (aF3 R1 ru (.inl ex)) fun _ _ q=>q.go l1
  ·rename_i ex;cases e;exact thn (aF3 R1 ru (.inr ex)) fun _ _ q=>q.go l1
  ·cases e
 ·cases e
def aS0 {T:Str} {Ts:String} (h:aQ1 T=some Ts):bootBuiltins T=some (.type Ts)/\mI Ts:=by
 unfold aQ1 at h;split at h
 ·rename_i e;cases h;subst e;exact ⟨by decide +kernel,aR2⟩
 split at h
 ·rename_i e;cases h;subst e;exact ⟨by decide +kernel,aF4⟩
 split at h
 ·rename_i e;cases h;subst e;exact ⟨by decide +kernel,aR3⟩
 split at h
 ·rename_i e;cases h;subst e;exact ⟨by decide +kernel,zU⟩
 split at h
 ·rename_i e;cases h;subst e;exact ⟨by decide +kernel,aF5⟩
 ·cases h
def bU9 (S:Snd v) (G:Good X st d) {T:Str} {Ts:String} {q:Pos} (hx:(cR st "isinstance"&&(slot st "isinstance").isNone&&st.bl.contains "isinstance")=true) (hs:aK a=true) (hT:(cR st T&&(slot st T).isNone&&st.bl.contains T)=true) (ht:aQ1 T=some Ts) :
  SE X (.Call (.Name "isinstance" p) [a,.Name T q] [] pos) (xb (v.E st a) fun w=>fun _ h=>(ref h w).bind fun d=>if noD d=true then some (.d (.bool (isi d Ts)),h) else none):=by
 intro κ M δ h s w h' R F e;obtain ⟨x,h1,e1,e⟩:=aH e;obtain ⟨z,ez,e⟩:=bind_some e;obtain ⟨hnd,e⟩:=aI e;cases e;obtain ⟨n1,n2,n3⟩:=dI G hx;obtain ⟨m1,m2,m3⟩:=dI G hT;obtain ⟨hb,hk⟩:=aS0 ht;refine wpAny_Call_Name_kw (cU (u:=.builtin "isinstance") F R n2 n3 (by decide +kernel) n1 ?_);refine PyProof.Rows.callWith_builtin1 ?_ (bE a hs) (cK pos [.Name T q] rfl);rw [bE a hs];show Wp _ _ (spliced ((false,eval a X.env)::backTo pos (starEach [.Name T q] X.env))) _ _ s;refine Calls.spliced_cons (thn (S.E G a R F e1) fun u s1 ⟨M1,l1,R1,r1⟩=>?_);rw [bE (X:=X) (es:=[]) (.Name T q) rfl];show Wp _ _ (spliced ((false,eval (.Name T q) X.env)::[])) _ _ s1;refine Calls.spliced_cons (cU (F.go l1) R1 m2 m3 hb m1 (Calls.spliced_nil ?_));exact thn (bF5 F.kin hk R1 r1 ez hnd) fun _ _ q=>q.go l1
def vJ (S:Snd v) (G:Good X st d) {id:String} {x:W} {h1 h2:aA} {ws:List W} {Q:Value->Shared->Prop} (slot:Slot "list" m id) (hty:typeOf (.builtin id)=pure (.type "method_descriptor")) (ho:iH o=true) (hl:(apos.endLine==pos.line)=true) (hn:(a::es).length < 29)
  (R:Mem X.S κ M h s) (F:Fra X κ M δ) (e1:v.E st o δ h=some (x,h1)) (et:(∃ xs,DL.ref h1 x=some (.list xs))\/∃ i xs,x=.c i/\h1[i]?=some (.r xs)) (e2:aR v st (a::es) δ h1=some (ws,h2))
  (q:∀ {M2 u us s2},Le M M2->Mem X.S κ M2 h2 s2->RepW X.S M2 x u->RepWs X.S M2 ws us->Wp X.S X.A (call (.builtin id) (u::us)) Q NE s2):Wp X.S X.A (eval (.Call (.Attribute o m apos) (a::es) [] pos) X.env) Q NE s:=by
 have hst:=dU e2;have hst':=hst;rw [List.all_cons,Bool.and_eq_true] at hst';refine wpAny_Call_method_late (lN ho _ _) (aG8 hst hn _ _) hl rfl (thn (S.E G o R F e1) fun u s1 ⟨M1,l1,R1,r1⟩=>?_);have ty:∃ b us n,u=.ref b/\s1.heap.get? b=some (bQ us n):=by
  obtain ⟨xs,ex⟩ | ⟨i,xs,rfl,ei⟩:=et
  ·obtain ⟨b,us,n,rfl,ho,_⟩:=dE R1 r1 ex;exact ⟨b,us,n,rfl,ho⟩
  ·obtain ⟨p,ep,rfl⟩:=r1;obtain ⟨us,n,ho,_⟩:=R1.cel i p _ ep ei;exact ⟨_,us,n,rfl,ho⟩
 obtain ⟨b,us,n,rfl,hob⟩:=ty;refine ⟨"list",id,PySem.F.plainAttrs_list,slot,hty,(bW hob).isList.typeIs,fun c ec=>by cases ec;exact ⟨_,hob,rfl⟩,?_⟩;have hA:=bR S G _ pos R1 (F.go l1) e2;rw [bE a hst'.1] at hA ⊢;refine Calls.callWith_builtin (by show (false||(backTo pos (starEach es X.env)).any (·.1))=false;rw [cK pos es hst'.2]<;>rfl) (Calls.evalArgs_plain ?_);exact thn hA fun us s2 ⟨M2,l2,R2,r2⟩=>q (l1.trans l2) R2 (r1.go l2) r2
end
end DL

namespace DL
open PySem PySem.Spec PyProof.Rows L2 CI
section
variable {S:Sx} {κ:Kp} {M M0:Mp} {h:aA} {s:Shared} {A:Around} {E:Value->Shared->Prop} {elts:List Expr} {n:Nat} {pos:Pos}
def SqZ (M:Mp) (b:Bool) (a:Addr) (us:List Value):Prop:=∃ n,M.Z a=some { cls:=.type (if b=true then "tuple" else "list"),data:=.seq us.toArray n }
def SqZ.at {b:Bool} {a:Addr} {us:List Value} (x:SqZ M0 b a us) (l:Le M0 M) (R:Mem S κ M h s):SqAt b s.heap a us.toArray:=by
 obtain ⟨n,e⟩:=x;have e:=R.z _ _ (l.z _ _ e);cases b
 ·exact (bW e).isList
 ·exact fW e
def SqZ.ne {b:Bool} {a c:Addr} {us:List Value} (x:SqZ M0 b a us) (l:Le M0 M) (f:aU κ M c):a≠c:=fun z=>by
 obtain ⟨n,e⟩:=x;have e:=l.z _ _ e;rw [z,f.1] at e;cases e
def aG9 {w:W} {u:Value} {xs:List PyData} (e:lZ w=some xs) (r:RepW S M w u):∃ b a us,u=.ref a/\SqZ M b a us/\us.length<=sizeLine/\Reps' S M xs us:=by
 unfold lZ at e;split at e
 ·cases e;obtain ⟨a,o,us,rfl,z,⟨⟨n,rfl⟩,hz⟩,rr⟩:=rep_l.mp (show Rep S M.Z _ _ from r);exact ⟨false,a,us,rfl,⟨n,z⟩,hz,rr⟩
 ·cases e;obtain ⟨a,o,us,rfl,z,⟨⟨n,rfl⟩,hz⟩,rr⟩:=rep_t.mp (show Rep S M.Z _ _ from r);exact ⟨true,a,us,rfl,⟨n,z⟩,hz,rr⟩
 ·cases e
def Mem.pair {h2:Heap} {t:Nat} {fp:List Addr} {x y:PyData} {u v:Value} (R:Mem S κ M h s) (hf:∀ b∈fp,aU κ M b) (hs:∀ b∈fp,∃ o,s.heap.get? b=some o) (k:∀ b o,b∉fp->s.heap.get? b=some o->h2.get? b=some o) (e:h2.get? s.heap.objs.size=some { cls:=.type "tuple",data:=.seq #[u,v] }) (rx:Rep S M.Z x u) (ry:Rep S M.Z y v) :
  ∃ M',Le M M'/\Mem S κ M' h { s with heap:=h2,toks:=t }/\Rep S M'.Z (.tuple [x,y]) (.ref s.heap.objs.size)/\∀ b∈fp,aU κ M' b:=by
 have R1:Mem S κ M h { s with heap:=h2,toks:=t }:=R.turn hf k;refine ⟨_,.add R.size.1,R1.frz R.size e,rep_t.mpr ⟨_,_,[u,v],rfl,iT,⟨⟨0,rfl⟩,by simp [sizeLine_eq]⟩,.cons (Rep.go (Le.add R.size.1).z rx) (.cons (Rep.go (Le.add R.size.1).z ry) .nil)⟩,fun b hb=>⟨?_,(hf b hb).2⟩⟩;obtain ⟨o,q⟩:=hs b hb;show (if b=s.heap.objs.size then _ else M.Z b)=none;rw [if_neg (Nat.ne_of_lt (Heap.lt_size q))];exact (hf b hb).1
def ZSt (b c:Bool) (z TI TO i1 i2 l1 l2:Addr) (i:Nat) (h:Heap):Prop :=
 IsZip h z TI TO .none/\IsPair h TI (.ref i1) (.ref i2)/\(∃ u v,IsPair h TO u v)/\ItAt b h i1 l1 i/\ItAt c h i2 l2 i
def ZSt.obj {b c:Bool} {z TI TO i1 i2 l1 l2:Addr} {i:Nat} {h:Heap} (st:ZSt b c z TI TO i1 i2 l1 l2 i h):∀ a∈[z,TI,TO,i1,i2],∃ o,h.get? a=some o:=fun a ha=>by
 obtain ⟨s1,s2,⟨u,v,s3⟩,s4,s5⟩:=st;simp only [List.mem_cons,List.not_mem_nil,or_false] at ha;rcases ha with rfl | rfl | rfl | rfl | rfl
 ·exact ⟨_,s1⟩
 ·exact ⟨_,s2⟩
 ·exact ⟨_,s3⟩
 ·exact s4.ob
 ·exact s5.ob
def bH0 {xs ys:List PyData} {i:Nat} {x:PyData} (e:(jW xs ys)[i]?=some x):∃ a b,xs[i]?=some a/\ys[i]?=some b/\x=.tuple [a,b]:=by
 unfold jW at e;rw [List.getElem?_zipWith] at e;cases q1:xs[i]? with
 | none=>rw [q1] at e;cases e
 | some a =>
  cases q2:ys[i]? with
  | none=>rw [q1,q2] at e;cases e
  | some b=>rw [q1,q2] at e;cases e;exact ⟨a,b,rfl,rfl,rfl⟩
def aH0 {b c:Bool} {z TI TO i1 i2 l1 l2:Addr} {xs ys:List PyData} {us vs:List Value} (D:ZApart z TI TO i1 i2) (q1:SqZ M0 b l1 us) (q2:SqZ M0 c l2 vs) (r1:Reps' S M0 xs us) (r2:Reps' S M0 ys vs):Turn S (.Tuple elts n pos) (jW xs ys) none M0 [z,TI,TO,i1,i2] z (ZSt b c z TI TO i1 i2 l1 l2) where
 obj:=fun i h st=>st.obj
 keep:=fun i h h' st k=>by
  obtain ⟨s1,s2,⟨u,v,s3⟩,s4,s5⟩:=st;exact ⟨k z (by simp) _ s1,k TI (by simp) _ s2,⟨u,v,k TO (by simp) _ s3⟩,s4.keep fun o e=>k i1 (by simp) o e,s5.keep fun o e=>k i2 (by simp) o e⟩
 item:=by
  intro A κ M h s E i x hd hk R l hf st hx co;obtain ⟨x1,x2,h1,h2,rfl⟩:=bH0 hx;obtain ⟨u1,hu1,ru1⟩:=lV (r1.go l) h1;obtain ⟨u2,hu2,ru2⟩:=lV (r2.go l) h2;have ob:=st.obj;obtain ⟨s1,s2,⟨u,v,s3⟩,s4,s5⟩:=st;have hT:s.TypeIs (.ref z) "zip":=⟨_,s1,rfl⟩;have fz:=hf z (by simp);have fTO:=hf TO (by simp);have fi1:=hf i1 (by simp);refine wpAny_bind (wpAny_attempt (wpAny_callSpecial?_slot hT F.slot_zip_next (wpAny_call_entry F.slot_zip_next hT F.entry_zip_next
   (zK D s1 s2 s3 s4 s5 (q1.at l R) (q2.at l R) (q1.ne l fz) (q2.ne l fz) (q2.ne l fTO) (q2.ne l fi1) (x:=u1) (y:=u2) (by simpa using hu1) (by simpa using hu2)
    fun h' a1 a2 a3 a4 a5 a6 a7=>wpAny_pure ?_) (F.args_zip_next_1 _))))
  refine ⟨_,rfl,wpAny_letOwnedTupleGo_zip (s:={ s with heap:=h' }) a1 fun h'' b1 b2=>?_⟩;have zs:s.heap.objs.size≠z:=Nat.ne_of_gt (Heap.lt_size s1);obtain ⟨M',l',R',r',f'⟩:=R.pair (h2:=h'') (t:=s.toks) hf ob (fun a o ha e=>by
   simp only [List.mem_cons,List.not_mem_nil,or_false,not_or] at ha;exact (b2.2 a ha.1).trans (a7 a o ha.1 ha.2.2.1 ha.2.2.2.1 ha.2.2.2.2 e)) ((b2.2 _ zs).trans a5) ru1 ru2
  exact ⟨M',l',R',r',⟨b1,(b2.2 _ D.TIz).trans (a7 _ _ D.TIz D.TITO D.TIi1 D.TIi2 s2),⟨u1,u2,(b2.2 _ D.TOz).trans a2⟩,a3.keep fun o e=>(b2.2 _ D.i1z).trans e,a4.keep fun o e=>(b2.2 _ D.i2z).trans e⟩,f'⟩
 done:=by
  intro A κ M h s E i hd hk R l hf st hl co;obtain ⟨s1,s2,⟨u,v,s3⟩,s4,s5⟩:=st;have k1:=r1.length;have k2:=r2.length;unfold jW at hl;rw [List.length_zipWith] at hl;have hT:s.TypeIs (.ref z) "zip":=⟨_,s1,rfl⟩;have fz:=hf z (by simp);have fTO:=hf TO (by simp);have fi1:=hf i1 (by simp);refine wpAny_bind (wpAny_attempt (wpAny_callSpecial?_slot hT F.slot_zip_next (wpAny_call_entry F.slot_zip_next hT F.entry_zip_next
   (aE0 (A:=A.in1) (hk.at R) D s1 s2 s3 s4 s5 (q1.at l R) (q2.at l R) (q1.ne l fz) (q2.ne l fz) (q2.ne l fTO) (q2.ne l fi1) (by simp;omega)
    fun h' e kk ⟨o,ho,hc⟩=>wpAny_bind (wpAny_isInstance ⟨o,ho,hc⟩ isSubtype_stop (wpAny_pure ⟨rfl,?_⟩))) (F.args_zip_next_1 _))))
  exact R.turn (t:=s.toks) hf fun a o ha e=>by
   simp only [List.mem_cons,List.not_mem_nil,or_false,not_or] at ha;exact kk a o ha.1 ha.2.2.1 ha.2.2.2.1 ha.2.2.2.2 e
 self:=fun _ _ _ _ _ st h=>wpAny_pyIter_zip st.1 h
theorem pK:∀ {xs:List PyData} {k i:Nat} {z:PyData},(hX k xs)[i]?=some z->∃ x,xs[i]?=some x/\z=.tuple [.int (k+i:Nat),x]
 | [],_,_,_,e=>by simp [hX] at e
 | x::xs,k,0,z,e=>by simp [hX] at e;exact ⟨x,rfl,by rw [<- e];simp⟩
 | x::xs,k,i+1,z,e=>by
  obtain ⟨y,h1,h2⟩:=pK (xs:=xs) (k:=k+1) (i:=i) (by simpa [hX] using e);exact ⟨y,by simpa using h1,by rw [h2,show k+1+i=k+(i+1) by omega]⟩
theorem gO:∀ (xs:List PyData) (k:Nat),(hX k xs).length=xs.length
 | [],_=>rfl
 | _::xs,k=>by rw [hX,List.length_cons,List.length_cons,gO]
def ESt (b:Bool) (e it l:Addr) (i:Nat) (h:Heap):Prop:=(∃ old,IsEnum h e it i old)/\ItAt b h it l i
def zZ {b:Bool} {e it l:Addr} {all:List PyData} {c:Cw} (hne:e≠it) (hq:∀ {κ:Kp} {M:Mp} {h:aA} {s:Shared},Mem S κ M h s->Le M0 M->condB c all h=true->∃ xs us,all=bK xs/\SqAt b s.heap l us.toArray/\Reps' S M xs us):Turn S (.Tuple elts n pos) all c M0 [e,it] e (ESt b e it l) where
 obj:=fun i h st a ha=>by
  obtain ⟨⟨old,s1⟩,s2⟩:=st;simp only [List.mem_cons,List.not_mem_nil,or_false] at ha;rcases ha with rfl | rfl
  ·exact ⟨_,s1⟩
  ·exact s2.ob
 keep:=fun i h h' st k=>by
  obtain ⟨⟨old,s1⟩,s2⟩:=st;exact ⟨⟨old,k e (by simp) _ s1⟩,s2.keep fun o q=>k it (by simp) o q⟩
 item:=by
  intro A κ M h s E i x hd hk R l' hf st hx co;obtain ⟨xs,us,rfl,q1,r1⟩:=hq R l' co;obtain ⟨y,h1,rfl⟩:=pK hx;rw [Nat.zero_add];obtain ⟨u,hu,ru⟩:=lV r1 h1;obtain ⟨⟨old,s1⟩,s2⟩:=st;refine aQ0 s1 s2 q1 (x:=u) (by simpa using hu) hne fun h' a1 a2 a3 a4 a5=>⟨_,rfl,wpAny_letOwnedTupleGo_enum (s:={ s with heap:=h',toks:=s.toks+1 }) a1 fun h'' b1 b2=>?_⟩;have zs:s.heap.objs.size≠e:=Nat.ne_of_gt (Heap.lt_size s1);obtain ⟨M',l2,R',r',f'⟩:=R.pair (h2:=h'') (t:=s.toks+1) (x:=.int i) hf (fun a ha=>by
   simp only [List.mem_cons,List.not_mem_nil,or_false] at ha;rcases ha with rfl | rfl
   ·exact ⟨_,s1⟩
   ·exact s2.ob) (fun a o ha q=>by
   simp only [List.mem_cons,List.not_mem_nil,or_false,not_or] at ha;exact (b2.2 a ha.1).trans (a5 a o ha.1 ha.2 q)) ((b2.2 _ zs).trans a3) (rep_i.mpr ⟨_,rfl⟩) ru
  refine ⟨M',l2,R',r',⟨⟨u,?_⟩,a2.keep fun o q=>(b2.2 _ hne.symm).trans q⟩,f'⟩;have:((i+1:Nat):Int)=(i:Int)+1:=by omega
  unfold IsEnum;rw [this];exact b1
 done:=by
  intro A κ M h s E i hd hk R l' hf st hl co;obtain ⟨xs,us,rfl,q1,r1⟩:=hq R l' co;obtain ⟨⟨old,s1⟩,s2⟩:=st;have k1:=r1.length;unfold bK at hl;rw [gO] at hl;refine bD7 (hk.at R) s1 s2 q1 (by simp;omega) fun h' kk=>⟨rfl,?_⟩;exact R.turn (t:=s.toks) hf fun a o ha q=>by
   simp only [List.mem_cons,List.not_mem_nil,or_false,not_or] at ha;exact kk a o ha.2 q
 self:=fun _ _ s _ _ st h=>by
  obtain ⟨⟨old,s1⟩,s2⟩:=st;have hT:s.TypeIs (.ref e) "enumerate":=⟨_,s1,rfl⟩;refine wpAny_pyIter_slot hT PySem.F.slot_enumerate_iter (wpAny_call_entry PySem.F.slot_enumerate_iter hT PySem.F.entry_enumerate_iter ?_ (PySem.F.args_enumerate_iter_1 _));show wpAny _ _ (ret (.ref e)) _ _ s;exact wpAny_pure ⟨_,rfl,"enumerate",_,hT,PySem.F.slot_enumerate_next.lookup,h⟩
end
section
variable {X:Cx} {st:Sta} {d:Nat} {v:Evs} {a b:Expr} {κ:Kp} {M:Mp} {δ:DSt} {h h':aA} {s:Shared} {pos p tp:Pos} {elts:List Expr} {n:Nat}
theorem bV0 (S:Snd v) (G:Good X st d) (hx:(cR st "zip"&&(slot st "zip").isNone&&st.bl.contains "zip")=true) (hs:aK a=true) (hs2:aK b=true):SI X (.Tuple elts n tp) (.Call (.Name "zip" p) [a,b] [] pos) (xb (v.E st a) fun u=>xb (v.E st b) fun w=>fun _ h=>(match lZ u,lZ w with
   | some xs,some ys=>some ((jW xs ys,none),h)
   | _,_=>none)):=by
 intro κ M δ h s q h' R F e;obtain ⟨h1,h2,h3⟩:=dI G hx;obtain ⟨x,hh,e1,e⟩:=aH e;obtain ⟨y,hh2,e2,e⟩:=aH e;have ea:aR v st [a,b] δ h=some ([x,y],hh2):=by unfold aR;rw [if_pos hs];unfold xb;rw [e1];unfold aR;dsimp only [Option.bind];rw [if_pos hs2];unfold aR xb aF;dsimp only;rw [e2];rfl
 refine Call_ (cU (u:=.type "zip") F R h2 h3 (by decide +kernel) h1 (PyProof.Rows.callWith_type1 (thn (bR S G [a,b] pos R F ea) fun us s1 ⟨M1,l1,R1,r0⟩=>?_) (bE a hs) (by rw [bE b hs2];rfl)));obtain ⟨u,v,rfl,r1,r2⟩:=w2 r0;split at e
 ·rename_i xs ys ex ey;cases e;obtain ⟨b1,l1',us,rfl,q1,z1,rr1⟩:=aG9 ex r1;obtain ⟨b2,l2',vs,rfl,q2,z2,rr2⟩:=aG9 ey r2;refine aD8 (q1.at .refl R1) (q2.at .refl R1) fun h' a1 a2 a3 a4 a5 a6 a7=>?_;have D:ZApart (s1.heap.objs.size+4) (s1.heap.objs.size+2) (s1.heap.objs.size+3) s1.heap.objs.size (s1.heap.objs.size+1):=by
   constructor<;>(intro e;exact absurd e (by simp [Addr]<;>omega))
  refine wpAny_pyIter_zip a1 (Pi.go l1 ⟨M1,_,_,_,.refl,R1.kept (t:=s1.toks) a7,rfl,aH0 D q1 q2 rr1 rr2,⟨a1,a2,⟨_,_,a3⟩,a4,a5⟩,fun x hx=>R1.new (Heap.get?_none_of_le ?_),?_⟩)
  ·simp only [List.mem_cons,List.not_mem_nil,or_false] at hx;rcases hx with rfl | rfl | rfl | rfl | rfl<;>simp
  ·show (jW xs ys).length<=sizeLine;unfold jW;rw [List.length_zipWith,rr1.length];omega
 ·cases e
def bH1 (S:Snd v) (G:Good X st d) (hx:(cR st "enumerate"&&(slot st "enumerate").isNone&&st.bl.contains "enumerate")=true) (hs:aK a=true):SI X (.Tuple elts n tp) (.Call (.Name "enumerate" p) [a] [] pos) (xb (v.E st a) fun u=>fun _ h=>iW u h):=by
 intro κ M δ h s q h' R F e;obtain ⟨h1,h2,h3⟩:=dI G hx;obtain ⟨x,hh,e1,e⟩:=aH e;have ea:aR v st [a] δ h=some ([x],hh):=by unfold aR;rw [if_pos hs];unfold aR xb aF;rw [e1];rfl
 refine Call_ (cU (u:=.type "enumerate") F R h2 h3 (by decide +kernel) h1 (PyProof.Rows.callWith_type1 (thn (bR S G [a] pos R F ea) fun us s1 ⟨M1,l1,R1,r0⟩=>?_) (bE a hs) rfl));obtain ⟨u,rfl,r1⟩:=w1 r0;have ex:∃ b l us,u=.ref l/\SqAt b s1.heap l us/\h'=hh/\q.1.length<=sizeLine/\∀ {κ:Kp} {M:Mp} {h:aA} {s:Shared},Mem X.S κ M h s->Le M1 M->condB q.2 q.1 h=true->∃ xs us,q.1=bK xs/\SqAt b s.heap l (List.toArray us)/\Reps' X.S M xs us:=by
  unfold iW at e;split at e
  ·rename_i xs ex;cases e;obtain ⟨b,l,us,rfl,q1,z1,rr1⟩:=aG9 ex r1;refine ⟨b,l,us.toArray,rfl,q1.at .refl R1,rfl,?_,fun R l' _=>⟨xs,us,rfl,q1.at l' R,rr1.go l'⟩⟩;show (bK xs).length<=sizeLine;unfold bK;rw [gO,rr1.length];exact z1
  ·cases x with
   | d y=>cases e
   | c i =>
    dsimp only at e;split at e
    ·rename_i xs ey;cases e;obtain ⟨pp,ep,rfl⟩:=r1;obtain ⟨us,k,g1,g2,g3⟩:=R1.cel i pp _ ep ey;refine ⟨false,pp.1,us.toArray,rfl,(bW g1).isList,rfl,?_,fun {κ M h s} R l' co=>?_⟩
     ·show (bK xs).length<=sizeLine;unfold bK;rw [gO,g3.length];exact g2
     ·have co:(match h[i]? with
       | some (.l ys)=>peqs (bK ys) (bK xs)
       | _=>false)=true:=co
      split at co
      ·rename_i ys ey';obtain ⟨vs,k',f1,f2,f3⟩:=R.cel i pp _ (l'.at ep) ey';exact ⟨ys,vs,(peqs_eq co).symm,(bW f1).isList,f3⟩
      ·cases co
    ·cases e
 obtain ⟨b,l,us,rfl,q1,rfl,hz,hq⟩:=ex;refine callType_new PySem.F.called_enumerate (by decide) (PySem.F.typeCall_enumerate_1 _) (PySem.F.newCall_enumerate_1 _) (fun obj=>PySem.F.args_object_init_2 obj _) PySem.F.entry_enumerate_new (aE1 b l us) ⟨q1,⟨_,Heap.get?_push_size _ rfl,rfl⟩,?_⟩;have z1':(s1.heap.push (iV b l)).objs.size=s1.heap.objs.size+1:=by rw [Heap.size_push]
 have ge:((s1.heap.push (iV b l)).push { cls:=.type "enumerate",data:=.fields #[.none,.bool false,.ref s1.heap.objs.size,rawInt 0,.none,.none] }).get? (s1.heap.push (iV b l)).objs.size=some { cls:=.type "enumerate",data:=.fields #[.none,.bool false,.ref s1.heap.objs.size,rawInt 0,.none,.none] }:=Heap.get?_push_size _ rfl;have gi:((s1.heap.push (iV b l)).push { cls:=.type "enumerate",data:=.fields #[.none,.bool false,.ref s1.heap.objs.size,rawInt 0,.none,.none] }).get? s1.heap.objs.size=some (iV b l):=Heap.get?_push_of_some _ (Heap.get?_push_size _ rfl);have hne:(s1.heap.push (iV b l)).objs.size≠s1.heap.objs.size:=by rw [z1'];exact Nat.succ_ne_self _
 refine wpAny_pyIter_enum (s:={ s1 with heap:=_ }) ge (Pi.go l1 ⟨M1,_,_,_,.refl,R1.kept (t:=s1.toks) fun c o e=>Heap.get?_push_of_some _ (Heap.get?_push_of_some _ e),rfl,zZ hne hq,⟨⟨.none,ge⟩,ItAt.new gi⟩,fun x hx=>R1.new (Heap.get?_none_of_le ?_),hz⟩);simp only [List.mem_cons,List.not_mem_nil,or_false] at hx;rcases hx with rfl | rfl
 ·rw [z1'];exact Nat.le_succ _
 ·exact Nat.le_refl _
end
end DL

namespace DL
open PySem PySem.Spec PyProof.Rows L2 CI
section
variable {X:Cx} {st:Sta} {d:Nat} {v:Evs} {κ:Kp} {M:Mp} {δ:DSt} {h h':aA} {s:Shared} {a b c e o tg iter:Expr} {es:List Expr} {pos p p2 apos:Pos} {x m:Str} {w:W}
def bH2 (S:Snd v) (G:Good X st d) {op op' op'':CmpOp} {p:Bool×aA} (hm:lastMarks [op,op',op''] [b,c,e]=false) (R:Mem X.S κ M h s) (F:Fra X κ M δ) (eq:xC3 op op' op'' (v.E st a) (v.E st b) (v.E st c) (v.E st e) δ h=some p):Wp X.S X.A (eval (.Compare a [op,op',op''] [b,c,e] pos) X.env) (Pw X.S κ M p.2 (.d (.bool p.1))) NE s:=by
 obtain ⟨x,h1,e1,eq⟩:=aH eq;obtain ⟨y,h2,e2,eq⟩:=aH eq;obtain ⟨p1,e3,eq⟩:=bind_some eq;refine Compare_chain (thn (S.E G a R F e1) fun u s1 ⟨M1,l1,R1,r1⟩=>chain_link (thn (S.E G b R1 (F.go l1) e2) fun v s2 ⟨M2,l2,R2,r2⟩=>?_)) hm;obtain ⟨q1,q2⟩:=fX (A:=X.A) (E:=NE) G.rm R2 (r1.go l2) r2 e3;obtain ⟨k,h3⟩:=p1;cases q1;refine thn q2 fun k' s3 ⟨M3,l3,R3,r3⟩=>?_;cases wb.mp r3;refine wpAny_truthy_bool ?_;dsimp only at eq;cases k with
 | false=>cases eq;exact ite_ff (R3.pb.go (l1.trans (l2.trans l3)))
 | true =>
  obtain ⟨⟨z,h4⟩,e4,eq⟩:=bind_some eq;obtain ⟨p2,e5,eq⟩:=bind_some eq;refine ite_tt (chain_link (thn (S.E G c R3 ((F.go l1).go (l2.trans l3)) e4) fun t s4 ⟨M4,l4,R4,r4⟩=>?_));obtain ⟨q5,q6⟩:=fX (A:=X.A) (E:=NE) G.rm R4 (r2.go (l3.trans l4)) r4 e5;obtain ⟨k2,h5⟩:=p2;cases q5;refine thn q6 fun k' s5 ⟨M5,l5,R5,r5⟩=>?_;cases wb.mp r5;refine wpAny_truthy_bool ?_;dsimp only at eq;cases k2 with
  | false=>cases eq;exact ite_ff (R5.pb.go (l1.trans (l2.trans (l3.trans (l4.trans l5)))))
  | true =>
   obtain ⟨⟨z',h6⟩,e6,eq⟩:=bind_some eq;refine ite_tt (chain_last (thn (S.E G e R5 ((F.go l1).go (l2.trans (l3.trans (l4.trans l5)))) e6) fun t' s6 ⟨M6,l6,R6,r6⟩=>?_));obtain ⟨q7,q8⟩:=fX (A:=X.A) (E:=NE) G.rm R6 (r4.go (l5.trans l6)) r6 eq;rw [q7];exact thn q8 fun _ _ q=>q.go (l1.trans (l2.trans (l3.trans (l4.trans (l5.trans l6)))))
def bH3 (S:Snd v) (G:Good X st d) {ops:List CmpOp} {cs:List Expr}:SE X (.Compare a ops cs pos) (bM (jX v st a ops cs)):=by
 unfold jX;rcases ops with _ | ⟨op,_ | ⟨op',_ | ⟨op'',_ | ⟨_,_⟩⟩⟩⟩
 ·exact kX S G
 ·exact kX S G
 ·exact kX S G
 ·rcases cs with _ | ⟨b,_ | ⟨c,_ | ⟨e',_ | ⟨_,_⟩⟩⟩⟩
  ·exact kX S G
  ·exact kX S G
  ·exact kX S G
  ·intro κ M δ h s w h' R F eq;obtain ⟨p,e2,ew⟩:=map_some (show ((if lastMarks [op,op',op''] [b,c,e']=true then xno else xC3 op op' op'' (v.E st a) (v.E st b) (v.E st c) (v.E st e')) δ h).map asW=_ from eq);cases ew
   by_cases hm:lastMarks [op,op',op''] [b,c,e']=true
   ·rw [if_pos hm] at e2;cases e2
   ·rw [if_neg hm] at e2;exact bH2 S G (by simpa using hm) R F e2
  ·exact kX S G
 ·exact kX S G
def jH {P:List Value->Shared->Prop} {E:Value->Shared->Prop} (hs:aK e=true) (h:Wp X.S X.A (eval e X.env) (fun v s1=>P [v] s1) E s):Wp X.S X.A (spliced (backTo pos (starEach [e] X.env))) P E s:=by
 rw [bE (es:=[]) e hs];show Wp _ _ (spliced ((false,eval e X.env)::backTo pos [])) _ _ s;exact Calls.spliced_cons (thn h fun u s1 q=>wpAny_pure q)
def bH4 (S:Snd v) (G:Good X st d) (hh:(!st.hm)=true) {pos2:Pos} {a:Expr} {as:List Expr} (hx:okC st "list"=true) (hr:okC st "range"=true):SF X (.Call (.Name "list" p) [.Call (.Name "range" p2) (a::as) [] pos2] [] pos) (xb (aR v st (a::as)) fun ws=>fun _ h=>zM ws h):=by
 intro κ M δ h s w h' R F e;obtain ⟨ws,h1,e1,e⟩:=aH e;obtain ⟨n1,n2,n3⟩:=dI G hx;refine wpAny_Call_Name_kw (cU (u:=.type "list") F R n2 n3 (by decide +kernel) n1 ?_);refine PyProof.Rows.callWith_type1 (jH (by rfl) ?_) rfl rfl;refine kA (f:=.type "range") S G hr boot_range (.inr ⟨_,rfl⟩) R F e1 fun {M1 us s1} l1 R1 r1=>?_;have fin:∀ (i j:Int) (t0 t1 t2:Tok) (tk0:Nat),dY i j=true->wpAny (model X.S.P X.S.w) X.A (call (.type "list") [.ref s1.heap.objs.size]) (Pf X.S κ M h1 (rng i (j - i).toNat)) NE { s1 with heap:=s1.heap.push { cls:=.type "range",data:=.fields #[.int i t0,.int j t1,.int 1 t2] },toks:=tk0 }:=fun i j t0 t1 t2 tk0 hr=>by
  unfold dY at hr;simp only [Bool.and_eq_true,decide_eq_true_eq] at hr;refine call_list_range (n:=(j - i).toNat) (G.nh hh) (IsRange.new ..) (small_one (by omega) (by omega) (by omega) (by omega)) (by rw [rangeSize_one];split<;>omega) (by omega) fun h' tk acc c' k hS hacc=>?_;rw [Heap.size_push] at hS ⊢;have k1:∀ b o,s1.heap.get? b=some o->h'.get? b=some o:=fun b o e=>k b o (Heap.get?_push_of_some _ e);refine ⟨M1,l1,R1.kept (t:=tk) k1,s1.heap.objs.size+1,acc.toList,c',rfl,by rw [Array.toArray_toList];exact hS,R1.new (Heap.get?_none_of_le (Nat.le_succ _)),by rw [Array.length_toList,hacc.1,sizeLine_eq];omega,?_⟩;have gen:∀ (l:List Value) (m:List PyData),l.length=m.length->(∀ (k:Nat) v,l[k]?=some v->∃ x,m[k]?=some x/\Rep X.S M1.Z x v)->Reps' X.S M1 m l:=by
   intro l;induction l with
   | nil=>intro m hm _;rw [List.length_eq_zero_iff.mp hm.symm];exact .nil
   | cons v l ih =>
    intro m hm hv;cases m with
    | nil=>simp at hm
    | cons x m =>
     obtain ⟨x',e1,e2⟩:=hv 0 v rfl;simp at e1;subst e1;exact .cons e2 (ih m (by simpa using hm) fun k v e=>hv (k+1) v (by simpa using e))
  refine gen _ _ (by simp [hacc.1,rng]) fun k v e=>?_;rw [Array.getElem?_toList] at e;obtain ⟨tk,rfl⟩:=hacc.2 k v e;have hk:k < (j - i).toNat:=by have:=(Array.getElem?_eq_some_iff.mp e).1;rw [hacc.1] at this;exact this
  exact ⟨.int (i+k),by simp [rng,hk],rep_i.mpr ⟨tk,by simp⟩⟩
 unfold zM at e;split at e
 ·rename_i j;obtain ⟨hr,e⟩:=aI e;cases e;obtain ⟨u,rfl,ru⟩:=w1 r1;obtain ⟨t1,rfl⟩:=wi.mp ru;exact call_range_1 (fin 0 j _ _ _ _ hr)
 ·rename_i i j;obtain ⟨hr,e⟩:=aI e;cases e;obtain ⟨u,v,rfl,ru,rv⟩:=w2 r1;obtain ⟨t1,rfl⟩:=wi.mp ru;obtain ⟨t2,rfl⟩:=wi.mp rv;exact call_range_2 (fin i j _ _ _ _ hr)
 ·cases e
end
end DL

namespace DL
open PySem PySem.Spec PyProof.Rows L2 CI
section
variable {X:Cx} {st:Sta} {d:Nat} {v:Evs} {κ:Kp} {M:Mp} {δ:DSt} {h h':aA} {s:Shared} {a b c e o tg iter:Expr} {es:List Expr} {pos p p2 apos:Pos} {x m:Str} {w:W}
theorem aH1 {h1:aA} {j:Nat} (hp:(match W.c j with
  | .c j=>(match h1[j]? with
   | some (.l _)=>true
   | some (.r _)=>true
   | _=>false)
  | _=>false)=true):(∃ xs,DL.ref h1 (.c j)=some (.list xs))\/∃ i xs,W.c j=.c i/\h1[i]?=some (.r xs):=by
 dsimp only at hp;split at hp
 ·rename_i xs e;exact .inl ⟨xs,by unfold DL.ref;dsimp only;rw [e]⟩
 ·rename_i xs e;exact .inr ⟨j,xs,rfl,e⟩
 ·cases hp
def aS1 {S:Sx} {A:Around} {E:Value->Shared->Prop} {i k:Nat} {p:Addr×Addr} {is:List W} {u:Value} (R:Mem S κ M h s) (ep:M.m[i]?=some p) (ei:h[i]?=some (.r is)) (hz:is.length < sizeLine) (rx:RepW S M (.c k) u):Wp S A (call (.builtin "list.append") [.ref p.1,u]) (Pw S κ M (h.set i (.r (is++[.c k]))) (.d .none)) E s:=by
 obtain ⟨us,n,e,hl,r⟩:=R.cel i p _ ep ei;have hlen:=r.length;refine call_meets F.slot_list_append ⟨_,e,rfl⟩ F.entry_list_append (F.args_list_append_2 _ _) (PySem.list_append p.1 us.toArray n u (by rw [List.size_toArray];omega)) ⟨e,?_⟩;exact (R.lset (t:=s.toks) (us':=us++[u]) (c:=.r (is++[.c k])) (f:=fun a=>a.push u) ep e (by simp) fun h2 n' e'=>⟨_,n',e',by rw [List.length_append,List.length_singleton];omega,Paired.snoc r rx⟩).pn
def aS2 {S:Sx} {A:Around} {E:Value->Shared->Prop} {x w:W} {h':aA} {u:Value} (R:Mem S κ M h s) (r:RepW S M x u) (e:aE8 x h=some (w,h')):(∃ b us n,u=.ref b/\s.heap.get? b=some (bQ us n))/\Wp S A (call (.builtin "list.clear") [u]) (Pw S κ M h' w) E s:=by
 unfold aE8 at e;split at e
 ·rename_i j;obtain ⟨p,ep,rfl⟩:=r;split at e
  ·rename_i xs ej;cases e;obtain ⟨us,n,ho,hz,rr⟩:=R.cel j p _ ep ej;refine ⟨⟨_,us,n,rfl,ho⟩,call_meets F.slot_list_clear ⟨_,ho,rfl⟩ F.entry_list_clear (F.args_list_clear_1 _) (AutoSeq1.list_clear_list_0 p.1 us.toArray n (by rw [List.size_toArray];exact hz)) ⟨ho,?_⟩⟩;exact (R.lset (t:=s.toks) (us':=[]) (c:=.l []) (f:=fun _=>#[]) ep ho rfl fun h2 n' e'=>⟨_,n',e',Nat.zero_le _,.nil⟩).pn
  ·cases e
 ·cases e
def bH5 (S:Snd v) (G:Good X st d) (ho:iH o=true) (hl:(apos.endLine==pos.line)=true):SE X (.Call (.Attribute o "clear" apos) [] [] pos) (bR7 v st o):=by
 intro κ M δ h s w h' R F e;obtain ⟨x,h1,e1,e⟩:=aH e;refine wpAny_Call_method_late (lN ho _ _) (by rfl) hl rfl (thn (S.E G o R F e1) fun u s1 ⟨M1,l1,R1,r1⟩=>?_);obtain ⟨⟨b,us,n,rfl,hob⟩,hw⟩:=aS2 (A:=X.A) (E:=NE) R1 r1 e;refine ⟨"list",_,PySem.F.plainAttrs_list,PySem.F.slot_list_clear,PySem.F.type_list_clear,(bW hob).isList.typeIs,fun c ec=>by cases ec;exact ⟨_,hob,rfl⟩,?_⟩;exact Calls.callWith_builtin rfl (evalArgs_nil3 (thn hw fun _ _ q=>q.go l1))
def aH2 (S:Snd v) (G:Good X st d) {g:W->List W->aA->Option (W×aA)} (hg:aQ5 m=some g) (ho:iH o=true) (hl:(apos.endLine==pos.line)=true) (hn:(a::es).length < 29):SE X (.Call (.Attribute o m apos) (a::es) [] pos) (aE7 v st o m g (a::es)):=by
 intro κ M δ h s w h' R F q0;obtain ⟨x,h1,e1,q1⟩:=aH q0;obtain ⟨hp,q2⟩:=aI q1;obtain ⟨⟨ws,h2⟩,e2,e⟩:=bind_some q2;clear q0 q1 q2;unfold aQ5 at hg;split at hg
 ·rename_i hm;subst hm;cases hg;unfold mD at hp;rw [if_pos rfl] at hp;unfold sB at e;dsimp only at e;split at e
  ·rename_i j z;refine vJ S G PySem.F.slot_list_append PySem.F.type_list_append ho hl hn R F e1 (aH1 hp) e2 fun {M2 u us s2} l2 R2 r2 rs=>?_;split at e
   ·rename_i xs ej;obtain ⟨hz,e⟩:=aI e;cases e;obtain ⟨u1,rfl,ru⟩:=w1 rs;obtain ⟨p,ep,rfl⟩:=r2;exact thn (bG7 R2 ep ej hz ru) fun _ _ q=>q.go l2
   ·cases e
  ·rename_i j k;refine vJ S G PySem.F.slot_list_append PySem.F.type_list_append ho hl hn R F e1 (aH1 hp) e2 fun {M2 u us s2} l2 R2 r2 rs=>?_;split at e
   ·rename_i is ej;obtain ⟨hz,e⟩:=aI e;cases e;obtain ⟨u1,rfl,ru⟩:=w1 rs;obtain ⟨p,ep,rfl⟩:=r2;exact thn (aS1 R2 ep ej hz ru) fun _ _ q=>q.go l2
   ·cases e
  ·cases e
 ·cases hg
def aH3 {S:Sx} {k:Key} {kvs:List (PyData×W)} {vs:List (Key×Value)} (r:RepKW S M kvs vs):RepKW S M (uS k kvs) (without vs k):=by
 unfold uS without;induction r with
 | nil=>exact .nil
 | @cons p q ps qs h t ih =>
  rw [List.filter_cons,List.filter_cons,h.1]
  by_cases e:q.1=k
  ·simp only [e,decide_true,Bool.not_true,Bool.false_eq_true,if_false,ne_eq,not_true_eq_false,decide_false];exact ih
  ·simp only [Option.some.injEq,e,decide_false,Bool.not_false,if_true,ne_eq,not_false_eq_true,decide_true];exact .cons h ih
def aH4 {k:Key} {vs:List (Key×Value)}:(without vs k).length<=vs.length:=List.length_filter_le _ _
def aS3 {S:Sx} {A:Around} {E:Value->Shared->Prop} {i:Nat} {p:Addr×Addr} {kvs:List (PyData×W)} {k:Int} {t:Tok} {w:W} (R:Mem S κ M h s) (ep:M.m[i]?=some p) (ei:h[i]?=some (.k kvs)) (eg:qG (.inl k) kvs=some w):Wp S A (call (.builtin "dict.pop") [.ref p.1,.int k t]) (Pw S κ M (h.set i (.k (uS (.inl k) kvs))) w) E s:=by
 obtain ⟨vs,dd,rk,hd,hz⟩:=R.cel i p _ ep ei;obtain ⟨v,hv,rv⟩:=(jY (.inl k) rk).1 _ eg;refine call_meetsIn PySem.F.slot_dict_pop dd.typeIs PySem.F.entry_dict_pop (PySem.F.args_dict_pop_2 _ _) (meets_dict_pop_there (cM S.P S.w) p.1 (k:=.inl k) (kS _ _ k t) [] (.inl rfl) (by rfl)) ⟨vs,v,dd,hz,hv,fun h' dd' sb=>?_⟩;obtain ⟨o',es',ep',ho',hx'⟩:=id dd';obtain ⟨_,_,o2,ho2⟩:=R.off p (List.mem_of_getElem? ep) p.2 (.inr rfl);refine (Mem.wr (c:=.k (uS (.inl k) kvs)) (s':={ s with heap:=h',toks:=s.toks+1 }) R ep (fun b o n1 _ q=>(sb.2 b n1).trans q) ⟨⟨_,ho'⟩,?_⟩ R.bare rfl ⟨_,dd',aH3 rk,hd,Nat.le_trans aH4 hz⟩).pw rv
 by_cases hq:p.2=p.1
 ·exact ⟨_,by rw [hq];exact ho'⟩
 ·exact ⟨o2,(sb.2 _ hq).trans ho2⟩
def bV1 (S:Snd v) (G:Good X st d) (ho:iH o=true) (hl:(apos.endLine==pos.line)=true):SE X (.Call (.Attribute o "pop" apos) [a] [] pos) (bE5 v st o a):=by
 intro κ M δ h s w h' R F e;unfold bE5 xD at e;obtain ⟨x,h1,e1,e⟩:=aH e;rcases x with _ | j
 ·cases e
 dsimp only at e;split at e
 ·rename_i kvs0 ej;obtain ⟨⟨ws,h2⟩,e2,e⟩:=bind_some e;have hst:=dU e2;have hst':=hst;rw [List.all_cons,Bool.and_eq_true] at hst';refine wpAny_Call_method_late (lN ho _ _) (aG8 hst (by decide:1 < 29) _ _) hl rfl (thn (S.E G o R F e1) fun u s1 ⟨M1,l1,R1,r1⟩=>?_);obtain ⟨p,ep,rfl⟩:=r1;obtain ⟨vs,dd,_⟩:=R1.cel j p _ ep ej;obtain ⟨ob,es,ed,d1,d2,_⟩:=id dd;refine ⟨"dict",_,PySem.F.plainAttrs_dict,PySem.F.slot_dict_pop,PySem.F.type_dict_pop,dd.typeIs,fun c ec=>by cases ec;exact ⟨ob,d1,d2.2.1⟩,?_⟩;have hA:=bR S G _ pos R1 (F.go l1) e2;rw [bE a hst'.1] at hA ⊢;refine Calls.callWith_builtin (by show (false||(backTo pos (starEach [] X.env)).any (·.1))=false;rfl) (Calls.evalArgs_plain ?_);refine thn hA fun us s2 ⟨M2,l2,R2,rs⟩=>?_
  change zN j ws h2=some (w,h') at e
  unfold zN at e;split at e
  ·rename_i ws0 i kvs ej2 pa;obtain ⟨x,ex,e⟩:=map_some e;cases e;obtain ⟨u1,rfl,ru⟩:=w1 rs;obtain ⟨t,rfl⟩:=wi.mp ru;exact thn (aS3 R2 (l2.at ep) ej2 ex) fun _ _ q=>q.go (l1.trans l2)
  ·cases e
 ·cases e
def aS4 {S:Sx} {A:Around} {E:Value->Shared->Prop} {i:Nat} {p:Addr×Addr} {xs ys:List PyData} {u:Value} (R:Mem S κ M h s) (ep:M.m[i]?=some p) (ei:h[i]?=some (.l xs)) (ru:RepW S M (.d (.tuple ys)) u) (hz:xs.length+ys.length<=sizeLine) :
  Wp S A (call (.builtin "list.extend") [.ref p.1,u]) (Pw S κ M (h.set i (.l (xs++ys))) (.d .none)) E s:=by
 obtain ⟨b,vs,m,rfl,z,hzz,rb⟩:=fQ (h:=h) R ru rfl;obtain ⟨us,n,e,hl,r⟩:=R.cel i p _ ep ei;have h1:=r.length;have h2:=rb.length;have hsz:us.toArray.size+vs.toArray.size<=sizeLine:=by rw [List.size_toArray,List.size_toArray];omega
 have hlong:¬ (!us.toArray.isEmpty&&Builtin.List.listTooLong (us.toArray.size+vs.toArray.size))=true:=by
  unfold Builtin.List.listTooLong;rw [decide_eq_false (by omega),Bool.and_false];exact Bool.false_ne_true
 refine call_meets F.slot_list_extend ⟨_,e,rfl⟩ F.entry_list_extend (F.args_list_extend_2 _ _) (AutoSeq1.list_extend_list_tuple_0 p.1 us.toArray n b vs.toArray m hlong (by rw [List.size_toArray];omega) (by omega)) ⟨e,R.z _ _ z,?_⟩;exact (R.lset (t:=s.toks) (us':=us++vs) (c:=.l (xs++ys)) (f:=fun a=>a++vs.toArray) ep e (by simp) fun h2 n' e'=>⟨_,n',e',by rw [List.length_append];simpa using hsz,zH r rb⟩).pn
def bV2 (S:Snd v) (G:Good X st d) (ho:iH o=true) (hl:(apos.endLine==pos.line)=true):SE X (.Call (.Attribute o "extend" apos) [a] [] pos) (bE7 v st o a):=by
 intro κ M δ h s w h' R F e;unfold bE7 bA2 at e;obtain ⟨x,h1,e1,e⟩:=aH e;rcases x with _ | j
 ·cases e
 dsimp only at e;split at e
 ·rename_i xs0 ej;obtain ⟨⟨ws,h2⟩,e2,e⟩:=bind_some e;refine vJ S G PySem.F.slot_list_extend PySem.F.type_list_extend ho hl (by decide:1 < 29) R F e1 (.inl ⟨xs0,by unfold DL.ref;dsimp only;rw [ej]⟩) e2 fun {M2 u us s2} l2 R2 r2 rs=>?_
  change bE6 j ws h2=some (w,h') at e
  unfold bE6 at e;split at e
  ·rename_i ws0 o0 ys xs ej2;obtain ⟨hz,e⟩:=aI e;cases e;obtain ⟨u1,rfl,ru⟩:=w1 rs;obtain ⟨p,ep,rfl⟩:=r2;exact thn (aS4 R2 ep ej2 ru hz) fun _ _ q=>q.go l2
  ·cases e
 ·cases e
def aH5:SI X tg iter xno:=fun _ _ _ _ _ _ _ _ _ e=>by cases e
def aH6 (h:xC tg=true):∃ es k p,tg=.Tuple es k p:=by
 cases tg<;>first | exact ⟨_,_,_,rfl⟩ | cases h
def iM (S:Snd v):ItS v:=by
 intro X st d G tg iter;unfold fP;cases hq:itS iter with
 | some y =>
  obtain ⟨⟨x,a,ob⟩,p,pos,he⟩:=y;clear hq;subst he;cases ob with
  | none =>
  dsimp only;split
  ·rename_i hx;subst hx;split
   ·rename_i hc;rw [Bool.and_eq_true,Bool.and_eq_true] at hc;exact bF9 S G hc.2 hc.1.1 hc.1.2
   ·exact aH5
  ·split
   ·rename_i hx;subst hx;split
    ·rename_i hc;rw [Bool.and_eq_true,Bool.and_eq_true] at hc;obtain ⟨es,k,p,rfl⟩:=aH6 hc.2;exact bH1 S G hc.1.1 hc.1.2
    ·exact aH5
   ·exact vF S G
  | some b =>
  dsimp only;split
  ·rename_i hx;subst hx;split
   ·rename_i hc;rw [Bool.and_eq_true,Bool.and_eq_true,Bool.and_eq_true] at hc;exact bG0 S G hc.2 hc.1.1.1 hc.1.1.2 hc.1.2
   ·exact aH5
  ·split
   ·rename_i hx;subst hx;split
    ·rename_i hc;rw [Bool.and_eq_true,Bool.and_eq_true,Bool.and_eq_true] at hc;obtain ⟨es,k,p,rfl⟩:=aH6 hc.2;exact bV0 S G hc.1.1.1 hc.1.1.2 hc.1.2
    ·exact aH5
   ·exact vF S G
 | none =>
  dsimp only;split
  ·exact aH5
  ·exact vF S G
def bV3 (S:Snd v) (G:Good X st d):SE X e (zQ v st e):=by
 unfold zQ;cases hq:lcS e with
 | some y =>
  obtain ⟨⟨tg,iter,ifs,a,sc⟩,lp,p,he⟩:=y;clear hq;subst he;dsimp only;split
  ·rename_i ha;subst ha;unfold qJ;split
   ·rename_i hc;rw [Bool.and_eq_true] at hc;have hset:dZ iter=false:=by simpa using hc.2
    intro κ M δ h s w h' R F e;obtain ⟨⟨all,c⟩,h1,e1,e⟩:=aH e;obtain ⟨⟨is,h2⟩,e2,e3⟩:=bind_some e;cases e3;refine thn (aG5 G.rm.hd (by rw [G.S,G.N];exact jG hc.1) (iM S G tg iter) (fun cl C=>S.G (bF G cl C) tg) (fun cl C=>mQ S (bF G cl C) ifs) (fun cl C=>?_) (fG hset _) R F e1 (gN e2)) fun _ _ p=>bG5 p;exact kY (qR (es:=[]) S (bF G cl C))
   ·exact cH
  ·exact cH
 | none=>exact S.E G _
end
end DL

namespace ST
open PySem PySem.Spec PyProof.Rows
def aH7:typeLookup (.type "list_reverseiterator") "__len__"=pure none:=by rw [typeLookup_type,builtinLookup_eq_fast];kernel_rfl
def aS5:typeLookup (.type "list_reverseiterator") "__length_hint__"=pure (some (.builtin "list_reverseiterator.__length_hint__")):=by rw [typeLookup_type,builtinLookup_eq_fast];kernel_rfl
section
variable {prog:Program} {w:World} {A:Around} {E:Value->Shared->Prop} {s:Shared}
def mS {α:Type} {c:Prop} [Decidable c] {x y:Sem α} {Q:α->Shared->Prop} (h:¬ c) (k:wpAny (model prog w) A y Q E s):wpAny (model prog w) A (if c then x else y) Q E s:=by rw [if_neg h];exact k
def bH6 {α:Type} {c:Prop} [Decidable c] {x y:Sem α} {Q:α->Shared->Prop} (h:c) (k:wpAny (model prog w) A x Q E s):wpAny (model prog w) A (if c then x else y) Q E s:=by rw [if_pos h];exact k
abbrev nlH (h:Heap):Heap:=h.push { cls:=.type "list",data:=.seq ([]:List Value).toArray }
def aH8 {r:Addr} {Q:Bool->Shared->Prop} (hT:s.TypeIs (.ref r) "list_reverseiterator") (h:Q false s):wpAny (model prog w) A (Builtin.List.listLengthHint (.ref r)) Q E s:=by
 unfold Builtin.List.listLengthHint;refine wpAny_bind (wpAny_specialOf hT aH7 ?_);dsimp only;refine mS (by decide +kernel) ?_;refine mS (by decide +kernel) ?_;refine wpAny_bind (wpAny_specialOf hT aS5 ?_);generalize hid:("list_reverseiterator.__length_hint__":String)=id0
 wp_delta
 rw [show splitId id0=some ("list_reverseiterator","__length_hint__") from by subst hid;decide +kernel];subst hid;refine wpAny_bind (wpAny_isInstance (T:="list_reverseiterator") (b:=true) hT (by rw [isSubtype_type];kernel_rfl) ?_);refine mS (by decide) ?_;refine bH6 (by decide +kernel) ?_;refine mS (by decide +kernel) ?_;exact wpAny_pure h
def sR {I l:Addr} {vs:Array Value} (hh:A.handled=none) (hi:s.heap.IsRevIter I l ((vs.size:Int) - 1)) (hl:s.heap.IsList l vs) (hz:vs.size<=sizeLine) {R:List Value->Shared->Prop}
  (hR:∀ (h':Heap) (tk:Nat),(∀ b o,b≠I->s.heap.get? b=some o->h'.get? b=some o)->R vs.toList.reverse { s with heap:=h',toks:=tk }):wpAny (model prog w) A (collect (.ref I)) R E s:=by
 have hI:I < s.heap.objs.size:=let ⟨o,e,_⟩:=hi;Heap.lt_size e
 have hL:l < s.heap.objs.size:=let ⟨o,e,_⟩:=hl;Heap.lt_size e
 have ne:l≠I:=fun z=>by
  obtain ⟨o,e1,c1,_⟩:=hi;obtain ⟨o',e2,c2,_⟩:=hl;rw [z,e1] at e2;cases e2;rw [c1] at c2;exact absurd c2 (by decide)
 have k0:∀ b o,s.heap.get? b=some o->(nlH s.heap).get? b=some o:=fun b o e=>Heap.get?_push_of_some _ e;have hS:(nlH s.heap).get? s.heap.objs.size=some { cls:=.type "list",data:=.seq #[] }:=Heap.get?_push_size _ rfl;have hi1:=hi.at (h':=nlH s.heap) fun o e=>k0 _ _ e;have hl1:(nlH s.heap).IsList l vs:=let ⟨o,e,r⟩:=hl;⟨o,k0 _ _ e,r⟩
 unfold collect;refine wpAny_bind (wpAny_runValue (codeAny_builtin PySem.F.entry_proto_collect ?_));rw [Around.under_plainId PySem.F.plain_proto_collect _];refine wpAny_bind (wpAny_newObj_type (wpAny_pure ⟨plainId_quiet PySem.F.plain_list_iadd _,codeAny_builtin PySem.F.entry_list_iadd ?_⟩));rw [Around.under_plainId PySem.F.plain_list_iadd _];show wpAny _ _ (Builtin.List.listExtendWith (.ref s.heap.objs.size) (.ref I) (.ref s.heap.objs.size)) _ _ _;unfold Builtin.List.listExtendWith;refine wpAny_bind (wpAny_typeOf (T:="list_reverseiterator") hi1.typeIs ?_);have h1:Builtin.List.listSameRef (.ref s.heap.objs.size) (.ref I)=false:=by simp [Builtin.List.listSameRef,Nat.ne_of_gt hI]
 simp only [h1,show (Value.type "list_reverseiterator"==Value.type "list")=false by decide,show (Value.type "list_reverseiterator"==Value.type "tuple")=false by decide,Bool.or_false,Bool.false_eq_true,if_false];refine wpAny_bind (wpAny_pyIter_revIter hi1 ?_);refine wpAny_bind (wpAny_holding (aH8 hi1.typeIs ?_));refine mS (by decide +kernel) ?_;refine wpAny_pure ⟨plainId_quiet PySem.F.plain_extend_loop _,?_⟩;have W:=Walks.listRev (prog:=prog) (w:=w) (A:=A.in1) (by simp [hh]) I l ne vs;have hSf:s.heap.objs.size∉[I,l]:=by simp only [List.mem_cons,List.not_mem_nil,or_false,not_or];exact ⟨Nat.ne_of_gt hI,Nat.ne_of_gt hL⟩
 refine codeAny_extend_loopS W.toS hz s.heap.objs.size hSf _ vs.size 0 { s with heap:=nlH s.heap } #[] 0 rfl (Nat.zero_le _) ⟨Nat.zero_le _,(by rw [show (vs.size:Int) - 1 - ((0:Nat):Int)=(vs.size:Int) - 1 by omega];exact hi1),hl1⟩ hS (ItemsOf.nil _) fun s' acc' c' hm hS' hacc=>?_;rw [Moved.eq_with hm];refine wpAny_bind (wpAny_load hS' (wpAny_pure ?_));have e:acc'.toList=vs.toList.reverse:=by
  apply List.ext_getElem?;intro j;rw [Array.getElem?_toList]
  by_cases hj:j < vs.size
  ·obtain ⟨v,ev⟩:∃ v,acc'[j]?=some v:=⟨_,Array.getElem?_eq_getElem (by rw [hacc.1];exact hj)⟩;have:=hacc.2 j v ev;rw [ev,List.getElem?_reverse (by simpa using hj),<- this];simp
  ·rw [Array.getElem?_eq_none (by rw [hacc.1];omega),List.getElem?_eq_none (by simpa using hj)]
 have:=hR s'.heap s'.toks fun b o hb e=>hm.heap b o (fun hmem=>by
  rcases List.mem_cons.mp hmem with z | z
  ·exact Nat.ne_of_lt (Heap.lt_size e) z
  ·exact hb (List.mem_singleton.mp z)) (k0 _ _ e)
 rw [<- e] at this;exact this
end
def aA0 {I l:Addr} {vs:Array Value} (hz:vs.size<=sizeLine) :
  Meets (Builtin.«tuple.__new__» ⟨[.type "tuple",.ref I],[]⟩) (fun A R s=>A.handled=none/\s.heap.IsRevIter I l ((vs.size:Int) - 1)/\s.heap.IsList l vs/\∀ (h':Heap) (tk:Nat),(∀ b o,b≠I->s.heap.get? b=some o->h'.get? b=some o) ->
   R (.ok (.ret (.ref h'.objs.size))) { s with heap:=h'.push { cls:=.type "tuple",data:=.seq vs.toList.reverse.toArray },toks:=tk }) :=
 .of_wp fun prog w A R s h=>by
  obtain ⟨hh,hi,hl,h⟩:=h;have hsub:=sub_tuple_self;have hinit:=init_tuple_lookup;have hmh:=madeHere_tuple;have hT:s.TypeIs (.ref I) "list_reverseiterator":=hi.typeIs;have hh1:A.in1.handled=none:=hh;obtain ⟨oI,hI,hc,hd⟩:=id hi;have hr':s.heap.get? I=some oI:=hI
  wp_walk using AutoSeq1.wpAny_loadPart' hr',wpAny_typeOf hT,sR hh1 hi hl hz
  intro h' tk hk;show wpAny _ _ (Builtin.Tuple.tupleExact vs.toList.reverse.toArray >>= fun v=>ret v) _ _ _;unfold Builtin.Tuple.tupleExact;refine wpAny_bind (wpAny_newObj_type ?_ (show vs.toList.reverse.toArray.size<=sizeLine by simpa using hz));exact wpAny_pure ⟨_,rfl,h h' tk hk⟩
section
variable {prog:Program} {w:World} {A:Around} {E:Value->Shared->Prop} {s:Shared}
def aA1 {Q:Value->Shared->Prop} {l:Addr} {vs:Array Value} (hh:A.handled=none) (hl:s.heap.IsList l vs) (hz:vs.size<=sizeLine) {pos:Pos}
  (h:∀ (h':Heap) (tk:Nat),(∀ b o,s.heap.get? b=some o->h'.get? b=some o)->Q (.ref h'.objs.size) { s with heap:=h'.push { cls:=.type "tuple",data:=.seq vs.toList.reverse.toArray },toks:=tk }) :
  wpAny (model prog w) A (call (.type "reversed") [.ref l]) (fun v s'=>wpAny (model prog w) A (call (.type "tuple") [v]) Q E s') E s :=
 call_reversed_list hl (callType_new PySem.F.called_tuple (by decide) (PySem.F.typeCall_tuple_1 _) (PySem.F.newCall_tuple_1 _) (fun obj=>PySem.F.args_object_init_2 obj _) PySem.F.entry_tuple_new
  (aA0 (l:=l) (vs:=vs) hz) ⟨hh,⟨_,Heap.get?_push_size _ rfl,rfl,rfl⟩,let ⟨o,e,r⟩:=hl;⟨o,Heap.get?_push_of_some _ e,r⟩,fun h' tk hk=>⟨⟨_,Heap.get?_push_size _ rfl,rfl⟩,h h' tk fun b o e=>hk b o (Nat.ne_of_lt (Heap.lt_size e)) (Heap.get?_push_of_some _ e)⟩⟩)
end
end ST

namespace ST
open PySem PySem.Spec PyProof.Rows
section
variable {prog:Program} {w:World} {A:Around} {E:Value->Shared->Prop} {s:Shared}
def oR {r:Addr} {a b:Int} {t u v:Tok} {n:Nat} (hh:A.handled=none) (hr:IsRange s.heap r a b 1 t u v) (hsmall:Builtin.Range.small a b 1=true) (hn:Builtin.Range.rangeSize a b 1=n) (hlen:n<=2^24) {R:List Value->Shared->Prop}
  (hR:∀ (h':Heap) (tk:Nat) (acc:Array Value),(∀ b o,s.heap.get? b=some o->h'.get? b=some o)->ItemsOf (fun i v=>∃ t,v=.int (a+i*1) t) acc n->R acc.toList { s with heap:=h',toks:=tk }):wpAny (model prog w) A (collect (.ref r)) R E s:=by
 unfold collect;refine wpAny_bind (wpAny_runValue (codeAny_builtin PySem.F.entry_proto_collect ?_));rw [Around.under_plainId PySem.F.plain_proto_collect _];refine wpAny_bind (wpAny_newObj_type (wpAny_pure ⟨plainId_quiet PySem.F.plain_list_iadd _,codeAny_builtin PySem.F.entry_list_iadd ?_⟩));rw [Around.under_plainId PySem.F.plain_list_iadd _];refine wpAny_mono (wpAny_extend_range (A:=A) (R:=fun q s'=>∃ h' tk acc c,q=.ok (.ret (.ref s.heap.objs.size))/\s'={ s with heap:=h',toks:=tk }/\(∀ b o,s.heap.get? b=some o->h'.get? b=some o)/\h'.get? s.heap.objs.size=some { cls:=.type "list",dict:=none,data:=.seq acc c,slots:=#[] }/\ItemsOf (fun i v=>∃ t,v=.int (a+i*1) t) acc n)
  (s:={ s with heap:=s.heap.push { cls:=.type "list",data:=.seq ([]:List Value).toArray } }) hh (Heap.get?_push_of_some _ hr) hsmall hn hlen s.heap.objs.size (.ref s.heap.objs.size) 0 (Heap.get?_push_size _ rfl)
  fun h' tk acc c k hS hacc=>⟨h',tk,acc,c,rfl,rfl,fun b o e=>k b o (Nat.ne_of_lt (Heap.lt_size e)) (Heap.get?_push_of_some _ e),hS,hacc⟩) (fun fin s' x=>?_) fun e s' x=>?_
 ·cases fin with
  | done f =>
   obtain ⟨h',tk,acc,c,e,rfl,k,hS,hacc⟩:=x;cases e;exact wpAny_bind (wpAny_load hS (wpAny_pure (hR h' tk acc k hacc)))
  | again c1 =>
   refine ⟨x.1,codeAny_mono x.2 fun q s2 y=>?_⟩;obtain ⟨h',tk,acc,c,rfl,rfl,k,hS,hacc⟩:=y;exact wpAny_bind (wpAny_load hS (wpAny_pure (hR h' tk acc k hacc)))
 ·obtain ⟨_,_,_,_,z,_⟩:=x;cases z
end
def sS {r:Addr} {a b:Int} {t u v:Tok} {n:Nat} (hsmall:Builtin.Range.small a b 1=true) (hn:Builtin.Range.rangeSize a b 1=n) (hlen:n<=2^24) :
  Meets (Builtin.«tuple.__new__» ⟨[.type "tuple",.ref r],[]⟩) (fun A R s=>A.handled=none/\IsRange s.heap r a b 1 t u v/\∀ (h':Heap) (tk:Nat) (acc:Array Value),(∀ b o,s.heap.get? b=some o->h'.get? b=some o)->ItemsOf (fun i v=>∃ t,v=.int (a+i*1) t) acc n ->
   R (.ok (.ret (.ref h'.objs.size))) { s with heap:=h'.push { cls:=.type "tuple",data:=.seq acc },toks:=tk }) :=
 .of_wp fun prog w A R s h=>by
  obtain ⟨hh,hr,h⟩:=h;have hsub:=sub_tuple_self;have hinit:=init_tuple_lookup;have hmh:=madeHere_tuple;have hT:s.TypeIs (.ref r) "range":=⟨_,hr,rfl⟩;have hh1:A.in1.handled=none:=hh;have hr':s.heap.get? r=some _:=hr
  wp_walk using AutoSeq1.wpAny_loadPart' hr',wpAny_typeOf hT,oR hh1 hr hsmall hn hlen
  intro h' tk acc hk hacc;show wpAny _ _ (Builtin.Tuple.tupleExact acc.toList.toArray >>= fun v=>ret v) _ _ _;unfold Builtin.Tuple.tupleExact;have hz:acc.toList.toArray.size<=sizeLine:=by rw [Array.toArray_toList,hacc.1,sizeLine_eq];omega
  refine wpAny_bind (wpAny_newObj_type ?_ hz);refine wpAny_pure ⟨_,rfl,?_⟩;rw [Array.toArray_toList];exact h h' tk acc hk hacc
section
variable {prog:Program} {w:World} {A:Around} {E:Value->Shared->Prop} {s:Shared}
def sT {Q:Value->Shared->Prop} {r:Addr} {a b:Int} {t u v:Tok} {n:Nat} (hh:A.handled=none) (hr:IsRange s.heap r a b 1 t u v) (hsmall:Builtin.Range.small a b 1=true) (hn:Builtin.Range.rangeSize a b 1=n) (hlen:n<=2^24)
  (h:∀ (h':Heap) (tk:Nat) (acc:Array Value),(∀ b o,s.heap.get? b=some o->h'.get? b=some o)->ItemsOf (fun i v=>∃ t,v=.int (a+i*1) t) acc n->Q (.ref h'.objs.size) { s with heap:=h'.push { cls:=.type "tuple",data:=.seq acc },toks:=tk }) :
  wpAny (model prog w) A (call (.type "tuple") [.ref r]) Q E s :=
 callType_new PySem.F.called_tuple (by decide) (PySem.F.typeCall_tuple_1 _) (PySem.F.newCall_tuple_1 _) (fun obj=>PySem.F.args_object_init_2 obj _) PySem.F.entry_tuple_new
  (sS (t:=t) (u:=u) (v:=v) hsmall hn hlen) ⟨hh,hr,fun h' tk acc hk hacc=>⟨⟨_,Heap.get?_push_size _ rfl,rfl⟩,h h' tk acc hk hacc⟩⟩
end
end ST

namespace DL
open PySem PySem.Spec PyProof.Rows L2 CI ST
section
variable {X:Cx} {st:Sta} {d:Nat} {v:Evs} {a b:Expr} {p p2 pos pos2:Pos}
def bH7 {ws:List W} {h:aA} {r:W×aA} (e:xTR ws h=some r):∃ i j,ws=[.d (.int i),.d (.int j)]/\dY i j=true/\r=(.d (.tuple (rng i (j - i).toNat)),h):=by
 unfold xTR at e;split at e
 ·obtain ⟨hr,e⟩:=aI e;exact ⟨_,_,rfl,hr,(Option.some.inj e).symm⟩
 ·cases e
def aH9 (S:Snd v) (G:Good X st d) (hh0:(!st.hm)=true) (h1:okC st "tuple"=true) (h2:okC st "range"=true) (hs:aK a=true) (hs2:aK b=true):SE X (.Call (.Name "tuple" p) [.Call (.Name "range" p2) [a,b] [] pos2] [] pos) (xb (aR v st [a,b]) fun ws=>fun _ h=>xTR ws h):=by
 intro κ M δ h s w h' R F e;obtain ⟨ws,hh,e1,e⟩:=aH e;obtain ⟨n1,n2,n3⟩:=dI G h1;refine wpAny_Call_Name_kw (cU (u:=.type "tuple") F R n2 n3 (by decide +kernel) n1 ?_);refine PyProof.Rows.callWith_type1 (jH (by rfl) ?_) rfl rfl;obtain ⟨m1,m2,m3⟩:=dI G h2;refine Call_ (cU (u:=.type "range") F R m2 m3 boot_range m1 (PyProof.Rows.callWith_type1 (thn (bR S G [a,b] pos2 R F e1) fun us s1 ⟨M1,l1,R1,r0⟩=>?_) (bE a hs) (by rw [bE b hs2];rfl)));obtain ⟨i,j,rfl,hr,ep⟩:=bH7 e;cases ep
 ·skip
  obtain ⟨u,v,rfl,r1,r2⟩:=w2 r0;obtain ⟨t1,rfl⟩:=wi.mp r1;obtain ⟨t2,rfl⟩:=wi.mp r2;unfold dY at hr;simp only [Bool.and_eq_true,decide_eq_true_eq] at hr;refine call_range_2 ?_;refine sT (n:=(j - i).toNat) (G.nh hh0) (IsRange.new ..) (small_one (by omega) (by omega) (by omega) (by omega)) (by rw [rangeSize_one];split<;>omega) (by omega) fun h' tk acc k hacc=>?_;have k1:∀ b o,s1.heap.get? b=some o->h'.get? b=some o:=fun b o e=>k b o (Heap.get?_push_of_some _ e);have R2:=R1.kept (t:=tk) k1;have q:=R2.tup (t:=tk) (xs:=rng i (j - i).toNat) (us:=acc.toList) ?_ (by rw [Array.length_toList,hacc.1,sizeLine_eq];omega)
  ·rw [Array.toArray_toList] at q;exact q.go l1
  have gen:∀ (l:List Value) (m:List PyData),l.length=m.length->(∀ (k:Nat) v,l[k]?=some v->∃ x,m[k]?=some x/\Rep X.S M1.Z x v)->Reps' X.S M1 m l:=by
   intro l;induction l with
   | nil=>intro m hm _;rw [List.length_eq_zero_iff.mp hm.symm];exact .nil
   | cons v l ih =>
    intro m hm hv;cases m with
    | nil=>simp at hm
    | cons x m =>
     obtain ⟨x',e1,e2⟩:=hv 0 v rfl;simp at e1;subst e1;exact .cons e2 (ih m (by simpa using hm) fun k v e=>hv (k+1) v (by simpa using e))
  refine gen _ _ (by simp [hacc.1,rng]) fun k v e=>?_;rw [Array.getElem?_toList] at e;obtain ⟨tk,rfl⟩:=hacc.2 k v e;have hk:k < (j - i).toNat:=by have:=(Array.getElem?_eq_some_iff.mp e).1;rw [hacc.1] at this;exact this
  exact ⟨.int (i+k),by simp [rng,hk],rep_i.mpr ⟨tk,by simp⟩⟩
def bH8 (S:Snd v) (G:Good X st d) (hh0:(!st.hm)=true) (h1:okC st "tuple"=true) (h2:okC st "reversed"=true) (hs:aK a=true):SE X (.Call (.Name "tuple" p) [.Call (.Name "reversed" p2) [a] [] pos2] [] pos) (xb (aR v st [a]) fun ws=>fun _ h=>xTV ws h):=by
 intro κ M δ h s w h' R F e;obtain ⟨ws,hh,e1,e⟩:=aH e;obtain ⟨n1,n2,n3⟩:=dI G h1;refine wpAny_Call_Name_kw (cU (u:=.type "tuple") F R n2 n3 (by decide +kernel) n1 ?_);refine PyProof.Rows.callWith_type1 (jH (by rfl) ?_) rfl rfl;refine kA (f:=.type "reversed") S G h2 (by decide +kernel) (.inr ⟨_,rfl⟩) R F e1 fun {M1 us s1} l1 R1 r0=>?_;unfold xTV at e;split at e
 ·cases e;obtain ⟨u,rfl,ru⟩:=w1 r0;obtain ⟨b,vs,n,rfl,ho,hz,rr⟩:=dE (h:=h') R1 ru rfl;refine aA1 (G.nh hh0) (bW ho).isList (by simpa using hz) (pos:=pos) fun h2 tk k=>?_;have q:=(R1.kept (t:=tk) k).tup (t:=tk) (cK6 rr) (by simpa using hz)
  simpa using q.go l1
 ·cases e
end
end DL

namespace ST
open PySem PySem.Spec PyProof.Rows PySem.W
noncomputable def vK {α:Type} (lt:Nat->Nat->Bool):KasT α->α
 | .ret a=>a
 | .ask i j k=>vK lt (k (lt i j))
noncomputable def mT {α:Type} (n:Nat) (lt:Nat->Nat->Bool):KasT α->Bool
 | .ret _=>true
 | .ask i j k=>Nat.blt i n&&(Nat.blt j n&&(!(Nat.beq i j)&&mT n lt (k (lt i j))))
section
variable {n:Nat} {lt:Nat->Nat->Bool} {K:Nat->Int}
def Tr {α:Type} (n:Nat) (lt:Nat->Nat->Bool) (T:KasT α) (G:α->Prop):Prop:=mT n lt T=true/\G (vK lt T)
def Tr.ret {α:Type} {a:α} {G:α->Prop} (h:G a):Tr n lt (.ret a) G:=⟨rfl,h⟩
def Tr.ask {α:Type} {i j:Nat} {k:Bool->KasT α} {G:α->Prop} (hi:i < n) (hj:j < n) (hij:i≠j) (h:Tr n lt (k (lt i j)) G):Tr n lt (.ask i j k) G:=by
 refine ⟨?_,h.2⟩;have e:Nat.beq i j=false:=by rw [<- Bool.not_eq_true,Nat.beq_eq];exact hij
 simp only [mT,Bool.and_eq_true,Nat.blt_eq,e,Bool.not_false,true_and];exact ⟨hi,hj,h.1⟩
theorem Tr.bind {α β:Type} {f:α->KasT β} {G:β->Prop}:∀ {T:KasT α},Tr n lt T (fun a=>Tr n lt (f a) G)->Tr n lt (T.bind f) G
 | .ret a,h=>h.2
 | .ask i j k,h=>by
  obtain ⟨h1,h2⟩:=h;simp only [mT,Bool.and_eq_true,Nat.blt_eq,Bool.not_eq_true'] at h1;obtain ⟨a,b,c,e⟩:=h1;have ij:i≠j:=fun z=>by subst z;rw [Nat.beq_refl] at c;cases c
  exact Tr.ask a b ij (Tr.bind (T:=k (lt i j)) ⟨e,h2⟩)
def Tr.mono {α:Type} {T:KasT α} {G G':α->Prop} (h:Tr n lt T G) (g:∀ a,G a->G' a):Tr n lt T G':=⟨h.1,g _ h.2⟩
structure Pm (n:Nat) (p:Array Nat):Prop where
 sz:p.size=n
 pm:p.toList.Perm (List.range n)
def Pm.les {p:Array Nat} (h:Pm n p) {i:Nat} (hi:i < n):p.getD i 0 < n:=by
 have hi':i < p.size:=by rw [h.sz];exact hi
 have e:p.getD i 0=p[i]:=by simp [Array.getD,hi']
 rw [e];exact List.mem_range.mp (h.pm.mem_iff.mp (Array.getElem_mem_toList hi'))
def Pm.inj {p:Array Nat} (h:Pm n p) {i j:Nat} (hi:i < n) (hj:j < n) (e:p.getD i 0=p.getD j 0):i=j:=by
 have hi':i < p.size:=by rw [h.sz];exact hi
 have hj':j < p.size:=by rw [h.sz];exact hj
 have e1:p.getD i 0=p.toList[i]'(by simpa using hi'):=by simp [Array.getD,hi']
 have e2:p.getD j 0=p.toList[j]'(by simpa using hj'):=by simp [Array.getD,hj']
 have nd:p.toList.Nodup:=h.pm.nodup_iff.mpr List.nodup_range;rw [e1,e2] at e;exact (List.getElem_inj nd).mp e
def Up (K:Nat->Int) (p:Array Nat) (m:Nat):Prop:=∀ i j,i < j->j < m->K (p.getD i 0) < K (p.getD j 0)
def Dn (K:Nat->Int) (p:Array Nat) (m:Nat):Prop:=∀ i j,i < j->j < m->K (p.getD j 0) < K (p.getD i 0)
variable (hK:∀ i j,i < n->j < n->lt i j=decide (K i < K j)) (hI:∀ i j,i < n->j < n->K i=K j->i=j)
include hK hI
def mU {α:Type} {p:Array Nat} (P:Pm n p) {i j:Nat} (hi:i < n) (hj:j < n) (hij:i≠j) {k:Bool->KasT α} {G:α->Prop}
  (h1:K (p.getD i 0) < K (p.getD j 0)->Tr n lt (k true) G) (h2:K (p.getD j 0) < K (p.getD i 0)->Tr n lt (k false) G):Tr n lt (.ask (p.getD i 0) (p.getD j 0) k) G:=by
 refine Tr.ask (P.les hi) (P.les hj) (fun z=>hij (P.inj hi hj z)) ?_;rw [hK _ _ (P.les hi) (P.les hj)]
 by_cases c:K (p.getD i 0) < K (p.getD j 0)
 ·rw [decide_eq_true c];exact h1 c
 ·rw [decide_eq_false c];refine h2 ?_;have:K (p.getD i 0)≠K (p.getD j 0):=fun z=>hij (P.inj hi hj (hI _ _ (P.les hi) (P.les hj) z));omega
omit hK hI in
def aS6 {p:Array Nat} {m:Nat} (h1:1<=m) (u:Up K p m) (h:K (p.getD (m - 1) 0) < K (p.getD m 0)):Up K p (m+1):=fun i j hij hj=>by
 by_cases e:j=m
 ·subst e
  by_cases e2:i=j - 1
  ·rw [e2];exact h
  ·have:=u i (j - 1) (by omega) (by omega);omega
 ·exact u i j hij (by omega)
omit hK hI in
def aS7 {p:Array Nat} {m:Nat} (h1:1<=m) (u:Dn K p m) (h:K (p.getD m 0) < K (p.getD (m - 1) 0)):Dn K p (m+1):=fun i j hij hj=>by
 by_cases e:j=m
 ·subst e
  by_cases e2:i=j - 1
  ·rw [e2];exact h
  ·have:=u i (j - 1) (by omega) (by omega);omega
 ·exact u i j hij (by omega)
theorem vL {p:Array Nat} (P:Pm n p):∀ (f m:Nat),1<=m->m+f=n->Up K p m->Tr n lt (kas_asc p f m) (fun m'=>m<=m'/\m'<=n/\Up K p m'/\(m'=n\/(m' < n/\K (p.getD m' 0) < K (p.getD (m' - 1) 0))))
 | 0,m,h1,hm,u=>Tr.ret ⟨Nat.le_refl m,by omega,u,.inl (by omega)⟩
 | f+1,m,h1,hm,u=>by
  unfold kas_asc;refine mU hK hI P (by omega) (by omega) (by omega) (fun c=>?_) fun c=>?_
  ·exact Tr.ret ⟨Nat.le_refl m,by omega,u,.inr ⟨by omega,c⟩⟩
  ·exact (vL P f (m+1) (by omega) (by omega) (aS6 h1 u c)).mono fun a ⟨a1,a2⟩=>⟨by omega,a2⟩
theorem xN {p:Array Nat} (P:Pm n p):∀ (f m:Nat),1<=m->m+f=n->Dn K p m->Tr n lt (kas_desc f p m 0) (fun r=>r.1=p/\m<=r.2.1/\r.2.1<=n/\r.2.2=0/\Dn K p r.2.1)
 | 0,m,h1,hm,u=>Tr.ret ⟨rfl,Nat.le_refl m,by show m<=n;omega,rfl,u⟩
 | f+1,m,h1,hm,u=>by
  unfold kas_desc;refine mU hK hI P (by omega) (by omega) (by omega) (fun c=>?_) fun c=>?_
  ·exact (xN P f (m+1) (by omega) (by omega) (aS7 h1 u c)).mono fun a ⟨a0,a1,a2⟩=>⟨a0,by omega,a2⟩
  ·refine mU hK hI P (by omega) (by omega) (by omega) (fun c'=>?_) fun c'=>by omega
   exact Tr.ret ⟨rfl,Nat.le_refl m,by show m<=n;omega,rfl,u⟩
omit hK hI in
def aI0 {p:Array Nat} {m:Nat} (hm:m<=p.size) (k:Nat):(kas_rev p 0 m).getD k 0=if k < m then p.getD (m - 1 - k) 0 else p.getD k 0:=by
 have e:=getElem?_mirror_all (xs:=p) (i:=0) (j:=m) hm k;unfold kas_rev;rw [Array.getD_eq_getD_getElem?,e]
 by_cases h:k < m
 ·rw [if_pos ⟨Nat.zero_le _,h⟩,if_pos h,Array.getD_eq_getD_getElem?,Nat.zero_add]
 ·rw [if_neg (fun z=>h z.2),if_neg h,Array.getD_eq_getD_getElem?]
omit hK hI in
def bH9 {p:Array Nat} (P:Pm n p) (m:Nat):Pm n (kas_rev p 0 m):=⟨by unfold kas_rev;rw [mirror_size,P.sz],(mirror_perm p 0 m _).toList.trans P.pm⟩
def aS8 {p:Array Nat} (P:Pm n p) {m:Nat} (h1:1<=m) (hm:m<=n) (u:Dn K p m):Tr n lt (kas_tail3 m n p) (fun r=>Pm n r.2/\1<=r.1/\r.1<=n/\Up K r.2 r.1):=by
 unfold kas_tail3;have P':=bH9 P m;refine Tr.bind ((vL hK hI P' (n - m) m h1 (by omega) fun i j hij hj=>?_).mono fun a ⟨a1,a2,a3,_⟩=>Tr.ret ⟨P',by show 1<=a;omega,a2,a3⟩);rw [aI0 (by rw [P.sz];exact hm),aI0 (by rw [P.sz];exact hm),if_pos (by omega),if_pos hj];exact u _ _ (by omega) (by omega)
def aI1 {p:Array Nat} (P:Pm n p) (h2:2<=n):Tr n lt (kas_count n p) (fun r=>Pm n r.2/\1<=r.1/\r.1<=n/\Up K r.2 r.1):=by
 unfold kas_count;refine Tr.bind ((vL hK hI P (n - 1) 1 (Nat.le_refl 1) (by omega) fun i j hij hj=>by omega).mono fun m ⟨a1,a2,a3,a4⟩=>?_)
 by_cases e:m=n
 ·rw [if_pos (by rw [e];exact beq_self_eq_true n)];exact Tr.ret ⟨P,a1,a2,a3⟩
 ·rw [if_neg (by simpa using e)]
  by_cases e1:m > 1
  ·rw [if_pos e1];have c:=a3 0 (m - 1) (by omega) (by omega);refine mU hK hI P (by omega) (by omega) (by omega) (fun _=>?_) fun c'=>by omega
   exact Tr.ret ⟨P,a1,a2,a3⟩
  ·rw [if_neg e1];have em:m=1:=by omega
   subst em;unfold kas_descPart;have c:K (p.getD 1 0) < K (p.getD 0 0):=by
    rcases a4 with z | z
    ·omega
    ·exact z.2
   refine Tr.bind ((xN hK hI P (n - 2) 2 (by omega) (by omega) fun i j hij hj=>?_).mono fun r ⟨b0,b1,b2,b3,b4⟩=>?_)
   ·have e0:i=0:=by omega
    have e1:j=1:=by omega
    subst e0 e1;exact c
   ·rw [if_neg (by omega),b0];exact aS8 hK hI P (by omega) b2 b4
theorem mW {p:Array Nat} (P:Pm n p) {k:Nat} (hk:k < n) (u:Up K p k):∀ (f l r:Nat),l<=r->r<=k->r - l<=f->(∀ i,i < l->K (p.getD i 0) < K (p.getD k 0))->(∀ i,r<=i->i < k->K (p.getD k 0) < K (p.getD i 0)) ->
  Tr n lt (kas_place p k f l r) (fun a=>a<=k/\(∀ i,i < a->K (p.getD i 0) < K (p.getD k 0))/\∀ i,a<=i->i < k->K (p.getD k 0) < K (p.getD i 0))
 | 0,l,r,h1,h2,h3,hl,hr=>Tr.ret ⟨by omega,hl,fun i hi hik=>hr i (by omega) hik⟩
 | f+1,l,r,h1,h2,h3,hl,hr=>by
  unfold kas_place
  by_cases e:l ≥ r
  ·rw [if_pos e];exact Tr.ret ⟨by omega,hl,fun i hi hik=>hr i (by omega) hik⟩
  ·rw [if_neg e];refine mU hK hI P (by omega) (by omega) (by omega) (fun c=>?_) fun c=>?_
   ·refine mW P hk u f l ((l+r) / 2) (by omega) (by omega) (by omega) hl fun i hi hik=>?_
    by_cases z:i=(l+r) / 2
    ·rw [z];exact c
    ·have:=u ((l+r) / 2) i (by omega) hik;omega
   ·refine mW P hk u f ((l+r) / 2+1) r (by omega) (by omega) (by omega) (fun i hi=>?_) hr
    by_cases z:i=(l+r) / 2
    ·rw [z];exact c
    ·have:=u i ((l+r) / 2) (by omega) (by omega);omega
omit hK hI in
def aI2 {p:Array Nat} {k l:Nat} (hk:k < p.size) (hl:l<=k) (j:Nat):(bubble p k (k - l)).getD j 0=if j=l then p.getD k 0 else if l < j/\j<=k then p.getD (j - 1) 0 else p.getD j 0:=by
 have e:=getElem?_bubble (xs:=p) hk (k - l) (by omega) j;rw [show k - (k - l)=l by omega] at e;simp only [Array.getD_eq_getD_getElem?,e]
 repeat' split
 all_goals rfl
omit hK hI in
def bI0 {p:Array Nat} (P:Pm n p) (k d:Nat):Pm n (bubble p k d):=⟨by rw [bubble_size,P.sz],(bubble_perm p k d).toList.trans P.pm⟩
theorem bin_ok:∀ (f k:Nat) {p:Array Nat},Pm n p->k+f=n->Up K p k->Tr n lt (kas_bin f p k) (fun q=>Pm n q/\Up K q n)
 | 0,k,p,P,hk,u=>Tr.ret ⟨P,fun i j hij hj=>u i j hij (by omega)⟩
 | f+1,k,p,P,hk,u=>by
  unfold kas_bin;have kn:k < n:=by omega
  refine Tr.bind ((mW hK hI P kn u k 0 k (Nat.zero_le k) (Nat.le_refl k) (by omega) (fun i hi=>by omega) fun i hi hik=>by omega).mono fun l ⟨a1,a2,a3⟩=>?_);refine bin_ok f (k+1) (bI0 P k (k - l)) (by omega) fun i j hij hj=>?_;have ks:k < p.size:=by rw [P.sz];exact kn
  rw [aI2 ks a1,aI2 ks a1]
  by_cases i1:i=l
  ·rw [if_pos i1,if_neg (by omega),if_pos (by omega)];exact a3 _ (by omega) (by omega)
  ·rw [if_neg i1]
   by_cases j1:j=l
   ·rw [if_pos j1,if_neg (by omega)];exact a2 _ (by omega)
   ·rw [if_neg j1]
    by_cases i2:l < i/\i<=k
    ·rw [if_pos i2,if_pos (by omega)];exact u _ _ (by omega) (by omega)
    ·rw [if_neg i2]
     by_cases j2:l < j/\j<=k
     ·rw [if_pos j2]
      by_cases z:i=j - 1
      ·omega
      ·exact u _ _ (by omega) (by omega)
     ·rw [if_neg j2];exact u _ _ hij (by omega)
def aS9 (h2:2<=n):Tr n lt (kas_sort n) (fun q=>q.toList.Perm (List.range n)/\q.toList.Pairwise fun i j=>lt i j=true):=by
 have fin:∀ q,Pm n q/\Up K q n->q.toList.Perm (List.range n)/\q.toList.Pairwise fun i j=>lt i j=true:=fun q ⟨P,u⟩=>by
  refine ⟨P.pm,?_⟩;rw [List.pairwise_iff_getElem];intro i j hi hj hij;have sz:q.toList.length=n:=by rw [Array.length_toList];exact P.sz
  have hi':i < q.size:=by rw [P.sz];omega
  have hj':j < q.size:=by rw [P.sz];omega
  have h:=u i j hij (by omega);have e1:q.getD i 0=q.toList[i]:=by simp [Array.getD,hi']
  have e2:q.getD j 0=q.toList[j]:=by simp [Array.getD,hj']
  have l1:=P.les (i:=i) (by omega);have l2:=P.les (i:=j) (by omega);rw [e1] at h l1;rw [e2] at h l2;rw [hK _ _ l1 l2];exact decide_eq_true h
 unfold kas_sort;have P0:Pm n (List.toArray (List.range n)):=⟨by simp,by simp⟩;refine Tr.bind ((aI1 hK hI P0 h2).mono fun r ⟨a0,a1,a2,a3⟩=>?_)
 by_cases e:r.1 < n
 ·rw [if_pos e];exact (bin_ok hK hI _ _ a0 (by omega) (by rw [Nat.max_eq_left a1];exact a3)).mono fin
 ·rw [if_neg e];have:r.1=n:=by omega
  exact Tr.ret (fin _ ⟨a0,by rw [<- this];exact a3⟩)
end
end ST

namespace ST
open PySem PySem.Spec PyProof.Rows PySem.W
theorem aI3 {α:Type} {cmp:Nat->Nat->(Bool->Shared->Prop)->Shared->Prop} {n:Nat} {lt lt':Nat->Nat->Bool} {s:Shared}
  (hc:∀ i j,i < n->j < n->i≠j->∀ C:Bool->Shared->Prop,C (lt i j) s->cmp i j C s) (he:∀ i j,i < n->j < n->lt i j=lt' i j):∀ (T:KasT α) (G:α->Shared->Prop),mT n lt' T=true->G (vK lt' T) s->KasT.kasWp cmp T G s
 | .ret a,G,_,h=>h
 | .ask i j k,G,ht,h=>by
  simp only [mT,Bool.and_eq_true,Nat.blt_eq,Bool.not_eq_true'] at ht;obtain ⟨h1,h2,h3,h4⟩:=ht;refine hc i j h1 h2 (fun z=>by subst z;rw [Nat.beq_refl] at h3;cases h3) _ ?_;rw [he i j h1 h2];exact aI3 hc he (k (lt' i j)) G h4 h
noncomputable def ltK (ks:List Int) (i j:Nat):Bool:=decide (ks.getD i 0 < ks.getD j 0)
def aT1 {ks:List Int} (nd:ks.Nodup) (h2:2<=ks.length):mT ks.length (ltK ks) (kas_sort ks.length)=true /\
  ((vK (ltK ks) (kas_sort ks.length)).toList.Perm (List.range ks.length))/\(vK (ltK ks) (kas_sort ks.length)).toList.Pairwise (fun i j=>ltK ks i j=true) :=
 aS9 (n:=ks.length) (lt:=ltK ks) (K:=fun i=>ks.getD i 0) (fun i j _ _=>rfl) (fun i j hi hj e=>by
  simp only [List.getD_eq_getElem?_getD,hi,hj,List.getElem?_eq_getElem,Option.getD_some] at e;exact (List.getElem_inj nd).mp e) h2
end ST

namespace ST
open PySem PySem.Spec PyProof.Rows PySem.W
section
variable {prog:Program} {w:World} {A:Around} {E:Value->Shared->Prop} {s:Shared}
end
end ST

namespace ST
open PySem PySem.Spec PyProof.Rows PySem.W
def aT2 {α β:Type} {l:List α} {r:List β} {a:α} {b:β} (h:l.length=r.length):(List.range l.length).map (fun i=>(l.getD i a,r.getD i b))=l.zip r:=by
 apply List.ext_getElem
 ·simp [h]
 ·intro i h1 h2;simp at h1 h2;simp [List.getD_eq_getElem?_getD,h1,show i < r.length by omega]
section
variable {prog:Program} {w:World} {A:Around} {E:Value->Shared->Prop} {s:Shared}
theorem aI4 {α β:Type} {F:α->β->Prop}:∀ {l:List α} {r:List β} {i:Nat} {a:α},Paired F l r->l[i]?=some a->∃ b,r[i]?=some b/\F a b
 | _,_,_,_,.nil,e=>by simp at e
 | _,_,0,_,.cons h _,e=>by simp at e;subst e;exact ⟨_,rfl,h⟩
 | _,_,i+1,a,.cons _ t,e=>by
  obtain ⟨b,h1,h2⟩:=aI4 (i:=i) (a:=a) t (by simpa using e);exact ⟨b,by simpa using h1,h2⟩
def pw1 {α:Type} {R:α->α->Prop} {l:List α} (h:l.length < 2):l.Pairwise R:=by
 rcases l with _ | ⟨a,_ | ⟨b,r⟩⟩
 ·exact .nil
 ·exact List.pairwise_singleton _ _
 ·exact absurd h (Nat.not_lt.mpr (Nat.le_add_left 2 _))
end
end ST

namespace ST
open PySem PySem.Spec PyProof.Rows PySem.W
section
variable {prog:Program} {w:World} {A:Around} {E:Value->Shared->Prop} {s:Shared}
end
end ST

namespace ST
open PySem PySem.Spec PyProof.Rows
section
variable {prog:Program} {w:World} {A:Around} {E:Value->Shared->Prop} {s:Shared} {ks:List Int}
def kD {x:Value} {Q:Value->Shared->Prop} {n:Nat} (h64:n < 64)
  (hc:∀ R,(∀ (vs:List Value) (ns:List Int) h' dr tk,IntsAre vs ns->vs.length=n->ns.Perm ks->(∀ b o,s.heap.get? b=some o->h'.get? b=some o)->R vs { s with heap:=h',drawn:=dr,toks:=tk })->wpAny (model prog w) A.in1 (collect x) R E s)
  (h:∀ (a:Addr) (vs:List Value) (ns:List Int) (c:Nat) h' dr tk,IntsAre vs ns->ns.Perm ks->ns.Pairwise (·<=·)->s.heap.get? a=none->h'.get? a=some (seqObj "list" vs.toArray c)->(∀ b o,s.heap.get? b=some o->h'.get? b=some o)->Q (.ref a) { s with heap:=h',drawn:=dr,toks:=tk }) :
  wpAny (model prog w) A (call (.builtin "sorted") [x]) Q E s:=by
 refine Calls.call_function_entry kind_sorted plain_sorted entry_sorted (args_sorted1 _) ?_;unfold Builtin.«sorted»;refine wpAny_bind (m:=checkCount "sorted" 1 1 _) (wpAny_pure (wpAny_bind (hc _ fun vs ns h1 dr tk hi hl hp k1=>?_)));refine wpAny_bind (wpAny_newList ?_ (by rw [hl,sizeLine_eq];omega));have hoL:(h1.push (seqObj "list" vs.toArray 0)).get? h1.objs.size=some (seqObj "list" vs.toArray 0):=Heap.get?_push_size _ rfl;refine wpAny_bind (wpAny_holding (wpAny_call_entry slot_list_sort ⟨_,hoL,rfl⟩ entry_list_sort (list_sort_tree hoL hi (by omega) fun out ns' a1 a2 a3=>⟨_,rfl,?_⟩) (args_list_sort _)));obtain ⟨c,ec⟩:=sortedHeap_at (out:=out) hoL;refine wpAny_pure ⟨_,rfl,h h1.objs.size out.toList ns' c _ dr tk a1 (a2.trans hp) a3 (by cases q:s.heap.get? h1.objs.size with | none=>rfl | some o=>exact absurd (Heap.lt_size (k1 _ o q)) (Nat.lt_irrefl _)) (by rw [Array.toArray_toList];exact ec) fun b o e=>?_⟩;have bl:b < h1.objs.size:=Heap.lt_size (k1 b o e);rw [sortedHeap_old (Nat.ne_of_lt bl) (by rw [size_push'];exact Nat.lt_succ_of_lt bl)];exact Heap.get?_push_of_some _ (k1 b o e)
end
def srt_perm (ns:List Int):(srt ns).Perm ns:=List.mergeSort_perm _ _
def srt_le (ns:List Int):(srt ns).Pairwise (·<=·):=by
 have h:=List.pairwise_mergeSort (le:=fun a b:Int=>decide (a<=b)) (fun a b c h1 h2=>by simp at *;omega) (fun a b=>by simp;omega) ns;exact h.imp fun h=>by simpa using h
def mX {a ns:List Int} (p:a.Perm ns) (o:a.Pairwise (·<=·)):a=srt ns:=(p.trans (srt_perm ns).symm).eq_of_pairwise (fun a b _ _ h1 h2=>Int.le_antisymm h1 h2) o (srt_le ns)
end ST
namespace DL
open PySem PySem.Spec PyProof.Rows L2 CI ST
theorem lO {S:Sx} {Z:Zm}:∀ {xs:List PyData} {ns:List Int} {us:List Value},bZ xs=some ns->Paired (Rep S Z) xs us->IntsAre us ns
 | [],_,_,e,r=>by cases e;cases r;exact .nil
 | x::xs,_,_,e,r=>by
  cases r with
  | cons a b =>
   cases x<;>first | cases e;done | skip
   obtain ⟨ns,e1,rfl⟩:=map_some (show (bZ xs).map _=_ from e);obtain ⟨t,rfl⟩:=rep_i.mp a;exact .cons _ _ (lO e1 b)
theorem gQ {S:Sx} {Z:Zm}:∀ {ns:List Int} {vs:List Value},IntsAre vs ns->Paired (Rep S Z) (ns.map .int) vs
 | _,_,.nil=>.nil
 | _,_,.cons n t h=>.cons (rep_i.mpr ⟨t,rfl⟩) (gQ h)
def Mem.dr {S:Sx} {κ:Kp} {M:Mp} {h:aA} {s:Shared} (R:Mem S κ M h s) (h':Heap) (d:Drawn) (t:Nat) (k:∀ b o,s.heap.get? b=some o->h'.get? b=some o):Mem S κ M h { s with heap:=h',drawn:=d,toks:=t }:=R.keep (fun b o e _=>k b o e) R.bare rfl
end DL

namespace ST
open PySem PySem.Spec PyProof.Rows PySem.W
open PySem.SeqAt
def bI1 (l b:Addr) (us vs:Array Value) (n m:Nat) (x y:Int) (tx ty:Tok) (hx:us[0]?=some (.int x tx)) (hy:vs[0]?=some (.int y ty)) (ne:x≠y) :
  Meets (Builtin.«tuple.__lt__» ⟨[.ref l,.ref b],[]⟩) (fun A R s=>s.heap.get? l=some { cls:=.type "tuple",data:=.seq us n }/\s.heap.get? b=some { cls:=.type "tuple",data:=.seq vs m }/\R (.ok (.ret (.bool (decide (x < y))))) s) :=
 .of_wp fun prog w A R s h=>by
  obtain ⟨hp,g,d,tk,os⟩:=s;obtain ⟨hl,hb,h⟩:=h;have f2:=AutoSeq1.sub_tuple_tuple;have ez:us.toList.zip vs.toList=(.int x tx,.int y ty)::(us.toList.zip vs.toList).tail:=by
   rw [<- Array.getElem?_toList] at hx hy;cases e1:us.toList with
   | nil=>rw [e1] at hx;cases hx
   | cons a r =>
    cases e2:vs.toList with
    | nil=>rw [e2] at hy;cases hy
    | cons c q =>
     rw [e1] at hx;rw [e2] at hy;cases hx;cases hy;rfl
  have hne:(x==y)=false:=beq_eq_false_iff_ne.mpr ne
  wp_walk using AutoSeq1.wpAny_loadPart' hl,AutoSeq1.wpAny_loadPart' hb,wpAny_forIn_list _ (fun rest b s'=>b.1=none/\s'=⟨hp,g,d,tk,os⟩/\rest=us.toList.zip vs.toList) _
  case turn =>
   rintro ⟨p,q⟩ rest b s' ⟨hb',rfl,hz⟩;rw [ez] at hz;injection hz with h1 h2
   cases h1;refine wpAny_bind (wpAny_eqBool_int ?_);rw [hne];refine wpAny_ite_split (fun _=>?_) (fun z=>absurd rfl z);dsimp only;refine wpAny_bind (wpAny_rule ?_);refine wpAny_bind (lt_int (a:=x) (b:=y) ?_)
   wp_walk
   exact ⟨_,rfl,h⟩
  case fin =>
   rintro ⟨b1,b2⟩ s' ⟨_,_,hz⟩;rw [ez] at hz;cases hz
  case h=>exact ⟨rfl,rfl,rfl⟩
section
variable {prog:Program} {w:World} {A:Around} {E:Value->Shared->Prop} {s:Shared}
def aA2 (h:Heap) (k:Int) (B:Addr):Prop:=∃ (xs:Array Value) (m:Nat) (ns:List Int),h.get? B=some { cls:=.type "tuple",data:=.seq xs m }/\IntsAre xs.toList (k::ns)
theorem jI:∀ {vs:List Value} {ns:List Int} (j:Nat) (v:Value),IntsAre vs ns->vs[j]?=some v->∃ i t,ns[j]?=some i/\v=.int i t
 | _,_,_,_,.nil,e=>by simp at e
 | _,_,0,v,.cons i t _,e=>by simp at e;exact ⟨i,t,rfl,e.symm⟩
 | _,_,j+1,v,.cons i t h,e=>by
  obtain ⟨i',t',e1,e2⟩:=jI j v h (by simpa using e);exact ⟨i',t',by simpa using e1,e2⟩
def sU {h:Heap} {k:Int} {B:Addr} (x:aA2 h k B):∃ xs m t,h.get? B=some { cls:=.type "tuple",data:=.seq xs m }/\xs[0]?=some (.int k t):=by
 obtain ⟨xs,m,ns,e,hi⟩:=x;have hl:=hi.length;have:0 < xs.size:=by rw [<- Array.length_toList,hl];simp
 obtain ⟨i,t,e1,e2⟩:=jI 0 _ hi (by rw [Array.getElem?_toList];exact Array.getElem?_eq_getElem this);cases e1;exact ⟨xs,m,t,e,by rw [Array.getElem?_eq_getElem this,e2]⟩
def bV4 {x y:Int} {B C:Addr} {Q:Value->Shared->Prop} (hx:aA2 s.heap x B) (hy:aA2 s.heap y C) (ne:x≠y) (hu:A.units < cLine) (h:Q (.bool (decide (x < y))) s):wpAny (model prog w) A (compareOp .Lt (.ref B) (.ref C)) Q E s:=by
 obtain ⟨us,n,t,e1,e2⟩:=sU hx;obtain ⟨vs,m,t',g1,g2⟩:=sU hy;exact cmp_ofLt (richCompare_meets_room (op:=.Lt) ⟨_,e1,rfl⟩ ⟨_,g1,rfl⟩ PySem.F.slot_tuple_lt PySem.F.entry_tuple_lt (PySem.F.args_tuple_lt_2 _ _) (bI1 B C us vs n m x y t t' e2 g2 ne) ⟨e1,g1,show Value.bool (decide (x < y))≠Value.notImplemented/\Q (.bool (decide (x < y))) s from ⟨(fun x=>nomatch x),h⟩⟩ hu)
def bV5 {x y:Int} {B C:Addr} {Q:Bool->Shared->Prop} (hx:aA2 s.heap x B) (hy:aA2 s.heap y C) (ne:x≠y) (hu:A.units < cLine) (h:Q false s):wpAny (model prog w) A (eqBool (.ref B) (.ref C)) Q E s:=by
 obtain ⟨us,n,is,e1,e2⟩:=hx;obtain ⟨vs,m,js,g1,g2⟩:=hy;have hne:B≠C:=fun z=>by
  subst z;rw [e1] at g1;cases g1;generalize us.toList=l at e2 g2;cases e2;cases g2;exact ne rfl
 have hl:=e2.length;have hl2:=g2.length;rw [Array.length_toList] at hl hl2;refine EqAt.of_refs hne (RcAt.tuples (e:=fun j=>(x::is)[j]?.getD 0==(y::js)[j]?.getD 0) ⟨_,e1,rfl,n,rfl⟩ ⟨_,g1,rfl,m,rfl⟩ hu fun j h1 h2=>?_) prog w E Q ?_
 ·obtain ⟨i,t,q1,q2⟩:=jI j _ e2 (by rw [Array.getElem?_toList];exact Array.getElem?_eq_getElem h1);obtain ⟨i',t',q3,q4⟩:=jI j _ g2 (by rw [Array.getElem?_toList];exact Array.getElem?_eq_getElem h2);rw [q2,q4,q1,q3];exact (MeetsSeq.EqGives.int i i' t t').at _ _
 ·have:(List.range (min us.size vs.size)).all (fun j=>(x::is)[j]?.getD 0==(y::js)[j]?.getD 0)=false:=by
   rw [List.all_eq_false];refine ⟨0,by rw [List.mem_range,hl,hl2];simp,?_⟩
   simpa using ne
  rw [this];exact h
end
end ST

namespace ST
open PySem PySem.Spec PyProof.Rows PySem.W
section
variable {prog:Program} {w:World} {A:Around} {E:Value->Shared->Prop} {s:Shared}
def mY (h:Heap) (k:Int) (u:Value):Prop:=∃ (A B:Addr) (o:Obj) (n:Nat) (c:Value),u=.ref A/\h.get? A=some o/\o.cls=.type "tuple"/\o.data=.seq #[.ref B,c] n/\aA2 h k B
def bV6 {x y:Int} {u v:Value} {C:Bool->Shared->Prop} (hx:mY s.heap x u) (hy:mY s.heap y v) (ne:x≠y) (hu:A.units+2 < cLine) (h:C (decide (x < y)) s):wpAny (model prog w) A (keyLt' (tuples' false) u v) C E s:=by
 obtain ⟨X,B,o,n,c,rfl,h1,h2,h3,k1⟩:=hx;obtain ⟨X',B',o',n',c',rfl,g1,g2,g3,k2⟩:=hy;refine kat_lt h1 h3 g1 g3 ?_;show KatLex prog w A false false C [(.ref B,.ref B'),(c,c')] 0 s;refine kat_cons (bV5 k1 k2 ne (by omega) ?_);exact kat_no (kat_one _ _ (bV4 k1 k2 ne (by omega) h))
theorem xO {h:Heap}:∀ {ks:List Int} {us:List Value},Paired (mY h) ks us->∃ fs,KatTups h us fs/\fs.length=us.length/\∀ v∈fs,∃ B o,v=.ref B/\h.get? B=some o/\o.cls=.type "tuple"
 | _,_,.nil=>⟨[],.nil,rfl,fun v hv=>nomatch hv⟩
 | _,_,.cons k r=>by
  obtain ⟨X,B,o,n,c,rfl,h1,h2,h3,xs,m,ns,h4,_⟩:=k;obtain ⟨fs,q,l,e⟩:=xO r;refine ⟨.ref B::fs,.cons h1 h2 h3 rfl q,by simp [l],fun v hv=>?_⟩;rcases List.mem_cons.mp hv with rfl | hv
  ·exact ⟨_,_,rfl,h4,rfl⟩
  ·exact e v hv
def bB2 {h h':Heap} {a:Addr} {x:Obj} (hx:h.get? a=some x) (hc:x.cls≠.type "tuple") (k:∀ b o,b≠a->h.get? b=some o->h'.get? b=some o) {ks:List Int} {us:List Value} (p:Paired (mY h) ks us):Paired (mY h') ks us:=by
 have kk:∀ b o,h.get? b=some o->o.cls=.type "tuple"->h'.get? b=some o:=fun b o e c=>k b o (fun z=>by subst z;rw [hx] at e;cases e;exact hc c) e;induction p with
 | nil=>exact .nil
 | cons q _ ih =>
  obtain ⟨X,B,o,n,c,rfl,h1,h2,h3,xs,m,ns,h4,h5⟩:=q;exact .cons ⟨X,B,o,n,c,rfl,kk _ _ h1 h2,h2,h3,xs,m,ns,kk _ _ h4 rfl,h5⟩ ih
def vM (a:Addr) (n1:Nat) (st:SortSt):Sem PySem.Fin:=do
    let __do_lift <- seqEpoch a
    have touched:Bool:=__do_lift != n1
    Builtin.List.listUpdate (Value.ref a) fun x=>Array.map (fun x=>x.snd) (arrOf st)
    have __do_jp:Unit->Sem PySem.Fin:=fun __r =>
     have __do_jp:=fun __r=>ret Value.none;
     if touched=true then do
      rule "list.sort.modified"
      let __r <- raiseErrorWords "ValueError" "list modified during sort"
      __do_jp __r
     else __do_jp ()
    match failedOf st with
     | some e=>do
      rule "list.sort.comparison-raised"
      let __r <- throw e
      __do_jp __r
     | x=>__do_jp ()
def aI5 {a:Addr} {us:List Value} {ks:List Int} {n:Nat} {P:PySem.Fin->Shared->Prop} (hl:s.heap.get? a=some (seqObj "list" us.toArray n)) (K:Paired (mY s.heap) ks us) (nd:ks.Nodup) (hu:A.units+20 < cLine) (h64:us.length < 64)
  (h:∀ ps:List (Int×Value),ps.Perm (ks.zip us)->ps.Pairwise (fun p q=>p.1<=q.1)->P (.done (.ret .none)) { s with heap:=sortedHeap s.heap a us (ps.map (·.2)).toArray }) :
  wpAny (model prog w) A (Builtin.«list.sort» { pos:=[.ref a] }) P E s:=by
 have hal:a < s.heap.objs.size:=Heap.lt_size hl;have kl:ks.length=us.length:=K.length;have zl:sizeLine=16777216:=sizeLine_eq;rw [list_sort_plain];refine wpAny_bind (listItems_at hl rfl ?_);refine wpAny_bind (listUpdate_at hl rfl ?_ (by simp;omega) (by simp));obtain ⟨n1,g1⟩:∃ n1,(s.heap.update a (Obj.mapSeq fun _=>#[])).get? a=some (seqObj "list" #[] n1):=⟨_,Heap.get?_update_self _ hl rfl⟩;have k1:Paired (mY (s.heap.update a (Obj.mapSeq fun _=>#[]))) ks us:=bB2 hl (by simp [seqObj]) (fun b o nb q=>Heap.get?_update_of_ne _ (fun z=>nb z.symm) q) K;have hs1:(s.heap.update a (Obj.mapSeq fun _=>#[])).objs.size=s.heap.objs.size:=Heap.size_update _ _ _;unfold sortedHeap at h;generalize s.heap.update a (Obj.mapSeq fun _=>#[])=h1 at g1 k1 hs1 h;refine wpAny_bind (seqEpoch_at g1 rfl ?_);refine wpAny_bind (wpAny_newTuple ?_ (by simp;omega));refine wpAny_bind (wpAny_newList ?_ (by simp));have g2:((h1.push (seqObj "tuple" us.toArray 0)).push (seqObj "list" #[] 0)).get? a=some (seqObj "list" #[] n1):=Heap.get?_push_of_some _ (Heap.get?_push_of_some _ g1);have k2:Paired (mY ((h1.push (seqObj "tuple" us.toArray 0)).push (seqObj "list" #[] 0))) ks us:=bB2 g1 (by simp [seqObj]) (fun b o _ q=>Heap.get?_push_of_some _ (Heap.get?_push_of_some _ q)) k1;simp only [List.toList_toArray] at *;show wpAny _ _ (holding _ _) _ _ { s with heap:=(h1.push (seqObj "tuple" us.toArray 0)).push (seqObj "list" #[] 0) };generalize (h1.push (seqObj "tuple" us.toArray 0)).push (seqObj "list" #[] 0)=h2 at g2 k2 h;refine wpAny_holding ?_;have fin:∀ (ps:List (Int×Value)),ps.Perm (ks.zip us)->ps.Pairwise (fun p q=>p.1<=q.1)->∀ st:SortSt,failedOf st=none->Array.map (fun x=>x.snd) (arrOf st)=(ps.map (·.2)).toArray->wpAny (model prog w) A (vM a n1 st) P E { s with heap:=h2 }:=fun ps hp hs st hf ha=>by
  have lp:=hp.length_eq;rw [List.length_zip] at lp;unfold vM;refine wpAny_bind (seqEpoch_at g2 rfl ?_);rw [ha];refine wpAny_bind (listUpdate_at g2 rfl ?_ (by simp) (by simp;omega));rw [hf];simp only [bne_self_eq_false,Bool.false_eq_true,if_false];exact wpAny_pure (h ps hp hs)
 have sz:us.toArray.size=us.length:=by simp
 by_cases h2l:us.length < 2
 ·rw [if_pos (by rw [sz];exact h2l),if_pos (by rw [sz];exact h2l)];refine wpAny_bind (wpAny_pure ?_);refine wpAny_bind (m:=StateT.run (pure ()) _) (wpAny_pure ?_);refine fin (ks.zip us) (.refl _) (pw1 (by rw [List.length_zip];omega)) _ rfl ?_;show Array.map (fun x=>x.snd) (us.toArray.zip us.toArray)=_;rw [List.map_snd_zip (by omega)];apply Array.ext
  ·simp
  ·intro i h1 h2;simp
 ·rw [if_neg (by rw [sz];exact h2l),if_neg (by rw [sz];exact h2l)];obtain ⟨fs,kt,fl,fi⟩:=xO k2;refine wpAny_bind (kat_kind (s:={ s with heap:=h2 }) (T:=.type "tuple") kt (by omega) (fun v hv=>?_) (by decide) ?_)
  ·obtain ⟨B,o,rfl,e1,e2⟩:=fi v hv;exact fun A Q E s hs q=>wpAny_typeOf (T:="tuple") ⟨o,hs _ _ e1,e2⟩ q
  ·obtain ⟨z1,z3,z4⟩:=aT1 nd (by omega);rw [kl] at z1 z3 z4;refine wpAny_bind (kat_run (Q:=fun st s'=>wpAny (model prog w) A (vM a n1 st) P E s') (vs:=us) (ks:=us) (G:=fun p s'=>p=vK (ltK ks) (kas_sort us.length)/\s'={ s with heap:=h2 }) rfl (by omega) (by omega) ?_ ?_)
   ·rintro p st s' hp ha hf ⟨rfl,rfl⟩;refine fin ((vK (ltK ks) (kas_sort us.length)).toList.map fun i=>(ks.getD i 0,us.getD i Value.none)) ?_ ?_ st hf ?_
    ·refine (z3.map _).trans ?_;rw [<- kl,aT2 kl]
    ·rw [List.pairwise_map];refine z4.imp fun {i j} hz=>?_;unfold ltK at hz;exact Int.le_of_lt (of_decide_eq_true hz)
    ·rw [kat_snds rfl ha];simp [Function.comp_def]
   ·refine aI3 (s:={ s with heap:=h2 }) (lt:=ltK ks) (fun i j hi hj hij C hC=>?_) (fun _ _ _ _=>rfl) _ _ z1 ⟨rfl,rfl⟩;have hi':i < ks.length:=by rw [kl];exact hi
    have hj':j < ks.length:=by rw [kl];exact hj
    obtain ⟨u,eu,ku⟩:=aI4 k2 (List.getElem?_eq_getElem hi');obtain ⟨v,ev,kv⟩:=aI4 k2 (List.getElem?_eq_getElem hj');unfold kas_ask;have e1:us.getD i .none=u:=by rw [List.getD_eq_getElem?_getD,eu];rfl
    have e2:us.getD j .none=v:=by rw [List.getD_eq_getElem?_getD,ev];rfl
    rw [e1,e2];refine bV6 (s:={ s with heap:=h2 }) ku kv (fun z=>hij ((List.getElem_inj nd).mp z)) (by omega) ?_;have e3:ltK ks i j=decide (ks[i] < ks[j]):=by
     unfold ltK;rw [List.getD_eq_getElem?_getD,List.getD_eq_getElem?_getD,List.getElem?_eq_getElem hi',List.getElem?_eq_getElem hj'];rfl
    rw [<- e3];exact hC
def vN {x:Value} {us:List Value} {ks:List Int} {Q:Value->Shared->Prop} (nd:ks.Nodup) (hu:A.units+40 < cLine) (h64:us.length < 64) (K:Paired (mY s.heap) ks us)
  (hc:∀ R:List Value->Shared->Prop,(∀ h',(∀ b o,s.heap.get? b=some o->h'.get? b=some o)->R us { s with heap:=h' })->wpAny (model prog w) A.in1 (collect x) R E s)
  (h:∀ (a:Addr) (ps:List (Int×Value)) (c:Nat) h',ps.Perm (ks.zip us)->ps.Pairwise (fun p q=>p.1<=q.1)->s.heap.get? a=none->h'.get? a=some (seqObj "list" (ps.map (·.2)).toArray c)->(∀ b o,s.heap.get? b=some o->h'.get? b=some o)->Q (.ref a) { s with heap:=h' }) :
  wpAny (model prog w) A (call (.builtin "sorted") [x]) Q E s:=by
 refine Calls.call_function_entry kind_sorted plain_sorted entry_sorted (args_sorted1 _) ?_;unfold Builtin.«sorted»;refine wpAny_bind (m:=checkCount "sorted" 1 1 _) (wpAny_pure (wpAny_bind (hc _ fun h1 k1=>?_)));refine wpAny_bind (wpAny_newList ?_ (by rw [sizeLine_eq];omega));have hoL:(h1.push (seqObj "list" us.toArray 0)).get? h1.objs.size=some (seqObj "list" us.toArray 0):=Heap.get?_push_size _ rfl;have K1:Paired (mY (h1.push (seqObj "list" us.toArray 0))) ks us:=Paired.mono (fun _ _ ⟨X,B,o,n,c,e,g,c1,c2,xs,m,ns,g2,r⟩=>⟨X,B,o,n,c,e,Heap.get?_push_of_some _ (k1 _ _ g),c1,c2,xs,m,ns,Heap.get?_push_of_some _ (k1 _ _ g2),r⟩) K;refine wpAny_bind (wpAny_holding (wpAny_call_entry slot_list_sort ⟨_,hoL,rfl⟩ entry_list_sort (aI5 hoL K1 nd (by simp only [units_in1];omega) h64 fun ps a1 a2=>⟨_,rfl,?_⟩) (args_list_sort _)));obtain ⟨c,ec⟩:=sortedHeap_at (out:=(ps.map (·.2)).toArray) hoL;refine wpAny_pure ⟨_,rfl,h h1.objs.size ps c _ a1 a2 (by cases q:s.heap.get? h1.objs.size with | none=>rfl | some o=>exact absurd (Heap.lt_size (k1 _ o q)) (Nat.lt_irrefl _)) ec fun b o e=>?_⟩;have bl:b < h1.objs.size:=Heap.lt_size (k1 b o e);rw [sortedHeap_old (Nat.ne_of_lt bl) (by rw [size_push'];exact Nat.lt_succ_of_lt bl)];exact Heap.get?_push_of_some _ (k1 b o e)
end
end ST

namespace DL
open PySem PySem.Spec PyProof.Rows L2 CI ST
theorem xP {α:Type}:∀ {l:List (Int×α)},(l.map (·.1)).Nodup->∀ a∈l,∀ b∈l,a.1=b.1->a=b
 | [],_,_,h,_,_,_=>nomatch h
 | x::l,nd,a,ha,b,hb,e=>by
  rw [List.map_cons,List.nodup_cons] at nd;rcases List.mem_cons.mp ha with q1 | q1
  ·rcases List.mem_cons.mp hb with q2 | q2
   ·rw [q1,q2]
   ·exact (nd.1 (by rw [<- q1,e];exact List.mem_map_of_mem q2)).elim
  ·rcases List.mem_cons.mp hb with q2 | q2
   ·exact (nd.1 (by rw [<- q2,<- e];exact List.mem_map_of_mem q1)).elim
   ·exact xP nd.2 a q1 b q2 e
noncomputable def dsc {α:Type} (l:List (Int×α)):List (Int×α):=l.mergeSort fun a b=>decide (b.1<=a.1)
def mZ {α:Type} (l:List (Int×α)):(dsc l).Perm l:=List.mergeSort_perm _ _
def aI6 {α:Type} (l:List (Int×α)):(dsc l).Pairwise fun a b=>b.1<=a.1:=by
 have h:=List.pairwise_mergeSort (le:=fun a b:Int×α=>decide (b.1<=a.1)) (fun a b c h1 h2=>by simp at *;omega) (fun a b=>by simp;omega) l;exact h.imp fun h=>by simpa using h
def nB {α:Type} {l ps:List (Int×α)} (nd:(l.map (·.1)).Nodup) (p:ps.Perm l) (o:ps.Pairwise fun a b=>b.1<=a.1):ps=dsc l :=
 (p.trans (mZ l).symm).eq_of_pairwise (fun a b ha hb h1 h2=>xP nd a (p.mem_iff.mp ha) b ((mZ l).mem_iff.mp hb) (Int.le_antisymm h2 h1)) o (aI6 l)
def qY {α:Type} {ks:List Int} {r:List α} (h:ks.length<=r.length):(ks.zip r).map (·.1)=ks:=List.map_fst_zip h
def aT3 {α β:Type} {F:α->β->Prop} {ks:List Int} {xs:List α} {vs:List β} (nd:ks.Nodup) (hl:ks.length=xs.length) (r:Paired F xs vs):Paired F ((dsc (ks.zip xs)).map (·.2)) ((dsc (ks.zip vs)).map (·.2)):=by
 have hv:=r.length;have pz:∀ {xs:List α} {vs:List β},Paired F xs vs->∀ t∈xs.zip vs,F t.1 t.2:=by
  intro xs vs r;induction r with
  | nil=>intro t h;simp at h
  | cons a _ ih =>
   intro t h;rw [List.zip_cons_cons] at h;rcases List.mem_cons.mp h with rfl | h
   ·exact a
   ·exact ih t h
 have e1:(ks.zip (xs.zip vs)).map (fun t=>(t.1,t.2.1))=ks.zip xs:=by
  apply List.ext_getElem
  ·simp;omega
  ·intro i h1 h2;simp
 have e2:(ks.zip (xs.zip vs)).map (fun t=>(t.1,t.2.2))=ks.zip vs:=by
  apply List.ext_getElem
  ·simp;omega
  ·intro i h1 h2;simp
 have p:=mZ (ks.zip (xs.zip vs));have o:=aI6 (ks.zip (xs.zip vs));have f1:(dsc (ks.zip (xs.zip vs))).map (fun t=>(t.1,t.2.1))=dsc (ks.zip xs):=nB (by rw [qY (by omega)];exact nd) (by rw [<- e1];exact p.map _) (by rw [List.pairwise_map];exact o);have f2:(dsc (ks.zip (xs.zip vs))).map (fun t=>(t.1,t.2.2))=dsc (ks.zip vs):=nB (by rw [qY (by omega)];exact nd) (by rw [<- e2];exact p.map _) (by rw [List.pairwise_map];exact o);rw [<- f1,<- f2,List.map_map,List.map_map];have all:∀ t∈dsc (ks.zip (xs.zip vs)),F t.2.1 t.2.2:=fun t ht=>pz r t.2 (List.of_mem_zip (show (t.1,t.2)∈_ from p.mem_iff.mp ht)).2;generalize dsc (ks.zip (xs.zip vs))=l at all;induction l with
 | nil=>exact .nil
 | cons t l ih=>exact .cons (all t List.mem_cons_self) (ih fun t h=>all t (List.mem_cons_of_mem _ h))
end DL

namespace ST
open PySem PySem.Spec PyProof.Rows
section
variable {prog:Program} {w:World} {A:Around} {E:Value->Shared->Prop} {s:Shared} {T:String} {r d:Addr} {n:Nat} {P:Nat->Value->Prop} {OK:Heap->Prop}
def sV (K:PySem.W.KdlSrc prog w T r d n P OK) (hh:A.handled=none) (hok:OK s.heap) (hn:n<=sizeLine) {R:List Value->Shared->Prop}
  (h:∀ (vs:List Value) h' tk,vs.length=n->(∀ j v,vs[j]?=some v->P j v)->(∀ b o,s.heap.get? b=some o->h'.get? b=some o)->R vs { s with heap:=h',toks:=tk }):wpAny (model prog w) A (collect (.ref r)) R E s:=by
 have hlt:=K.there _ hok;have ok1:OK (s.heap.push { cls:=.type "list",data:=.seq ([]:List Value).toArray }):=K.keep _ _ hok fun b _ o e=>Heap.get?_push_of_some _ e;have hS:(s.heap.push { cls:=.type "list",data:=.seq ([]:List Value).toArray }).get? s.heap.objs.size=some { cls:=.type "list",data:=.seq #[] }:=Heap.get?_push_size _ rfl;unfold collect;refine wpAny_bind (wpAny_runValue (codeAny_builtin PySem.F.entry_proto_collect ?_));rw [Around.under_plainId PySem.F.plain_proto_collect _];refine wpAny_bind (wpAny_newObj_type (wpAny_pure ⟨plainId_quiet PySem.F.plain_list_iadd _,codeAny_builtin PySem.F.entry_list_iadd ?_⟩));rw [Around.under_plainId PySem.F.plain_list_iadd _];show wpAny _ _ (Builtin.List.listExtendWith (.ref s.heap.objs.size) (.ref r) (.ref s.heap.objs.size)) _ _ _;refine wpAny_mono (PySem.W.kdl_extend (R:=fun r s'=>r=.ok (.ret (.ref s.heap.objs.size))/\wpAny (model prog w) A (do
      let o <- load s.heap.objs.size
      match o.data with
      | .seq xs _=>pure xs.toList
      | _=>unsupported "internal:collect") R E s') (s:={ s with heap:=s.heap.push { cls:=.type "list",data:=.seq ([]:List Value).toArray } }) (A:=A) K hh ok1 s.heap.objs.size (Nat.ne_of_gt hlt.1) (Nat.ne_of_gt hlt.2) (.ref s.heap.objs.size) 0 hS (fun h' tk acc c k hD hacc=>?_) hn) (fun fin s' q=>?_) fun e s' q=>nomatch q.1
 ·refine ⟨rfl,wpAny_bind (wpAny_load hD (wpAny_pure ?_))⟩;exact h acc.toList h' tk (by rw [Array.length_toList];exact hacc.1) (fun j v e=>hacc.2 j v (by rw [<- Array.getElem?_toList];exact e)) fun b o e=>k b o (Nat.ne_of_lt (Heap.lt_size e)) (Heap.get?_push_of_some _ e)
 ·cases fin with
  | done f =>
   obtain ⟨q1,q2⟩:=q;cases q1;exact q2
  | again c' =>
   refine ⟨q.1,codeAny_mono q.2 fun r s' hr=>?_⟩;obtain ⟨rfl,q2⟩:=hr;exact q2
theorem xQ:∀ {vs:List Value} {ks:List Int},vs.length=ks.length->(∀ (j:Nat) (v:Value),vs[j]?=some v->∃ k t,ks[j]?=some k/\v=Value.int k t)->IntsAre vs ks
 | [],[],_,_=>.nil
 | v::vs,k::ks,hl,h=>by
  obtain ⟨k',t,e,rfl⟩:=h 0 v rfl;cases e;exact .cons _ _ (xQ (by simpa using hl) fun j u e=>h (j+1) u (by simpa using e))
 | [],_::_,hl,_=>by cases hl
 | _::_,[],hl,_=>by cases hl
def vO (K:PySem.W.KdlSrc prog w T r d n P OK) (hh:A.handled=none) (hok:OK s.heap) (h64:n < 64) {ks:List Int} (hk:ks.length=n) (hP:∀ i v,P i v->∃ k t,ks[i]?=some k/\v=Value.int k t) {Q:Value->Shared->Prop}
  (h:∀ (a:Addr) (vs:List Value) (ns:List Int) (c:Nat) h' dr tk,IntsAre vs ns->ns.Perm ks->ns.Pairwise (·<=·)->s.heap.get? a=none->h'.get? a=some (seqObj "list" vs.toArray c)->(∀ b o,s.heap.get? b=some o->h'.get? b=some o)->Q (.ref a) { s with heap:=h',drawn:=dr,toks:=tk }) :
  wpAny (model prog w) A (call (.builtin "sorted") [.ref r]) Q E s :=
 kD (n:=n) h64 (fun R hR=>sV (A:=A.in1) K (by simp [hh]) hok (by rw [sizeLine_eq];omega) fun vs h' tk hl hp k=>hR vs ks h' s.drawn tk (xQ (by omega) fun j v e=>hP j v (hp j v e)) hl (.refl _) k) h
end
end ST
namespace DL
open PySem PySem.Spec PyProof.Rows L2 CI ST
def aT4 {S:Sx} {M:Mp} {kvs:List (PyData×W)} {vs:List (Key×Value)} (r:RepKW S M kvs vs):∀ {ks:List Int},bZ (kvs.map (·.1))=some ks->vs.map (·.1)=ks.map Sum.inl:=by
 induction r with
 | nil=>intro ks e;cases e;rfl
 | @cons p q ps qs h _ ih =>
  intro ks e;obtain ⟨p1,p2⟩:=p;obtain ⟨q1,q2⟩:=q;cases p1<;>first | cases e;done | skip
  obtain ⟨ns,e1,rfl⟩:=map_some (show (bZ (ps.map (·.1))).map _=_ from e);rw [List.map_cons,List.map_cons,ih e1];have h1:=h.1;cases h1;rfl
def aT5 {S:Sx} {k:Int} {v:Value} (h:(cM S.P S.w).is (.inl k) v=true):∃ t,v=.int k t:=by
 rcases keyIs_shape (show keyIs (.inl k) v=true from h) with ⟨i,t,e,rfl⟩ | ⟨x,t,e,_⟩
 ·cases e;exact ⟨t,rfl⟩
 ·cases e
end DL

namespace DL
open PySem PySem.Spec PyProof.Rows L2 CI ST
theorem xR:∀ {zs:List PyData} {ks:List Int},aQ4 zs=some ks->zs.length=ks.length
 | [],_,e=>by cases e;rfl
 | z::zs,_,e=>by
  obtain ⟨k,e1,e⟩:=bind_some (show ((prS z).map (·.1)).bind _=_ from e);obtain ⟨ks,e2,rfl⟩:=map_some e;simp [xR e2]
theorem aI7 {S:Sx} {Z:Zm} {hp:Heap} (hz:∀ a o,Z a=some o->hp.get? a=some o):∀ {zs:List PyData} {ks:List Int} {us:List Value},aQ4 zs=some ks->Paired (Rep S Z) zs us->Paired (mY hp) ks us
 | [],_,_,e,r=>by cases e;cases r;exact .nil
 | z::zs,_,_,e,r=>by
  obtain ⟨k,e1,e⟩:=bind_some (show ((prS z).map (·.1)).bind _=_ from e);obtain ⟨ks,e2,rfl⟩:=map_some e;cases r with
  | cons a b =>
   refine .cons ?_ (aI7 hz e2 b);obtain ⟨⟨k',xs,ns,ys,ez,hi⟩,hh,rfl⟩:=Option.map_eq_some_iff.mp (show (prS _).map (·.1)=_ from e1);clear hh e1;subst ez;obtain ⟨A,o,us,rfl,zA,⟨⟨n,rfl⟩,_⟩,rr⟩:=rep_t.mp a;cases rr with
   | cons r1 rr =>
    cases rr with
    | cons r2 rr =>
     cases rr;obtain ⟨B,o,vs,rfl,zB,⟨⟨m,rfl⟩,_⟩,rr⟩:=rep_t.mp r1;exact ⟨A,B,_,n,_,rfl,hz _ _ zA,rfl,rfl,vs.toArray,m,ns,hz _ _ zB,by simpa using lO hi rr⟩
def bI2 {ks:List Int} (nd:ks.Nodup):(ks.map fun k=>-k).Nodup:=List.Pairwise.map _ (fun a b h z=>h (by omega)) nd
def bI3 {β:Type} {F:PyData->β->Prop} {ks:List Int} {xs:List PyData} {vs:List β} {ps:List (Int×β)} (nd:ks.Nodup) (hl:ks.length=xs.length) (r:Paired F xs vs) (hp:ps.Perm (ks.zip vs)) (ho:ps.Pairwise fun p q=>p.1<=q.1):Paired F (bA1 ks xs) (ps.map (·.2)):=by
 have nd':=bI2 nd;have vl:=r.length;have e:ps.map (fun p=>(-p.1,p.2))=dsc ((ks.map fun k=>-k).zip vs):=nB (by rw [qY (by simp;omega)];exact nd') ((hp.map _).trans (.of_eq (by rw [List.zip_map_left];rfl))) (by
  rw [List.pairwise_map];exact ho.imp fun h=>by simpa using h)
 have q:=aT3 nd' (by simpa using hl) r;rw [<- e,List.map_map] at q;exact q
section
variable {X:Cx} {st:Sta} {d:Nat} {v:Evs} {a:Expr} {es:List Expr} {p pos:Pos}
def bV7 (S:Snd v) (G:Good X st d) (hh0:(!st.hm)=true) (hx:(cR st "sorted"&&(slot st "sorted").isNone&&st.bl.contains "sorted")=true):SF X (.Call (.Name "sorted" p) (a::es) [] pos) (xb (aR v st (a::es)) fun ws=>fun _ h=>iZ ws h):=by
 intro κ M δ h s w h' R F e;obtain ⟨ws,h1,e1,e⟩:=aH e;refine kA (f:=.builtin "sorted") S G hx (by decide +kernel) (.inl ⟨_,rfl⟩) R F e1 fun {M1 us s1} l1 R1 r1=>?_;have fin:∀ {ns:List Int} {u:Value} {vs:List Value},IntsAre vs ns->ns.length < 64->(∀ Rr:List Value->Shared->Prop,(∀ h2,(∀ b o,s1.heap.get? b=some o->h2.get? b=some o)->Rr vs { s1 with heap:=h2 })->Wp X.S X.A.in1 (collect u) Rr NE s1)->Wp X.S X.A (call (.builtin "sorted") [u]) (Pf X.S κ M h1 ((srt ns).map .int)) NE s1:=fun {ns u vs} hi hl hc=>by
  refine kD (ks:=ns) (n:=vs.length) (by rw [hi.length];exact hl) (fun Rr hR=>hc Rr fun h2 k=>hR vs ns h2 s1.drawn s1.toks hi rfl (List.Perm.refl _) k) fun b vs' ns' c h2 dr tk hi' hp ho hz hb k=>?_;have e2:=mX hp ho;subst e2;have hlen:=hi'.length;have hpl:=hp.length_eq;exact ⟨M1,l1,R1.dr h2 dr tk k,b,vs',c,rfl,hb,R1.new hz,by rw [hlen,hpl,sizeLine_eq];omega,gQ hi'⟩
 have all:∀ {xs zs:List PyData} {u:Value} {vs:List Value},aE6 xs=some zs->Paired (Rep X.S M1.Z) xs vs->(∀ Rr:List Value->Shared->Prop,(∀ h2,(∀ b o,s1.heap.get? b=some o->h2.get? b=some o)->Rr vs { s1 with heap:=h2 })->Wp X.S X.A.in1 (collect u) Rr NE s1)->Wp X.S X.A (call (.builtin "sorted") [u]) (Pf X.S κ M h1 zs) NE s1:=fun {xs zs u vs} e rr hc=>by
  unfold aE6 at e;cases en:bZ xs with
  | some ns =>
   rw [en] at e;obtain ⟨hl,e⟩:=aI e;cases e;exact fin (lO en rr) hl hc
  | none =>
   rw [en] at e;obtain ⟨ks,ek,e⟩:=bind_some e;obtain ⟨⟨nd,hl⟩,e⟩:=aI e;cases e;have vl:=rr.length;have kl:=xR ek;refine vN (us:=vs) nd (by have:=G.rm.un;omega) (by omega) (aI7 R1.z ek rr) hc fun b ps c h2 hp ho hz hb k=>?_;have pl:=hp.length_eq;rw [List.length_zip] at pl;exact ⟨M1,l1,R1.dr h2 s1.drawn s1.toks k,b,ps.map (·.2),c,rfl,hb,R1.new hz,by rw [List.length_map,sizeLine_eq];omega,bI3 nd (by omega) rr hp ho⟩
 unfold iZ at e;split at e
 ·obtain ⟨u,rfl,ru⟩:=w1 r1;split at e
  ·rename_i xs ex;obtain ⟨zs,ez,e⟩:=map_some e;cases e;obtain ⟨b,vs,n,rfl,ho,hz,rr⟩:=dE R1 ru ex;exact all ez rr fun Rr hR=>wpAny_collect_seq b (.inl rfl) ho rfl rfl (fun h2 k=>hR h2 k) (by simpa using hz)
  ·rename_i xs ex;obtain ⟨zs,ez,e⟩:=map_some e;cases e;obtain ⟨b,vs,n,rfl,z,hz,rr⟩:=fQ R1 ru ex;exact all ez rr fun Rr hR=>wpAny_collect_seq b (.inr rfl) (R1.z _ _ z) rfl rfl (fun h2 k=>hR h2 k) (by simpa using hz)
  ·rename_i ex;obtain ⟨kvs,ek,e⟩:=bind_some e;obtain ⟨ns,en,e⟩:=bind_some e;obtain ⟨hl,e⟩:=aI e;cases e;obtain ⟨j,p,rfl,ej,ep,rfl⟩:=bA4 R1 ru ek;obtain ⟨vs,⟨o,es,ep,d1,d2⟩,rk,hd,hz⟩:=R1.cel j p _ ep ej;have kk:=aT4 rk en;have vl:vs.length=ns.length:=by have:=congrArg List.length kk;simpa using this
   refine vO (PySem.W.kdl_dict (knd:=cM X.S.P X.S.w) (kvs:=vs) (ep:=ep) hd) (G.nh hh0) ⟨o,es,d1,d2⟩ (ks:=ns) (by omega) vl.symm (fun i u hv=>?_) fun b vs' ns' c h2 dr tk hi' hp ho hz hb k=>?_
   ·obtain ⟨k,x,e1,e2⟩:=hv;have e3:(vs.map (·.1))[i]?=some k:=by rw [List.getElem?_map,e1];rfl
    rw [kk,List.getElem?_map] at e3;obtain ⟨n,e4,rfl⟩:=Option.map_eq_some_iff.mp e3;obtain ⟨t,rfl⟩:=aT5 e2;exact ⟨n,t,e4,rfl⟩
   ·have e2:=mX hp ho;subst e2;have hlen:=hi'.length;have hpl:=hp.length_eq;exact ⟨M1,l1,R1.dr h2 dr tk k,b,vs',c,rfl,hb,R1.new hz,by rw [hlen,hpl,sizeLine_eq];omega,gQ hi'⟩
  ·cases e
 ·cases e
end
end DL

namespace ST
open PySem PySem.Spec PyProof.Rows
def Ris (xs:Array Nat):Prop:=xs.toList.Pairwise (· < ·)
def Ris.lt {xs:Array Nat} (h:Ris xs) {i k:Nat} {a b:Nat} (hik:i < k) (ha:xs[i]?=some a) (hb:xs[k]?=some b):a < b:=by
 unfold Ris at h;rw [List.pairwise_iff_getElem] at h;rw [Array.getElem?_eq_some_iff] at ha hb;obtain ⟨h1,rfl⟩:=ha;obtain ⟨h2,rfl⟩:=hb;exact h i k (by simpa using h1) (by simpa using h2) hik
theorem qZ {xs:Array Nat} {j:Nat} (hx:Ris xs):∀ (fuel lo hi:Nat),hi - lo<=fuel->lo<=hi->hi<=xs.size->(∀ i a,i < lo->xs[i]?=some a->a < j)->(∀ i a,hi<=i->xs[i]?=some a->j<=a) ->
  (∀ i a,i < SetTable.below.go xs j fuel lo hi->xs[i]?=some a->a < j)/\(∀ i a,SetTable.below.go xs j fuel lo hi<=i->xs[i]?=some a->j<=a)/\SetTable.below.go xs j fuel lo hi<=xs.size
 | 0,lo,hi,h1,h2,h3,h4,h5=>by
  have:lo=hi:=by omega
  subst this;exact ⟨h4,h5,h3⟩
 | fuel+1,lo,hi,h1,h2,h3,h4,h5=>by
  unfold SetTable.below.go;split
  ·rename_i hlt;have hm:(lo+hi) / 2 < xs.size:=by omega
   have em:xs[(lo+hi) / 2]?=some xs[(lo+hi) / 2]:=Array.getElem?_eq_getElem hm;have eg:xs.getD ((lo+hi) / 2) j=xs[(lo+hi) / 2]:=by simp [Array.getD,hm]
   dsimp only;rw [eg];split
   ·rename_i hj;refine qZ hx fuel _ _ (by omega) (by omega) h3 (fun i a hi' ha=>?_) h5
    by_cases e:i=(lo+hi) / 2
    ·subst e;rw [em] at ha;cases ha;exact hj
    ·exact Nat.lt_trans (hx.lt (by omega) ha em) hj
   ·rename_i hj;refine qZ hx fuel _ _ (by omega) (by omega) (by omega) h4 (fun i a hi' ha=>?_)
    by_cases e:i=(lo+hi) / 2
    ·subst e;rw [em] at ha;cases ha;omega
    ·have:=hx.lt (show (lo+hi) / 2 < i by omega) em ha;omega
  ·have:lo=hi:=by omega
   subst this;exact ⟨h4,h5,h3⟩
def nC {xs:Array Nat} (hx:Ris xs) (j:Nat):(∀ i a,i < SetTable.below xs j->xs[i]?=some a->a < j)/\(∀ i a,SetTable.below xs j<=i->xs[i]?=some a->j<=a)/\SetTable.below xs j<=xs.size :=
 qZ hx xs.size 0 xs.size (by omega) (by omega) (Nat.le_refl _) (fun i a h=>by omega) (fun i a h e=>by
  rw [Array.getElem?_eq_none (by omega)] at e;cases e)
noncomputable def fH (xs:Array Nat):Nat->Nat
 | 0=>0
 | i+1=>xs.getD i 0+1
def rC {xs:Array Nat} (hx:Ris xs) {i:Nat} (hi:i<=xs.size):SetTable.below xs (fH xs i)=i:=by
 obtain ⟨h1,h2,h3⟩:=nC hx (fH xs i);generalize SetTable.below xs (fH xs i)=r at h1 h2 h3;cases i with
 | zero =>
  cases r with
  | zero=>rfl
  | succ r =>
   have:=h1 0 xs[0] (by omega) (Array.getElem?_eq_getElem (by omega));simp [fH] at this
 | succ i =>
  have ei:xs[i]?=some xs[i]:=Array.getElem?_eq_getElem (by omega);have es:fH xs (i+1)=xs[i]+1:=by simp [fH,Array.getD,show i < xs.size by omega]
  rw [es] at h1 h2;have a1:¬ r<=i:=fun z=>by have:=h2 i _ z ei;omega
  have a2:¬ i+1 < r:=fun z=>by
   have e2:xs[i+1]?=some xs[i+1]:=Array.getElem?_eq_getElem (by omega);have q1:=h1 (i+1) _ z e2;have q2:=hx.lt (show i < i+1 by omega) ei e2;omega
  omega
def vP {xs:Array Nat} (hx:Ris xs) {j:Nat} (hj:xs[SetTable.below xs j]?≠some j):Ris (SetTable.insertAt xs (SetTable.below xs j) j):=by
 obtain ⟨h1,h2,h3⟩:=nC hx j;have e:(SetTable.insertAt xs (SetTable.below xs j) j).toList=xs.toList.take (SetTable.below xs j)++j::xs.toList.drop (SetTable.below xs j):=by
  simp [SetTable.insertAt,Array.toList_extract,List.extract_eq_take_drop,List.take_of_length_le]
 unfold Ris at hx ⊢;rw [e,List.pairwise_append,List.pairwise_cons];have mt:∀ a∈xs.toList.take (SetTable.below xs j),a < j:=fun a ha=>by
  obtain ⟨i,hi,ea⟩:=List.mem_iff_getElem.mp ha;rw [List.getElem_take] at ea;rw [List.length_take] at hi;refine h1 i a (by omega) ?_;rw [<- ea];exact Array.getElem?_eq_getElem (by simp at hi;omega)
 have md:∀ b∈xs.toList.drop (SetTable.below xs j),j < b:=fun b hb=>by
  obtain ⟨i,hi,eb⟩:=List.mem_iff_getElem.mp hb;rw [List.getElem_drop] at eb;rw [List.length_drop] at hi;have hlt:SetTable.below xs j+i < xs.size:=by simp at hi;omega
  have eg:xs[SetTable.below xs j+i]?=some b:=by rw [<- eb];exact Array.getElem?_eq_getElem hlt
  have q:=h2 _ b (by omega) eg;rcases Nat.lt_or_eq_of_le q with q | q
  ·exact q
  ·subst q;cases i with
   | zero=>exact absurd eg hj
   | succ i =>
    have e0:xs[SetTable.below xs j]?=some xs[SetTable.below xs j]:=Array.getElem?_eq_getElem (by omega);have:=Ris.lt hx (show SetTable.below xs j < SetTable.below xs j+(i+1) by omega) e0 eg;have q0:=h2 _ _ (Nat.le_refl _) e0;omega
 refine ⟨hx.sublist (List.take_sublist _ _),⟨md,hx.sublist (List.drop_sublist _ _)⟩,fun a ha b hb=>?_⟩;rcases List.mem_cons.mp hb with rfl | hb
 ·exact mt a ha
 ·exact Nat.lt_trans (mt a ha) (md b hb)
def aA3 (n:Nat):Ris (Array.range n):=by
 unfold Ris;rw [Array.toList_range];exact List.pairwise_lt_range
def free (t:SetTable) (j:Nat):Prop:=t.place[SetTable.below t.place j]?≠some j
def pL {t:SetTable} {j:Nat} (h:∀ i,t.slot j≠.live i):free t j:=by
 intro e;unfold SetTable.slot at h;dsimp only at h;rw [e] at h;simp at h
theorem iN {t:SetTable} {f:Nat->Int} {h:Int}:∀ (fuel:Nat) (p:SetTable.Probe),(∀ d,p.dummy=some d->free t d)->∀ j d,SetTable.probe.go t f h fuel p=some (.empty j d)->free t j/\∀ d',d=some d'->free t d'
 | 0,p,hp,j,d,e=>by simp [SetTable.probe.go] at e
 | fuel+1,p,hp,j,d,e=>by
  unfold SetTable.probe.go at e;split at e
  ·rename_i es;cases e;exact ⟨pL (fun i z=>by rw [es] at z;cases z),hp⟩
  ·rename_i es;refine iN fuel _ (fun d' ed=>?_) j d e;have:(t.advance { p with dummy:=some p.j }).dummy=some p.j:=by
    unfold SetTable.advance;split<;>rfl
   rw [this] at ed;cases ed;exact pL fun i z=>by rw [es] at z;cases z
  ·split at e
   ·cases e
   ·refine iN fuel _ (fun d' ed=>hp d' ?_) j d e;have:(t.advance p).dummy=p.dummy:=by
     unfold SetTable.advance;split<;>rfl
    rw [<- this];exact ed
def oS {t:SetTable} {h:Int} {j:Nat} {b:Bool} (e:t.freeSlot h=some (j,b)):free t j:=by
 unfold SetTable.freeSlot at e;split at e
 ·rename_i j' d ep;cases e;obtain ⟨f1,f2⟩:=iN _ _ (fun d ed=>by simp [SetTable.probeStart] at ed) _ _ ep;cases d with
  | none=>exact f1
  | some d=>exact f2 d rfl
 ·cases e
def Good (by_:Bool) (t:SetTable):Prop:=Ris t.place/\(by_=false->t.led=true)
def dR {by_:Bool} {t:SetTable} (h:Good by_ t) (n:Nat):Good by_ (t.standIn n):=⟨aA3 n,h.2⟩
def sW {by_:Bool} {t:SetTable} {es:Array (Int×Value)} {h:Int} {x:Value} (g:Good by_ t):Good by_ (layNew t es h x).2.1:=by
 unfold layNew;split
 ·rename_i slot wd e;dsimp only;have gp:Good by_ (t.put slot).1:=⟨vP g.1 (oS e),g.2⟩;unfold SetTable.orStandIn;split
  ·exact gp
  ·exact dR gp _
 ·exact dR g _
def aI8 {owner:Array (Option Nat)} (n:Nat):(((List.range n).filterMap fun j=>(owner.getD j none).map (j,·)).map (·.1)).Pairwise (· < ·):=by
 rw [List.pairwise_map];refine List.Pairwise.filterMap (R:=(· < ·)) _ (fun a a' hlt b hb b' hb'=>?_) (List.pairwise_lt_range (n:=n));obtain ⟨_,_,rfl⟩:=Option.map_eq_some_iff.mp hb;obtain ⟨_,_,rfl⟩:=Option.map_eq_some_iff.mp hb';exact hlt
def vQ {by_:Bool} {t:SetTable} {es:Array (Int×Value)} {n:Nat} (g:Good by_ t):Good by_ (relayAll t es n).2.1:=by
 unfold relayAll;split
 ·rename_i t' order e;dsimp only;split
  ·unfold SetTable.relaid SetTable.laid at e;dsimp only at e;obtain ⟨owner,_,e2⟩:=Option.bind_eq_some_iff.mp e;cases e2;refine ⟨?_,g.2⟩;unfold Ris;exact aI8 _
  ·exact dR g _
 ·exact dR g _
theorem iP {α:Type}:∀ (l:List α) (i:Nat) (h:i < l.length),([l[i]]++l.eraseIdx i).Perm l
 | [],i,h=>by simp at h
 | x::l,0,h=>by simp
 | x::l,i+1,h=>by
  have:=iP l i (by simpa using h);simp only [List.getElem_cons_succ,List.eraseIdx_cons_succ];exact (List.Perm.swap _ _ _).trans (List.Perm.cons _ this)
theorem pM {α:Type} (next:Nat->Nat):∀ (fuel k:Nat) (left:List α) (out:Array α),left.length<=fuel->(pickOrder.go next fuel k left out).toList.Perm (out.toList++left)
 | 0,k,left,out,h=>by
  have:left=[]:=List.length_eq_zero_iff.mp (by omega);subst this;simp [pickOrder.go]
 | fuel+1,k,left,out,h=>by
  unfold pickOrder.go;cases left with
  | nil=>simp
  | cons y ys =>
   have hl:next k%(y::ys).length < (y::ys).length:=Nat.mod_lt _ (by simp);rw [List.getElem?_eq_getElem hl];dsimp only;refine (pM next fuel (k+1) _ _ (by rw [List.length_eraseIdx_of_lt hl];simp at h ⊢;omega)).trans ?_;rw [Array.toList_push,List.append_assoc];exact List.Perm.append_left _ (iP _ _ hl)
def nF {α:Type} (next:Nat->Nat) (xs:Array α):(pickOrder next xs).toList.Perm xs.toList:=by
 unfold pickOrder
 simpa using pM next xs.size 0 xs.toList #[] (by simp)
end ST

namespace ST
open PySem PySem.Spec PyProof.Rows
noncomputable def oU:Value->Int
 | .int k _=>k
 | _=>0
section
variable {prog:Program} {w:World} {A:Around} {E:Value->Shared->Prop} {s:Shared}
abbrev txt (w:World):Bool:=w.params.followText "set-order"
structure Parts (prog:Program) (w:World) (o:Obj) (es:Array (Int×Value)) (ep:Nat) (t:SetTable) (ks:List Int):Prop where
 ex:o.ExactSet
 dat:o.data=.set es ep t
 el:ElemsOf (intKind prog w) es.toList
 ks:(es.toList.map fun e=>oU e.2).Perm ks
 few:es.size < scanBound
 fit:t.fits es.size=true
 good:Good (txt w) t
def SetI (prog:Program) (w:World) (h:Heap) (a:Addr) (ks:List Int):Prop:=∃ o es ep t,h.get? a=some o/\Parts prog w o es ep t ks
def SetI.keep {h h':Heap} {a:Addr} {ks:List Int} (x:SetI prog w h a ks) (e:∀ o,h.get? a=some o->h'.get? a=some o):SetI prog w h' a ks :=
 let ⟨o,es,ep,t,ho,p⟩:=x;⟨o,es,ep,t,e o ho,p⟩
def vR {k:Int} {v:Value} (h:(intKind prog w).is k v=true):∃ t,v=.int k t:=Value.isInt_shape h
def vS {es:List (Int×Value)} (h:ElemsOf (intKind prog w) es) {e:Int×Value} (he:e∈es):∃ t,e.2=.int (oU e.2) t:=by
 obtain ⟨⟨k,hk,_⟩,_⟩:=h e he;obtain ⟨t,q⟩:=vR hk;exact ⟨t,by rw [q];rfl⟩
def aA4 {es:List (Int×Value)} (h:ElemsOf (intKind prog w) es) {k:Int} (hf:es.findIdx? (fun e=>(intKind prog w).is k e.2)=none):k∉es.map fun e=>oU e.2:=by
 intro z;obtain ⟨e,he,q⟩:=List.mem_map.mp z;obtain ⟨t,e2⟩:=vS h he;have:=List.findIdx?_eq_none_iff.mp hf e he;rw [e2,q] at this;rw [intKind_is] at this;cases this
def aA5 {es:List (Int×Value)} {k:Int} {j:Nat} (hf:es.findIdx? (fun e=>(intKind prog w).is k e.2)=some j):k∈es.map fun e=>oU e.2:=by
 obtain ⟨hj,hp,_⟩:=List.findIdx?_eq_some_iff_getElem.mp hf;obtain ⟨t,q⟩:=vR hp;exact List.mem_map.mpr ⟨es[j],List.getElem_mem hj,by rw [q];rfl⟩
def kZ {a:Addr} {o:Obj} {es es':Array (Int×Value)} {ep:Nat} {t t':SetTable} {ks':List Int} {h:Heap} (ho:h.get? a=some o) (hd:o.data=.set es ep t) (hx:o.ExactSet)
  (p:Parts prog w { o with data:=.set es' (ep+1) t' } es' (ep+1) t' ks'):(h.update a (Obj.putSet es' t')).get? a=some { o with data:=.set es' (ep+1) t' } :=
 (SetOf_store (knd:=intKind prog w) (S':=fun k=>decide (k∈es'.toList.map fun e=>oU e.2)) ho hx hd p.el (fun k=>by
  rw [decide_eq_true_eq,List.mem_map];constructor
  ·rintro ⟨e,he,rfl⟩;obtain ⟨q,e2⟩:=vS p.el he;exact ⟨e,he,by rw [e2];exact intKind_is _ _ _ _⟩
  ·rintro ⟨e,he,q⟩;obtain ⟨tk,e2⟩:=vR q;exact ⟨e,he,by rw [e2];rfl⟩) p.few p.fit).1
def xS {g:Bool->Sem Unit} (hg:∀ (b:Bool) (s₁:Shared) (Q':Unit->Shared->Prop),Q' () s₁->wpAny (model prog w) A (g b) Q' E s₁) {a:Addr} {o:Obj} {es es1:Array (Int×Value)} {ep:Nat} {t t2:SetTable} {ks':List Int}
  (ho:s.heap.get? a=some o) (hd:o.data=.set es ep t) (hx:o.ExactSet) (p:Parts prog w { o with data:=.set es1 (ep+1) t2 } es1 (ep+1) t2 ks') {wd:Bool} {R:Option Bool->Shared->Prop}
  (h:∀ h',Heap.SameBut a s.heap h'->SetI prog w h' a ks'->R (some true) { s with heap:=h' }) :
  wpAny (model prog w) A (do
   storeSet a es1 t2
   if (!wd&&t2.tooFull)=true then do
    g (relayAll t2 es1 (SetTable.grown es1.size)).2.2
    storeSet a (relayAll t2 es1 (SetTable.grown es1.size)).1 (relayAll t2 es1 (SetTable.grown es1.size)).2.1
    pure (some true)
   else pure (some true)) R E s:=by
 refine wpAny_bind (wpAny_storeSet_of ho hd ?_ (fits_of_scanBound p.few));have ho1:=kZ ho hd hx p;have sb1:=Heap.SameBut.update s.heap a (Obj.putSet es1 t2);split
 ·have hp:=relayAll_perm t2 es1 (SetTable.grown es1.size);have hf:=relayAll_fits t2 es1 (SetTable.grown es1.size);have hgd:=vQ (es:=es1) (n:=SetTable.grown es1.size) p.good;have hz:(relayAll t2 es1 (SetTable.grown es1.size)).1.size=es1.size:=by simpa using hp.length_eq
  have p2:Parts prog w { o with data:=.set (relayAll t2 es1 (SetTable.grown es1.size)).1 (ep+1+1) (relayAll t2 es1 (SetTable.grown es1.size)).2.1 } (relayAll t2 es1 (SetTable.grown es1.size)).1 (ep+1+1) (relayAll t2 es1 (SetTable.grown es1.size)).2.1 ks' :=
   ⟨hx,rfl,p.el.perm hp,(hp.map _).trans p.ks,by rw [hz];exact p.few,hf,hgd⟩
  refine wpAny_bind (hg _ _ _ (wpAny_bind (wpAny_storeSet_of ho1 rfl (wpAny_pure (h _ (sb1.trans (Heap.SameBut.update _ a _)) ⟨_,_,_,_,kZ ho1 rfl hx p2,p2⟩)) (fits_of_scanBound p2.few))))
 ·exact wpAny_pure (h _ sb1 ⟨_,_,_,_,ho1,p⟩)
def xT {ks:List Int} {k:Int}:(ks.any (·==k))=decide (k∈ks):=by
 rw [Bool.eq_iff_iff,List.any_eq_true,decide_eq_true_eq];constructor
 ·rintro ⟨x,hx,e⟩;rw [<- eq_of_beq e];exact hx
 ·exact fun hx=>⟨k,hx,beq_self_eq_true k⟩
def bI4 {ks:List Int} {k:Int} (h:k∈ks):step_dedup ks k=ks:=by unfold step_dedup;rw [xT,if_pos (decide_eq_true h)]
def bI5 {ks:List Int} {k:Int} (h:k∉ks):step_dedup ks k=ks++[k]:=by unfold step_dedup;rw [xT,if_neg (by rw [decide_eq_true_eq];exact h)]
def add_int {a:Addr} {ks:List Int} {k:Int} {tk:Tok} {Q:Bool->Shared->Prop} (hS:SetI prog w s.heap a ks) (room:ks.length+1 < scanBound)
  (h:∀ b h',Heap.SameBut a s.heap h'->SetI prog w h' a (step_dedup ks k)->Q b { s with heap:=h' }):wpAny (model prog w) A (setAddHashed a (.int k tk) ((intKind prog w).hash k)) Q E s:=by
 obtain ⟨o,es,ep,t,ho,p⟩:=hS;have hk:(intKind prog w).is k (.int k tk)=true:=intKind_is _ _ _ _;have hsz:es.size=ks.length:=by have:=p.ks.length_eq;simpa using this
 unfold setAddHashed setAddHashedIn;refine wpAny_holding (wpAny_bind (wpAny_setState_of ho p.dat p.fit ?_));dsimp only;rw [byScan_of (x:=.int k tk) rfl p.few p.el];simp only [if_true];unfold setAddByScan;refine wpAny_bind (wpAny_bind (wpAny_rule (wpAny_bind (wpAny_setScan_of hk ho p.dat p.fit p.el ?_))));cases hr:List.findIdx? (fun e=>(intKind prog w).is k e.2) es.toList with
 | some j =>
  have hm:k∈ks:=p.ks.mem_iff.mp (aA5 hr);refine wpAny_pure (wpAny_pure ?_);have q:=h false s.heap (Heap.SameBut.refl a _) (by rw [bI4 hm];exact ⟨o,es,ep,t,ho,p⟩);cases s;exact q
 | none =>
  have hm:k∉ks:=fun z=>aA4 p.el hr (p.ks.mem_iff.mpr z);dsimp only;have gw:∀ (b:Bool) {s₁:Shared} {Q':Unit->Shared->Prop},Q' () s₁->wpAny (model prog w) A (match b with | true=>rule "set.scan.the-table-gave-way" | false=>pure ()) Q' E s₁:=fun b s₁ Q' q=>by
   cases b
   ·exact wpAny_pure q
   ·exact wpAny_rule q
  have lp:=layNew_perm t es ((intKind prog w).hash k) (.int k tk);have lf:=layNew_fits t es ((intKind prog w).hash k) (.int k tk);have lg:Good (txt w) (layNew t es ((intKind prog w).hash k) (.int k tk)).2.1:=sW p.good;generalize layNew t es ((intKind prog w).hash k) (.int k tk)=L at lp lf lg;obtain ⟨es1,t1,wd,gv⟩:=L;dsimp only at lp lf lg ⊢;rw [Array.toList_push] at lp;have z1:es1.size=ks.length+1:=by have:=lp.length_eq;simp at this;omega
  have mk:∀ t2:SetTable,t2.fits es1.size=true->Good (txt w) t2->Parts prog w { o with data:=.set es1 (ep+1) t2 } es1 (ep+1) t2 (step_dedup ks k):=fun t2 f2 g2 =>
   ⟨p.ex,rfl,(p.el.push hk rfl).perm lp,by
    rw [bI5 hm];refine (lp.map _).trans ?_;rw [List.map_append];exact p.ks.append (List.Perm.refl _),by omega,f2,g2⟩
  refine wpAny_bind (gw _ ?_);have fin:∀ h',Heap.SameBut a s.heap h'->SetI prog w h' a (step_dedup ks k)->wpAny (model prog w) A (pure true) (fun b s'=>Q b s') E { s with heap:=h' }:=fun h' b c=>wpAny_pure (h true h' b c);split
  ·refine wpAny_bind ?_;rw [hashByValue_scannable 8 (x:=.int k tk) rfl];refine wpAny_pure (xS (fun b s₁ Q' q=>?_) ho p.dat p.ex (mk _ ?_ ?_) fun h' b c=>wpAny_pure (h _ h' b c))
   ·cases b
    ·exact wpAny_pure q
    ·exact wpAny_rule q
   ·split
    ·exact lf
    ·exact SetTable.fits_plain_off lf
   ·split
    ·exact lg
    ·exact lg
  ·refine wpAny_bind (wpAny_pure ?_);simp only [if_true];refine xS (fun b s₁ Q' q=>?_) ho p.dat p.ex (mk _ lf lg) fun h' b c=>wpAny_pure (h _ h' b c);cases b
   ·exact wpAny_pure q
   ·exact wpAny_rule q
end
end ST

namespace ST
open PySem PySem.Spec PyProof.Rows
section
variable {prog:Program} {w:World} {A:Around} {E:Value->Shared->Prop} {s:Shared} {R:Result->Shared->Prop}
def aI9 {I:Addr} {fp wr:List Addr} {n:Nat} {P:Nat->Value->Prop} {St:Nat->Heap->Prop} (W:Walks prog w A.in1 I fp wr n P St) (S:Addr) (hS:S∉fp) (val:Nat->Int) (hval:∀ i v,P i v->∃ t,v=.int (val i) t) (hb:n+1 < scanBound) :
  ∀ (k i:Nat) (s:Shared),n - i=k->i<=n->St i s.heap->SetI prog w s.heap S (firstMet val i) ->
   (∀ h' tk,SetI prog w h' S (firstMet val n)->(∀ b o,b≠S->b∉wr->s.heap.get? b=some o->h'.get? b=some o)->R (.ok (.ret .none)) { s with heap:=h',toks:=tk }) ->
   codeAny (model prog w) A (.builtin "set.update.loop" ⟨[.ref S,.ref I],[]⟩) R s:=by
 have hw:S∉wr:=fun z=>hS (W.sub _ z);intro k;induction k with
 | zero =>
  intro i s hk hi st si hR;have e:i=n:=by omega
  subst e;refine codeAny_builtin F.entry_set_update_loop ?_;rw [Around.under_plainId F.plain_set_update_loop _];refine wpAny_bind (W.done s _ _ st fun h' tk hm=>wpAny_pure ?_);exact hR h' tk (si.keep fun o e=>hm S o hw e) fun b o _ hb e=>hm b o hb e
 | succ k ih =>
  intro i s hk hi st si hR;have hlt:i < n:=by omega
  refine codeAny_builtin F.entry_set_update_loop ?_;rw [Around.under_plainId F.plain_set_update_loop _];refine wpAny_bind (W.item i s _ _ hlt st fun v h1 tk1 hP st1 hm=>?_);obtain ⟨t,rfl⟩:=hval i v hP;have s1:SetI prog w h1 S (firstMet val i):=si.keep fun o e=>hm S o hw e;have fl:=firstMet_length_le val i;refine wpAny_bind (wpAny_holding ?_);unfold setAdd;refine wpAny_holding (wpAny_bind ((intKind prog w).pyHash (k:=val i) (intKind_is _ _ _ _) ?_));refine add_int (s:={ s with heap:=h1,toks:=tk1+1 }) s1 (by omega) fun b h2 sb s2=>?_;rw [<- firstMet_succ] at s2;refine wpAny_pure ⟨plainId_quiet F.plain_set_update_loop _,ih (i+1) _ (by omega) hlt (W.frame _ h1 _ st1 fun c hc o e=>?_) s2 fun h3 tk3 s3 k3=>hR h3 tk3 s3 fun c o n1 n2 e=>k3 c o n1 n2 ?_⟩
  ·rw [sb.2 c (fun z=>hS (by rw [<- z];exact hc))];exact e
  ·show h2.get? c=some o;rw [sb.2 c n1];exact hm c o n2 e
abbrev hV (w:World):Obj:={ cls:=.type "set",dict:=none,data:=.set #[] 0 (.fresh 0 0 (!txt w)) }
def aA6:Parts prog w (hV w) #[] 0 (.fresh 0 0 (!txt w)) [] where
 ex:=⟨rfl,rfl,rfl⟩
 dat:=rfl
 el:=fun e he=>by simp at he
 ks:=by simp
 few:=by decide
 fit:=rfl
 good:=⟨by simp [Ris,SetTable.fresh],fun e=>by rw [e];rfl⟩
def aJ0 (a:Value) {Q₁:Value->Shared->Prop} (h:Q₁ (.ref s.heap.objs.size) { s with heap:=s.heap.push (hV w) }) :
  codeAny (model prog w) A (.call (.builtin "set.__new__") ⟨[.type "set",a],[]⟩) (wants Q₁ E) s:=by
 refine codeAny_of_tree ?_;show wpAny _ _ (checkBuiltinCall "set.__new__" ⟨[.type "set",a],[]⟩ >>= fun _=>again (.builtin "set.__new__" ⟨[.type "set",a],[]⟩)) _ _ s;refine wpAny_bind (wpAny_of_eq (PySem.F.newCall_set_1 a) (wpAny_pure ⟨plainId_quiet PySem.F.plain_set_new _,codeAny_builtin PySem.F.entry_set_new ?_⟩));rw [Around.under_plainId PySem.F.plain_set_new _];have sub:=sub_set_self;unfold Builtin.«set.__new__» Builtin.Frozenset.newClass;obtain ⟨hp,g,d,tk,os⟩:=s;dsimp only
 wp_walk
 refine wpAny_askSetting (wpAny_pure ?_);dsimp only;simp only [newObj];exact wpAny_bind (wpAny_alloc (wpAny_pure (wpAny_pure h)))
def vT (ns:List Int):(List.range ns.length).map (fun i=>ns.getD i 0)=ns:=by
 apply List.ext_getElem
 ·simp
 ·intro i h1 h2;simp [h2]
def bI6 (ns:List Int):firstMet (fun i=>ns.getD i 0) ns.length=dd ns:=by
 unfold firstMet dd;rw [vT]
def sX {b:Bool} {l:Addr} {items:Array Value} {ns:List Int} {Q:Value->Shared->Prop} (hh:A.handled=none) (hl:SqAt b s.heap l items) (hi:IntsAre items.toList ns) (hb:items.size+1 < scanBound)
  (h:∀ h' tk,SetI prog w h' s.heap.objs.size (dd ns)->(∀ b o,s.heap.get? b=some o->h'.get? b=some o)->Q (.ref s.heap.objs.size) { s with heap:=h',toks:=tk }) :
  wpAny (model prog w) A (call (.type "set") [.ref l]) Q E s:=by
 have hnz:ns.length=items.size:=by have:=IntsAre.length hi;simpa using this.symm
 obtain ⟨c,tl,mro⟩:=PySem.F.called_set.mro;have made:=PySem.F.called_set.made;have sub:=PySem.F.called_set.sub;refine wpAny_call (codeAny_of_tree (wpAny_pure ⟨Code.quiet_builtin _ (by decide +kernel),codeAny_builtin PySem.F.entry_type_call ?_⟩));rw [Around.under_plain (weight_type_call_type "set" [.ref l] []) rfl];have h1:=PySem.F.called_set.notType;have h2:=PySem.F.called_set.canCreate;have h3:=PySem.F.typeCall_set_1 (.ref l)
 repeat (any_goals (first | assumption | wp_step))
 refine codeAny_mono (aJ0 (.ref l) (E:=E) (Q₁:=fun obj s₁=>obj=.ref s.heap.objs.size/\s₁={ s with heap:=s.heap.push (hV w) }) ⟨rfl,rfl⟩) fun r s₁ hr=>?_;cases r with
 | error e=>exact hr
 | ok fl =>
  cases fl with
  | ret obj =>
   obtain ⟨rfl,rfl⟩:=hr;have gS:(s.heap.push (hV w)).get? s.heap.objs.size=some (hV w):=Heap.get?_push_size _ rfl;have hT:Shared.TypeIs { s with heap:=s.heap.push (hV w) } (.ref s.heap.objs.size) "set":=⟨_,gS,rfl⟩;have look:=PySem.F.called_set.init.lookup;have bnd:=PySem.F.called_set.init.bind (.ref s.heap.objs.size)
   repeat (any_goals (first | assumption | wp_step))
   refine codeAny_mono (codeAny_call_builtin (R:=wants (fun r s₂=>r=.none/\∃ h' tk,s₂={ s with heap:=h',toks:=tk }/\SetI prog w h' s.heap.objs.size (dd ns)/\(∀ b o,s.heap.get? b=some o->h'.get? b=some o)) E)
    PySem.F.called_set.init.plain PySem.F.entry_set_init (check_set_init_1 hT ?_)) fun r₂ s₂ hr₂=>?_
   ·obtain ⟨cc,⟨⟨oc,od,odt,osl⟩,hol,hcl⟩,f1,f2,f3⟩:∃ cc,(∃ ol,s.heap.get? l=some ol/\ol.cls=.type cc)/\isSubtype (.type cc) (.type "set")=pure false/\isSubtype (.type cc) (.type "frozenset")=pure false/\(Value.type cc==Value.type "dict")=false:=by
     cases b
     ·obtain ⟨ol,hol,hcl,_⟩:=hl;exact ⟨_,⟨ol,hol,hcl⟩,PySem.F.sub_list_set,PySem.F.sub_list_frozenset,by decide⟩
     ·obtain ⟨ol,hol,hcl,_⟩:=hl;exact ⟨_,⟨ol,hol,hcl⟩,PySem.F.sub_tuple_set,PySem.F.sub_tuple_frozenset,by decide⟩
    dsimp only at hcl;subst hcl;have hol2:(s.heap.push (hV w)).get? l=some { cls:=.type cc,dict:=od,data:=odt,slots:=osl }:=Heap.get?_push_of_some _ hol;have il:SqAt b (s.heap.push (hV w)) l items:=hl.keep fun o e=>Heap.get?_push_of_some _ e;unfold Builtin.«set.__init__» noKeywords Builtin.Frozenset.updateFrom;generalize hPI:pyIter=PI
    wp_walk
    subst hPI;refine dT il (wpAny_bind (wpAny_runValue ?_));have lt:l < s.heap.objs.size:=Heap.lt_size hol;have sz:(s.heap.push (hV w)).objs.size=s.heap.objs.size+1:=by rw [Heap.size_push]
    have hne:l≠(s.heap.push (hV w)).objs.size:=by rw [sz];exact Nat.ne_of_lt (Nat.lt_succ_of_lt lt)
    have hSf:s.heap.objs.size∉[(s.heap.push (hV w)).objs.size,l]:=by
     rw [sz];simp only [List.mem_cons,List.not_mem_nil,or_false,not_or];exact ⟨Nat.ne_of_lt (Nat.lt_succ_self _),Nat.ne_of_gt lt⟩
    obtain ⟨P,St,W,st0,hP⟩:∃ P St,Walks prog w A.in1.in1.in1 (s.heap.push (hV w)).objs.size [(s.heap.push (hV w)).objs.size,l] [(s.heap.push (hV w)).objs.size] items.size P St/\St 0 ((s.heap.push (hV w)).push (iV b l))/\∀ i v,P i v->items[i]?=some v:=by
     have il2:SqAt b ((s.heap.push (hV w)).push (iV b l)) l items:=il.keep fun o e=>Heap.get?_push_of_some _ e;cases b
     ·exact ⟨_,_,Walks.list (by simp [hh]) _ l hne items,⟨⟨_,Heap.get?_push_size _ rfl,rfl,rfl⟩,il2⟩,fun _ _ e=>e⟩
     ·exact ⟨_,_,Walks.tuple (by simp [hh]) _ l hne items,⟨⟨_,Heap.get?_push_size _ rfl,rfl,rfl⟩,il2⟩,fun _ _ e=>e⟩
    refine aI9 W s.heap.objs.size hSf (fun i=>ns.getD i 0) (fun i v hv=>IntsAre.int_at hi i v (by rw [Array.getElem?_toList];exact hP i v hv)) hb (items.size - 0) 0 _ rfl (Nat.zero_le _)
     st0 ⟨_,_,_,_,Heap.get?_push_of_some _ gS,aA6⟩ fun h' tk si kp=>?_
    rw [<- hnz,bI6] at si;refine wpAny_pure (wpAny_pure ⟨rfl,h',tk,rfl,si,fun b o e=>?_⟩);have bl:b < s.heap.objs.size:=Heap.lt_size e;refine kp b o (Nat.ne_of_lt bl) ?_ (Heap.get?_push_of_some _ (Heap.get?_push_of_some _ e));simp only [List.mem_singleton];rw [sz];exact Nat.ne_of_lt (Nat.lt_succ_of_lt bl)
   ·cases r₂ with
    | error e=>exact hr₂
    | ok fl₂ =>
     cases fl₂ with
     | ret r =>
      obtain ⟨rfl,h',tk,rfl,si,kp⟩:=hr₂
      repeat (any_goals (first | assumption | wp_step))
      exact h _ _ si kp
     | _=>exact hr₂.elim
  | _=>exact hr.elim
end
end ST

namespace ST
open PySem PySem.Spec PyProof.Rows
def sl_next:Slot "set_iterator" "__next__" "set_iterator.__next__" :=
 .of (owner:="set_iterator") (n:="__next__") (by rw [typeLookup_type,builtinLookup_eq_fast];kernel_rfl) (by decide +kernel) (by decide +kernel) (by decide +kernel) (by first | exact .inl (by decide +kernel) | exact .inr (by decide +kernel)) (by rw [isSubtype_type];kernel_rfl)
def aT6:entryFor table "set_iterator.__next__"=some Builtin.«set_iterator.__next__»:=entryFor_of_tree (by kernel_rfl)
def xU:Manifest.owners.lookup (String.ofList ['r','o','t','a','r','e','t','i','_','t','e','s'].reverse)=some Manifest.sig_set_iterator:=by kernel_rfl
def aT7 (a:Value):argsOk "set_iterator.__next__" ⟨[a],[]⟩:=by
 unfold argsOk;rw [signature?_of (id:="set_iterator.__next__") (n:=['_','_','t','x','e','n','_','_']) (o:=['r','o','t','a','r','e','t','i','_','t','e','s']) (by kernel_rfl) xU]
 kernel_rfl
def aT8:entryFor table "set.__iter__"=some Builtin.«frozenset.__iter__»:=entryFor_alias (id':="frozenset.__iter__") (by kernel_rfl) (by decide +kernel) (by decide +kernel) (by kernel_rfl)
abbrev itO (f:Value) (i:Nat) (a:Value) (n ep:Nat):Obj:={ cls:=.type "set_iterator",dict:=none,data:=.fields #[f,.int i 0,a,.int n 0,.int ep 0],slots:=#[] }
section
variable {prog:Program} {w:World} {A:Around} {E:Value->Shared->Prop} {s:Shared} {o:Obj} {es:Array (Int×Value)} {ep:Nat} {t:SetTable} {ks:List Int} {a:Addr}
def fZ (ho:s.heap.get? a=some o) (p:Parts prog w o es ep t ks) {Q:(Array (Int×Value)×Nat×SetTable)->Shared->Prop} (h:Q (es,ep,t) s):wpAny (model prog w) A (setState a) Q E s:=wpAny_setState_of ho p.dat p.fit h
def rD {Q:Bool->Shared->Prop} (h:Q (txt w) s):wpAny (model prog w) A setsByText Q E s:=by
 unfold setsByText;exact wpAny_bind (wpAny_askSetting (wpAny_pure h))
noncomputable def vU (w:World) (es:Array (Int×Value)) (t:SetTable):Bool:=!txt w&&(!t.plain&&decide (es.size > 1))
def aJ1 (ho:s.heap.get? a=some o) (p:Parts prog w o es ep t ks) {Q:Bool->Shared->Prop} (h:Q (vU w es t) s):wpAny (model prog w) A (setDrawn a) Q E s:=by
 unfold setDrawn;refine wpAny_bind (fZ ho p (wpAny_bind (rD (wpAny_pure h))))
def aT9 (ho:s.heap.get? a=some o) (p:Parts prog w o es ep t ks) (ht:txt w=true) {Q:Array (Int×Value)->Shared->Prop} (h:Q (pickOrder (w.params.setOrder a ep) es) s):wpAny (model prog w) A (setWalk a) Q E s:=by
 unfold setWalk;refine wpAny_bind (fZ ho p (wpAny_bind (rD ?_)));rw [ht,if_pos rfl];exact wpAny_bind (wpAny_askSetting (wpAny_pure h))
noncomputable def ord (w:World) (a:Addr) (ep:Nat) (es:Array (Int×Value)):Array (Int×Value):=if txt w=true then pickOrder (w.params.setOrder a ep) es else es
def slt (w:World) (t:SetTable) (i:Nat):Nat:=if txt w=true then 0 else fH t.place i
def xV (ho:s.heap.get? a=some o) (p:Parts prog w o es ep t ks) (hd:vU w es t=false) {i:Nat} (hi:i<=es.size) {Q:Option (Value×Nat)->Shared->Prop}
  (h:Q ((ord w a ep es)[i]?.map fun e=>(e.2,slt w t (i+1))) s):wpAny (model prog w) A (setNext a (slt w t i) i ep) Q E s:=by
 unfold setNext;refine wpAny_bind (fZ ho p (wpAny_bind (rD ?_)));unfold ord slt at *;cases ht:txt w with
 | true =>
  simp only [ht,if_true] at h ⊢;rw [if_neg (by simp)];exact wpAny_bind (aT9 ho p ht (wpAny_pure h))
 | false =>
  simp only [ht,Bool.false_eq_true,if_false] at h ⊢;have hd':(!t.plain&&decide (es.size > 1))=false:=by unfold vU at hd;rw [ht] at hd;exact hd
  have led:t.led=true:=p.good.2 ht;have psz:t.place.size=es.size:=by
   have f:=p.fit;unfold SetTable.fits at f;rw [Bool.and_eq_true] at f;exact eq_of_beq f.1
  refine wpAny_ite_split (fun z=>?_) fun _=>wpAny_bind (wpAny_ite_split (fun z=>?_) fun _=>wpAny_pure ?_)
  ·have z':(!t.plain&&decide (es.size > 1))=true:=z;rw [hd'] at z';cases z'
  ·have z':(!t.led&&!es.isEmpty)=true:=z;rw [led] at z';cases z'
  rw [rC p.good.1 (by omega)];refine wpAny_pure ?_
  by_cases hlt:i < es.size
  ·rw [Array.getElem?_eq_getElem hlt] at h ⊢;rw [Array.getElem?_eq_getElem (show i < t.place.size by omega)];have e1:fH t.place (i+1)=t.place[i]+1:=by simp [fH,Array.getD,show i < t.place.size by omega]
   rw [e1] at h;exact h
  ·rw [Array.getElem?_eq_none (by omega)] at h ⊢;exact h
def ord_perm:(ord w a ep es).toList.Perm es.toList:=by
 unfold ord;split
 ·exact nF _ _
 ·exact List.Perm.refl _
def aJ2 (ho:s.heap.get? a=some o) (p:Parts prog w o es ep t ks) {Q:Array (Int×Value)->Shared->Prop} (h:Q es s):wpAny (model prog w) A (setEntries a) Q E s:=by
 unfold setEntries;exact wpAny_bind (fZ ho p (wpAny_pure h))
def xW {P:PySem.Fin->Shared->Prop} {Q:Option Value->Shared->Prop} (hh:A.handled=none) (h:∀ h',(∀ b o,s.heap.get? b=some o->h'.get? b=some o)->Q none { s with heap:=h' }) :
  wpAny (model prog w) A.in1 (do let e <- newExc (Value.type "StopIteration") [];raiseNew e) P (fun e s'=>wpAny (model prog w) A (do
   let b <- isInstance e (Value.type "StopIteration")
   if b=true then pure none else throw e) Q E s') s:=by
 simp only [newExc,newTuple];refine wpAny_bind (wpAny_bind (wpAny_newObj_type (wpAny_bind (m:=firstArgMember _ _) (wpAny_of_eq (a:=Value.none) (by first | rfl | (simp only [firstArgMember];rfl)) (wpAny_newObj_type ?_ (by size_fits)))) (by size_fits)));simp only [raiseNew];refine wpAny_bind (wpAny_handled ?_);rw [show A.in1.handled=none from hh];refine wpAny_bind (wpAny_pure (wpAny_throw ?_));refine wpAny_bind (wpAny_isInstance (T:="StopIteration") (b:=true) ⟨_,Heap.get?_push_size _ rfl,rfl⟩ isSubtype_stop (wpAny_pure ?_));exact h _ fun b o e=>Heap.get?_push_of_some _ (Heap.get?_push_of_some _ e)
def lQ {it:Addr} {f:Value} {i:Nat} {Q:Option Value->Shared->Prop} (hit:s.heap.get? it=some (itO f i (.ref a) es.size ep)) (ho:s.heap.get? a=some o) (p:Parts prog w o es ep t ks)
  (h:wpAny (model prog w) A.in1 (match f with
   | Value.int slot tok=>do
    let r <- setNext a slot.toNat i ep
    match r with
     | some (x,next)=>do
      setField (Value.ref it) 0 (rawInt next)
      setField (Value.ref it) 1 (rawInt ((i:Int)+1))
      ret x
     | none=>do
      setField (Value.ref it) 2 Value.none
      let e <- newExc (Value.type "StopIteration") []
      raiseNew e
   | x=>do
    let r <- seqItems? f
    match r with
     | some places =>
      match places[i]? with
      | some (Value.int place tok)=>do
       let x <- setNextDrawn a place.toNat ep
       setField (Value.ref it) 1 (rawInt ((i:Int)+1))
       ret x
      | some val=>unsupported "internal:set_iterator"
      | none=>do
       setField (Value.ref it) 0 (rawInt 0)
       setField (Value.ref it) 2 Value.none
       let e <- newExc (Value.type "StopIteration") []
       raiseNew e
     | x=>unsupported "internal:set_iterator")
   (fun fin s'=>∃ v,fin=PySem.Fin.done (Flow.ret v)/\wpAny (model prog w) A (pure (some v)) Q E s')
   (fun e s'=>wpAny (model prog w) A (do
    let b <- isInstance e (Value.type "StopIteration")
    if b=true then pure none else throw e) Q E s') s):wpAny (model prog w) A (pyNext (.ref it)) Q E s:=by
 have hT:s.TypeIs (.ref it) "set_iterator":=⟨_,hit,rfl⟩;unfold pyNext;refine wpAny_bind (wpAny_attempt (wpAny_callSpecial?_slot (name:=Str.ofString "__next__") hT sl_next (wpAny_call_entry sl_next hT aT6 ?_ (aT7 _))));unfold Builtin.«set_iterator.__next__»;refine wpAny_bind (wpAny_pure (wpAny_bind (wpAny_fieldsOf hit rfl ?_)));dsimp only;refine wpAny_bind (aJ2 ho p ?_);rw [if_neg (by simp)];exact h
def bV8 (k:Nat):rawInt ((k:Int)+1)=.int ((k+1:Nat):Int) 0:=by
 rw [show ((k+1:Nat):Int)=(k:Int)+1 by omega];rfl
def aJ3 {it:Addr} {i:Nat} {e:Int×Value} {Q:Option Value->Shared->Prop} (hd:vU w es t=false) (hia:a≠it) (hit:s.heap.get? it=some (itO (.int (slt w t i) 0) i (.ref a) es.size ep)) (ho:s.heap.get? a=some o) (p:Parts prog w o es ep t ks)
  (hi:(ord w a ep es)[i]?=some e) (hQ:∀ h',h'.get? it=some (itO (.int (slt w t (i+1)) 0) (i+1) (.ref a) es.size ep)->(∀ b o,b≠it->s.heap.get? b=some o->h'.get? b=some o)->Q (some e.2) { s with heap:=h' }) :
  wpAny (model prog w) A (pyNext (.ref it)) Q E s:=by
 have hz:i < es.size:=by
  have:=ord_perm (w:=w) (a:=a) (ep:=ep) (es:=es) |>.length_eq
  have h2:=(Array.getElem?_eq_some_iff.mp hi).1;simp at this;omega
 refine lQ hit ho p (wpAny_bind ?_);rw [Int.toNat_natCast];refine xV ho p hd (by omega) ?_;rw [hi];refine wpAny_bind (wpAny_setField_rec hit (by simp) fun h1 e1 s1=>wpAny_bind (wpAny_setField_rec (s:={ s with heap:=h1 }) e1 (by simp) fun h2 e2 s2=>wpAny_pure ⟨_,rfl,wpAny_pure (hQ h2 ?_ fun b o hb q=>s2.extBut b o hb (s1.extBut b o hb q))⟩));rw [bV8] at e2;exact e2
def aU0 {it:Addr} {Q:Option Value->Shared->Prop} (hh:A.handled=none) (hd:vU w es t=false) (hit:s.heap.get? it=some (itO (.int (slt w t es.size) 0) es.size (.ref a) es.size ep)) (ho:s.heap.get? a=some o) (p:Parts prog w o es ep t ks)
  (hQ:∀ h',(∀ b o,b≠it->s.heap.get? b=some o->h'.get? b=some o)->Q none { s with heap:=h' }):wpAny (model prog w) A (pyNext (.ref it)) Q E s:=by
 have hz:(ord w a ep es)[es.size]?=none:=by
  have:=ord_perm (w:=w) (a:=a) (ep:=ep) (es:=es) |>.length_eq
  simp at this;exact Array.getElem?_eq_none (by omega)
 refine lQ hit ho p (wpAny_bind ?_);rw [Int.toNat_natCast];refine xV ho p hd (Nat.le_refl _) ?_;rw [hz];exact wpAny_bind (wpAny_setField_rec hit (by simp) fun h1 e1 s1=>xW (s:={ s with heap:=h1 }) hh fun h2 k2=>hQ h2 fun b o hb q=>k2 b o (s1.extBut b o hb q))
def aJ4 {it T:Addr} {ps:List Nat} {oT:Obj} {nT:Nat} {i j:Nat} {e:Int×Value} {Q:Option Value->Shared->Prop} (hia:a≠it) (hiT:T≠it) (hit:s.heap.get? it=some (itO (.ref T) i (.ref a) es.size ep)) (hT:s.heap.get? T=some oT) (hTd:oT.data=.seq (ps.map fun (x:Nat)=>rawInt x).toArray nT) (hTc:oT.cls=.type "tuple")
  (ho:s.heap.get? a=some o) (p:Parts prog w o es ep t ks) (hj:ps[i]?=some j) (he:es[j]?=some e)
  (hQ:∀ h',h'.get? it=some (itO (.ref T) (i+1) (.ref a) es.size ep)->(∀ b o,b≠it->s.heap.get? b=some o->h'.get? b=some o)->Q (some e.2) { s with heap:=h' }) :
  wpAny (model prog w) A (pyNext (.ref it)) Q E s:=by
 refine lQ hit ho p ?_;dsimp only;refine wpAny_bind ?_;unfold seqItems?;dsimp only;refine wpAny_bind (wpAny_load hT ?_);rw [hTd];refine wpAny_pure ?_;dsimp only;rw [show ((ps.map fun (x:Nat)=>rawInt x).toArray)[i]?=some (Value.int j 0) by simp [hj,rawInt]];dsimp only;refine wpAny_bind ?_;unfold setNextDrawn;refine wpAny_bind (fZ ho p ?_);dsimp only;rw [if_neg (by simp),Int.toNat_natCast,he];refine wpAny_pure (wpAny_bind (wpAny_setField_rec hit (by simp) fun h1 e1 s1=>wpAny_pure ⟨_,rfl,wpAny_pure (hQ h1 ?_ fun b o hb q=>s1.extBut b o hb q)⟩));rw [bV8] at e1;exact e1
def aU1 {it T:Addr} {ps:List Nat} {oT:Obj} {nT:Nat} {Q:Option Value->Shared->Prop} (hh:A.handled=none) (hl:ps.length=es.size) (hit:s.heap.get? it=some (itO (.ref T) es.size (.ref a) es.size ep)) (hT:s.heap.get? T=some oT) (hTd:oT.data=.seq (ps.map fun (x:Nat)=>rawInt x).toArray nT) (hTc:oT.cls=.type "tuple")
  (ho:s.heap.get? a=some o) (p:Parts prog w o es ep t ks) (hQ:∀ h',(∀ b o,b≠it->s.heap.get? b=some o->h'.get? b=some o)->Q none { s with heap:=h' }):wpAny (model prog w) A (pyNext (.ref it)) Q E s:=by
 refine lQ hit ho p ?_;dsimp only;refine wpAny_bind ?_;unfold seqItems?;dsimp only;refine wpAny_bind (wpAny_load hT ?_);rw [hTd];refine wpAny_pure ?_;dsimp only;rw [show ((ps.map fun (x:Nat)=>rawInt x).toArray)[es.size]?=none by simp [hl]];exact wpAny_bind (wpAny_setField_rec hit (by simp) fun h1 e1 s1=>wpAny_bind (wpAny_setField_rec (s:={ s with heap:=h1 }) e1 (by simp) fun h2 e2 s2=>xW (s:={ s with heap:=h2 }) hh fun h3 k3=>hQ h3 fun b o hb q=>k3 b o (s2.extBut b o hb (s1.extBut b o hb q))))
end
end ST

namespace ST
open PySem PySem.Spec PyProof.Rows
def xX:Slot "set_iterator" "__iter__" "set_iterator.__iter__" :=
 .of (owner:="set_iterator") (n:="__iter__") (by rw [typeLookup_type,builtinLookup_eq_fast];kernel_rfl) (by decide +kernel) (by decide +kernel) (by decide +kernel) (by first | exact .inl (by decide +kernel) | exact .inr (by decide +kernel)) (by rw [isSubtype_type];kernel_rfl)
def aU2:entryFor table "set_iterator.__iter__"=some Builtin.«dict_keyiterator.__iter__»:=entryFor_alias (id':="dict_keyiterator.__iter__") (by kernel_rfl) (by decide +kernel) (by decide +kernel) (by kernel_rfl)
def aU3 (a:Value):argsOk "set_iterator.__iter__" ⟨[a],[]⟩:=by
 unfold argsOk;rw [signature?_of (id:="set_iterator.__iter__") (n:=['_','_','r','e','t','i','_','_']) (o:=['r','o','t','a','r','e','t','i','_','t','e','s']) (by kernel_rfl) xU]
 kernel_rfl
section
variable {prog:Program} {w:World} {A:Around} {E:Value->Shared->Prop} {s:Shared} {o:Obj} {es:Array (Int×Value)} {ep:Nat} {t:SetTable} {ks:List Int} {a:Addr}
def xY {it:Addr} {x:Value} {f:Value} {i n:Nat} {Q:Value->Shared->Prop} (st:s.heap.get? it=some (itO f i x n ep)) (hQ:Q (.ref it) s):wpAny (model prog w) A (pyIter (.ref it)) Q E s:=by
 have hT:s.TypeIs (.ref it) "set_iterator":=⟨_,st,rfl⟩;refine wpAny_pyIter_slot hT xX (wpAny_call_entry xX hT aU2 ?_ (aU3 _));show wpAny _ _ (ret (.ref it)) _ _ s;exact wpAny_pure ⟨_,rfl,"set_iterator",_,hT,sl_next.lookup,hQ⟩
def bV9 (hh:A.handled=none) (hd:vU w es t=false) (p:Parts prog w o es ep t ks) (it:Addr) (hia:a≠it) :
  Walks prog w A it [it,a] [it] es.size (fun i v=>((ord w a ep es).toList.map (·.2))[i]?=some v) (fun i h=>h.get? it=some (itO (.int (slt w t i) 0) i (.ref a) es.size ep)/\h.get? a=some o) where
 sub:=fun b hb=>by simp at hb;simp [hb]
 frame:=fun i h h' st k=>⟨k it (by simp) _ st.1,k a (by simp) _ st.2⟩
 item:=fun i s Q E hi st hQ=>by
  have hz:=(ord_perm (w:=w) (a:=a) (ep:=ep) (es:=es)).length_eq;simp at hz;have e1:(ord w a ep es)[i]?=some (ord w a ep es)[i]:=Array.getElem?_eq_getElem (by omega);refine aJ3 hd hia st.1 st.2 p e1 fun h' k1 k2=>hQ _ h' s.toks ?_ ⟨k1,k2 a o hia st.2⟩ fun b o hb e=>k2 b o (by simpa using hb) e;rw [List.getElem?_map,Array.getElem?_toList,e1];rfl
 done:=fun s Q E st hQ=>aU0 hh hd st.1 st.2 p fun h' k=>hQ h' s.toks fun b o hb e=>k b o (by simpa using hb) e
 self:=fun i s Q E st hQ=>xY st.1 hQ
def bW0 (hh:A.handled=none) (p:Parts prog w o es ep t ks) (it T:Addr) (ps:List Nat) (hp:ps.Perm (List.range es.size)) (hia:a≠it) (hiT:T≠it) :
  Walks prog w A it [it,a,T] [it] es.size (fun i v=>(ps.filterMap fun j=>es[j]?.map (·.2))[i]?=some v) (fun i h=>h.get? it=some (itO (.ref T) i (.ref a) es.size ep)/\h.get? a=some o/\∃ oT nT,h.get? T=some oT/\oT.data=.seq (ps.map fun (x:Nat)=>rawInt x).toArray nT/\oT.cls=.type "tuple") where
 sub:=fun b hb=>by simp at hb;simp [hb]
 frame:=fun i h h' st k=>⟨k it (by simp) _ st.1,k a (by simp) _ st.2.1,let ⟨oT,nT,e,r⟩:=st.2.2;⟨oT,nT,k T (by simp) _ e,r⟩⟩
 item:=fun i s Q E hi st hQ=>by
  obtain ⟨st1,st2,oT,nT,e,r1,r2⟩:=st;have hl:ps.length=es.size:=by simpa using hp.length_eq
  have hm:∀ j∈ps,∃ x,es[j]?=some x:=fun j hj=>⟨es[j]'(by simpa using hp.mem_iff.mp hj),Array.getElem?_eq_getElem _⟩;have ej:ps[i]?=some ps[i]:=List.getElem?_eq_getElem (by omega);obtain ⟨x,ex⟩:=hm _ (List.getElem_mem (show i < ps.length by omega));refine aJ4 hia hiT st1 e r1 r2 st2 p ej ex fun h' k1 k2=>hQ _ h' s.toks ?_ ⟨k1,k2 a o hia st2,oT,nT,k2 T _ hiT e,r1,r2⟩ fun b o hb e=>k2 b o (by simpa using hb) e;have gen:∀ (l:List Nat) (k:Nat) (j:Nat) (x:Int×Value),(∀ j∈l,∃ x,es[j]?=some x)->l[k]?=some j->es[j]?=some x->(l.filterMap fun j=>es[j]?.map (·.2))[k]?=some x.2:=by
   intro l;induction l with
   | nil=>intro k j x _ h;simp at h
   | cons y l ih =>
    intro k j x hm h1 h2;obtain ⟨z,hz⟩:=hm y List.mem_cons_self;rw [List.filterMap_cons,hz];cases k with
    | zero =>
     simp at h1;subst h1;rw [h2] at hz;cases hz;rfl
    | succ k=>exact ih k j x (fun j hj=>hm j (List.mem_cons_of_mem _ hj)) (by simpa using h1) h2
  exact gen ps i _ x hm ej ex
 done:=fun s Q E st hQ=>by
  obtain ⟨st1,st2,oT,nT,e,r1,r2⟩:=st;have hl:ps.length=es.size:=by simpa using hp.length_eq
  exact aU1 hh hl st1 e r1 r2 st2 p fun h' k=>hQ h' s.toks fun b o hb e=>k b o (by simpa using hb) e
 self:=fun i s Q E st hQ=>xY st.1 hQ
theorem xZ {α:Type}:∀ (n:Nat) (xs:List α) (s:Shared) (Q:List α->Shared->Prop),n=xs.length->(∀ ys dr,ys.Perm xs->Q ys { s with drawn:=dr })->wpAny (model prog w) A (drawOrder n xs) Q E s
 | 0,xs,s,Q,hn,h=>by
  have:xs=[]:=List.length_eq_zero_iff.mp hn.symm;subst this;unfold drawOrder;exact wpAny_pure (h [] s.drawn (List.Perm.refl _))
 | n+1,[],s,Q,hn,h=>by simp at hn
 | n+1,x::xs,s,Q,hn,h=>by
  unfold drawOrder;have h0:∀ i,i < (x::xs).length->wpAny (model prog w) A (match (x::xs)[i]? with
   | some y=>do
    let r <- drawOrder n ((x::xs).eraseIdx i)
    pure (y::r)
   | none=>unsupported "internal:drawOrder") Q E { s with drawn:=s.drawn.bump .order }:=by
   intro i hi;rw [List.getElem?_eq_getElem hi];refine wpAny_bind (xZ n _ _ _ (by rw [List.length_eraseIdx_of_lt hi];simp at hn ⊢;omega) fun ys dr hy=>wpAny_pure (h _ dr ?_));exact (List.Perm.cons _ hy).trans (iP _ _ hi)
  refine wpAny_bind (show wpAny (model prog w) A (choose .order (x::xs).length) _ _ _ from fun Γ p hΓ=>⟨by simp,?_⟩);rw [Sem.wp_pure];exact h0 _ (Nat.mod_lt _ (by simp))
def aA7 (ps:List Nat) (hp:ps.Perm (List.range es.size)):(ps.filterMap fun j=>es[j]?.map (·.2)).Perm (es.toList.map (·.2)):=by
 refine (hp.filterMap _).trans (List.Perm.of_eq ?_);have:=filterMap_getElem?_range es;rw [<- this,List.map_filterMap]
def aJ5 (hh:A.handled=none) (ho:s.heap.get? a=some o) (p:Parts prog w o es ep t ks) {Q:Value->Shared->Prop}
  (h:∀ (I:Addr) (fp:List Addr) (St:Nat->Heap->Prop) (vs:List Value) (h':Heap) dr,vs.Perm (es.toList.map (·.2))->Walks prog w A I fp [I] es.size (fun i v=>vs[i]?=some v) St->St 0 h'->(∀ b o,s.heap.get? b=some o->h'.get? b=some o) ->
   s.heap.objs.size<=I->(∀ b∈fp,b=a\/s.heap.objs.size<=b)->Q (.ref I) { s with heap:=h',drawn:=dr }):wpAny (model prog w) A (pyIter (.ref a)) Q E s:=by
 have hT:s.TypeIs (.ref a) "set":=⟨_,ho,p.ex.1⟩;have hlt:a < s.heap.objs.size:=Heap.lt_size ho;refine wpAny_pyIter_slot hT PySem.F.slot_set_iter (wpAny_call_entry PySem.F.slot_set_iter hT aT8 ?_ (PySem.F.args_set_iter_1 _));unfold Builtin.«frozenset.__iter__»;refine wpAny_bind (wpAny_pure ?_);unfold Builtin.Frozenset.sizeOf;refine wpAny_bind (wpAny_bind (aJ2 ho p (wpAny_pure ?_)));refine wpAny_bind (aJ1 ho p ?_);cases hd:vU w es t with
 | true =>
  rw [if_pos rfl];refine wpAny_bind (xZ _ _ _ _ (by simp) fun ps dr hp=>?_);refine wpAny_bind (wpAny_newTuple (items:=ps.map fun (i:Nat)=>rawInt i) ?_ (by
   have:=hp.length_eq;simp at this ⊢;rw [this];exact fits_of_scanBound p.few))
  unfold newFields;refine wpAny_bind (wpAny_setEpoch_of (Heap.get?_push_of_some _ ho) p.dat p.fit ?_);refine wpAny_bind (wpAny_newObj_type (wpAny_pure ⟨_,rfl,"set_iterator",_,⟨_,Heap.get?_push_size _ rfl,rfl⟩,sl_next.lookup,?_⟩));refine h _ _ _ (ps.filterMap fun j=>es[j]?.map (·.2)) _ dr (aA7 ps hp) (bW0 hh p _ s.heap.objs.size ps hp (by rw [Heap.size_push];exact Nat.ne_of_lt (Nat.lt_succ_of_lt hlt)) (by rw [Heap.size_push];exact Nat.ne_of_lt (Nat.lt_succ_self _)))
   ⟨Heap.get?_push_size _ rfl,Heap.get?_push_of_some _ (Heap.get?_push_of_some _ ho),_,_,Heap.get?_push_of_some _ (Heap.get?_push_size _ rfl),rfl,rfl⟩ (fun b o e=>Heap.get?_push_of_some _ (Heap.get?_push_of_some _ e)) (by rw [Heap.size_push];exact Nat.le_succ _) fun b hb=>?_
  simp only [List.mem_cons,List.not_mem_nil,or_false] at hb;rcases hb with rfl | rfl | rfl
  ·exact .inr (by rw [Heap.size_push];exact Nat.le_succ _)
  ·exact .inl rfl
  ·exact .inr (Nat.le_refl _)
 | false =>
  rw [if_neg (by simp)];refine wpAny_bind (wpAny_pure ?_);unfold newFields;refine wpAny_bind (wpAny_setEpoch_of ho p.dat p.fit ?_);refine wpAny_bind (wpAny_newObj_type (wpAny_pure ⟨_,rfl,"set_iterator",_,⟨_,Heap.get?_push_size _ rfl,rfl⟩,sl_next.lookup,?_⟩));refine h _ _ _ ((ord w a ep es).toList.map (·.2)) _ s.drawn (ord_perm.map _) (bV9 hh hd p s.heap.objs.size (Nat.ne_of_lt hlt)) ⟨?_,Heap.get?_push_of_some _ ho⟩ (fun b o e=>Heap.get?_push_of_some _ e) (Nat.le_refl _) fun b hb=>?_
  ·simp only [List.mem_cons,List.not_mem_nil,or_false] at hb;rcases hb with rfl | rfl
   ·exact .inr (Nat.le_refl _)
   ·exact .inl rfl
  ·have e0:slt w t 0=0:=by unfold slt;split<;>rfl
   rw [e0];exact Heap.get?_push_size _ rfl
end
end ST

namespace ST
open PySem PySem.Spec PyProof.Rows
section
variable {prog:Program} {w:World} {A:Around} {E:Value->Shared->Prop} {s:Shared} {o:Obj} {es:Array (Int×Value)} {ep:Nat} {t:SetTable} {ks:List Int} {a:Addr}
def aJ6 {Q:Bool->Shared->Prop} (hT:s.TypeIs (.ref a) "set") (h:Q false s):wpAny (model prog w) A (Builtin.List.listLengthHint (.ref a)) Q E s:=by
 unfold Builtin.List.listLengthHint;refine wpAny_bind (wpAny_specialOf hT PySem.F.slot_set_len.lookup ?_);generalize hid:("set.__len__":String)=id0
 wp_delta
 rw [show splitId id0=some ("set","__len__") from by subst hid;decide +kernel];subst hid;refine wpAny_bind (wpAny_isInstance (T:="set") (b:=true) hT (by rw [isSubtype_type];kernel_rfl) (wpAny_ite_split (fun z=>absurd z (by decide)) fun _=>wpAny_ite_split (fun _=>?_) fun z=>absurd (by decide +kernel) z));exact wpAny_bind (wpAny_typeOf hT (wpAny_pure h))
def sY (hh:A.handled=none) (ho:s.heap.get? a=some o) (p:Parts prog w o es ep t ks) {R:List Value->Shared->Prop}
  (h:∀ (vs:List Value) h' dr tk,vs.Perm (es.toList.map (·.2))->s.heap.objs.size<=h'.objs.size->(∀ b o,s.heap.get? b=some o->h'.get? b=some o)->R vs { s with heap:=h',drawn:=dr,toks:=tk }):wpAny (model prog w) A (collect (.ref a)) R E s:=by
 have hn:es.size<=sizeLine:=fits_of_scanBound p.few;have hlt:a < s.heap.objs.size:=Heap.lt_size ho;unfold collect;refine wpAny_bind (wpAny_runValue (codeAny_builtin PySem.F.entry_proto_collect ?_));rw [Around.under_plainId PySem.F.plain_proto_collect _];refine wpAny_bind (wpAny_newObj_type (wpAny_pure ⟨plainId_quiet PySem.F.plain_list_iadd _,codeAny_builtin PySem.F.entry_list_iadd ?_⟩));rw [Around.under_plainId PySem.F.plain_list_iadd _];show wpAny _ _ (Builtin.List.listExtendWith (.ref s.heap.objs.size) (.ref a) (.ref s.heap.objs.size)) _ _ _;unfold Builtin.List.listExtendWith;have ho1:(s.heap.push { cls:=.type "list",data:=.seq ([]:List Value).toArray }).get? a=some o:=Heap.get?_push_of_some _ ho;have hT:Shared.TypeIs { s with heap:=s.heap.push { cls:=.type "list",data:=.seq ([]:List Value).toArray } } (.ref a) "set":=⟨_,ho1,p.ex.1⟩;refine wpAny_bind (wpAny_typeOf hT ?_);have n1:Builtin.List.listSameRef (.ref s.heap.objs.size) (.ref a)=false:=by simp [Builtin.List.listSameRef,Nat.ne_of_gt hlt]
 simp only [n1,show (Value.type "set"==Value.type "list")=false by decide,show (Value.type "set"==Value.type "tuple")=false by decide,Bool.or_false,Bool.false_eq_true,if_false];refine wpAny_bind (aJ5 (A:=A.in1) hh ho1 p fun I fp St vs h1 dr hp W st k1 hI hfp=>?_);have hS1:h1.get? s.heap.objs.size=some { cls:=.type "list",data:=.seq #[] }:=k1 _ _ (Heap.get?_push_size _ rfl);have sz:(s.heap.push { cls:=.type "list",data:=.seq ([]:List Value).toArray }).objs.size=s.heap.objs.size+1:=by rw [Heap.size_push]
 have hSf:s.heap.objs.size∉fp:=fun z=>by
  rcases hfp _ z with e | e
  ·exact absurd e (Nat.ne_of_gt hlt)
  ·rw [sz] at e;exact absurd e (Nat.not_succ_le_self _)
 have hIs:s.heap.objs.size < I:=by rw [sz] at hI;exact hI
 refine wpAny_bind (wpAny_holding (aJ6 (s:={ s with heap:=h1,drawn:=dr }) ⟨_,k1 a o ho1,p.ex.1⟩ ?_));have key:∀ (h2:Heap) (c:Nat),St 0 h2->(∀ b o,b≠s.heap.objs.size->h1.get? b=some o->h2.get? b=some o)->h2.get? s.heap.objs.size=some { cls:=.type "list",data:=.seq #[] c } ->
   codeAny (model prog w) A (.builtin "list.extend.loop" ⟨[.ref s.heap.objs.size,.ref I,.ref s.heap.objs.size],[]⟩) (fun r s'=>match r with
    | .ok (.ret v)=>wpAny (model prog w) A (do
      let o <- load s.heap.objs.size
      match o.data with
      | .seq xs _=>pure xs.toList
      | _=>unsupported "internal:collect") R E s'/\v=.ref s.heap.objs.size
    | _=>False) { s with heap:=h2,drawn:=dr }:=fun h2 c st2 k2 hS2=>by
  refine codeAny_extend_loopS W.toS hn _ hSf _ es.size 0 _ #[] c rfl (Nat.zero_le _) st2 hS2 (ItemsOf.nil _) fun s' acc c' hm hS' hacc=>⟨wpAny_bind (wpAny_load hS' (wpAny_pure ?_)),rfl⟩;have hv:acc.toList=vs:=by
   apply List.ext_getElem?;intro i
   by_cases hi:i < acc.size
   ·rw [Array.getElem?_toList];have e1:acc[i]?=some acc[i]:=Array.getElem?_eq_getElem hi;rw [e1,hacc.2 i _ e1]
   ·have l1:=hacc.1;have l2:=hp.length_eq;rw [List.getElem?_eq_none (by simp;omega),List.getElem?_eq_none (by simp at l2;omega)]
  have e:=Moved.eq_with hm;rw [e];show R acc.toList _;rw [hv];refine h vs s'.heap dr s'.toks hp (Nat.le_of_lt (Heap.lt_size hS')) fun b o e=>?_;have bl:=Heap.lt_size e;refine hm.heap b o ?_ (k2 b o (Nat.ne_of_lt bl) (k1 b o (Heap.get?_push_of_some _ e)));simp only [List.mem_cons,List.not_mem_nil,or_false,not_or];exact ⟨Nat.ne_of_lt bl,Nat.ne_of_lt (Nat.lt_trans bl hIs)⟩
 refine wpAny_ite_split (fun _=>?_) fun _=>wpAny_pure ⟨plainId_quiet PySem.F.plain_extend_loop _,codeAny_mono (key h1 0 st (fun b o _ e=>e) hS1) fun r s' hr=>?_⟩
 ·refine wpAny_bind (wpAny_rule (wpAny_bind ?_));show wpAny _ _ (updateSeq s.heap.objs.size (·.push .none) >>= fun _=>updateSeq s.heap.objs.size (·.pop)) _ _ _;have hS2:=Heap.get?_update_self (Obj.mapSeq (·.push Value.none)) hS1 rfl;have hS3:=Heap.get?_update_self (Obj.mapSeq (·.pop)) hS2 rfl;have oth:∀ b o,b≠s.heap.objs.size->h1.get? b=some o->((h1.update s.heap.objs.size (Obj.mapSeq (·.push Value.none))).update s.heap.objs.size (Obj.mapSeq (·.pop))).get? b=some o:=fun b o hb e =>
   (Heap.get?_update_other _ _ (Ne.symm hb)).trans ((Heap.get?_update_other _ _ (Ne.symm hb)).trans e)
  refine wpAny_bind (wpAny_updateSeq hS1 rfl (wpAny_updateSeq (hz:=by seq_fits) hS2 rfl (wpAny_pure ⟨plainId_quiet PySem.F.plain_extend_loop _,codeAny_mono (key _ _ (W.frame 0 _ _ st fun b hb o e=>oth b o (fun z=>hSf (by rw [<- z];exact hb)) e) oth hS3) fun r s' hr=>?_⟩)));cases r with
  | error e=>exact hr.elim
  | ok fl =>
   cases fl with
   | ret v=>obtain ⟨q1,rfl⟩:=hr;exact q1
   | _=>exact hr.elim
 ·cases r with
  | error e=>exact hr.elim
  | ok fl =>
   cases fl with
   | ret v=>obtain ⟨q1,rfl⟩:=hr;exact q1
   | _=>exact hr.elim
def aJ7 {vs:List Value} (h:∀ v∈vs,∃ tk,v=.int (oU v) tk):IntsAre vs (vs.map oU):=by
 induction vs with
 | nil=>exact .nil
 | cons v r ih =>
  obtain ⟨tk,e⟩:=h v List.mem_cons_self;have q:=ih fun u hu=>h u (List.mem_cons_of_mem _ hu);rw [List.map_cons];generalize oU v=k at e;subst e;exact .cons _ _ q
def vV (hh:A.handled=none) (hs:SetI prog w s.heap a ks) (h64:ks.length < 64) {Q:Value->Shared->Prop}
  (h:∀ (b:Addr) (vs:List Value) (ns:List Int) (c:Nat) h' dr tk,IntsAre vs ns->ns.Perm ks->ns.Pairwise (·<=·)->s.heap.get? b=none->h'.get? b=some (seqObj "list" vs.toArray c)->(∀ b o,s.heap.get? b=some o->h'.get? b=some o)->Q (.ref b) { s with heap:=h',drawn:=dr,toks:=tk }) :
  wpAny (model prog w) A (call (.builtin "sorted") [.ref a]) Q E s:=by
 obtain ⟨o,es,ep,t,ho,p⟩:=hs;have hl:es.size=ks.length:=by have:=p.ks.length_eq;simpa using this
 refine kD (n:=es.size) (by omega) (fun R hR=>sY (A:=A.in1) (by simp [hh]) ho p fun vs h' dr tk hp z k=>hR vs (vs.map oU) h' dr tk (aJ7 fun v hv=>?_) ?_ ?_ k) h
 ·obtain ⟨e,he,rfl⟩:=List.mem_map.mp (hp.mem_iff.mp hv);exact vS p.el he
 ·simpa using hp.length_eq
 ·refine (hp.map oU).trans ?_;rw [List.map_map];exact p.ks
end
end ST

namespace ST
open PySem PySem.Spec PyProof.Rows
end ST
namespace DL
open PySem PySem.Spec PyProof.Rows L2 CI ST
section
variable {X:Cx} {st:Sta} {d:Nat} {v:Evs} {a:Expr} {p p2 pos pos2:Pos}
def bI7 (S:Snd v) (G:Good X st d) (hh0:(!st.hm)=true) (h1:okC st "sorted"=true) (h2:okC st "set"=true):SF X (.Call (.Name "sorted" p) [.Call (.Name "set" p2) [a] [] pos2] [] pos) (xb (aR v st [a]) fun ws=>fun _ h=>xSS ws h):=by
 intro κ M δ h s w h' R F e;obtain ⟨ws,hh,e1,e⟩:=aH e;obtain ⟨n1,n2,n3⟩:=dI G h1;refine wpAny_Call_Name_kw (cU (u:=.builtin "sorted") F R n2 n3 (by decide +kernel) n1 ?_);refine PyProof.Rows.callWith_builtin1 (jH (by rfl) ?_) rfl rfl;refine kA (f:=.type "set") S G h2 (by decide +kernel) (.inr ⟨_,rfl⟩) R F e1 fun {M1 us s1} l1 R1 r1=>?_;have sb:scanBound=4096:=rfl;have fin:∀ {ns:List Int} {h2:Heap} {tk2:Nat},(dd ns).length < 64->SetI X.S.P X.S.w h2 s1.heap.objs.size (dd ns)->(∀ b o,s1.heap.get? b=some o->h2.get? b=some o)->Wp X.S X.A (call (.builtin "sorted") [.ref s1.heap.objs.size]) (Pf X.S κ M hh ((srt (dd ns)).map .int)) NE { s1 with heap:=h2,toks:=tk2 }:=fun {ns h2 tk2} hn si k2=>by
  refine vV (G.nh hh0) si hn fun b vs' ns' c h3 dr tk hi' hp ho hz hb k=>?_;have e2:=mX hp ho;subst e2;have hlen:=hi'.length;have hpl:=hp.length_eq;have k3:∀ b o,s1.heap.get? b=some o->h3.get? b=some o:=fun b o q=>k b o (k2 b o q);exact ⟨M1,l1,R1.dr h3 dr tk k3,b,vs',c,rfl,hb,R1.new (by cases q:s1.heap.get? b with | none=>rfl | some o=>rw [k2 b o q] at hz;cases hz),by rw [hlen,hpl,sizeLine_eq];omega,gQ hi'⟩
 unfold xSS at e;split at e
 ·obtain ⟨u,rfl,ru⟩:=w1 r1;split at e
  ·rename_i xs ex;obtain ⟨ns,en,e⟩:=bind_some e;obtain ⟨hn,e⟩:=aI e;cases e;obtain ⟨b,vs,n,rfl,ho,hz,rr⟩:=dE R1 ru ex;have hi:=lO en rr;exact sX (b:=false) (G.nh hh0) (bW ho).isList (by simpa using hi) (by have:=hi.length;simp;omega) fun h2 tk2 si k2=>fin hn.1 si k2
  ·cases e
 ·cases e
end
end DL

namespace DL
open PySem PySem.Spec PyProof.Rows L2 CI
section
variable {X:Cx} {st:Sta} {d:Nat} {v:Evs} {κ:Kp} {M:Mp} {δ:DSt} {h h':aA} {s:Shared} {a b c e o tg iter:Expr} {es:List Expr} {pos p p2 apos:Pos} {x m:Str} {w:W}
def yA (h:uV e=false) (o i:Value):subscripted e false o i=operate [o,i] (getItem o i):=by
 cases e<;>first | rfl | cases h
def cL5 (S:Snd v) (G:Good X st d) (hs:uV b=false):SE X (.Subscript a b pos) (xb (v.E st a) fun x=>xb (v.E st b) fun y=>fun _ h=>xIx x y h):=fun _ _ _ _ _ _ _ R F e =>
 Subscript_ (two (S.E G a) (S.E G b) R F e fun R1 _ ra rb e=>bS1 G.rm R1 ra rb e (yA hs))
theorem bW1 (S:Snd v) (G:Good X st d) {f:Str->Option PyData} (hf:iX st a=some f) (hs:uV b=false):SE X (.Subscript a b pos) (xb (v.E st b) fun w=>(match w with
    | .d (.str z)=>(match f z with
     | some i=>aF (.d i)
     | none=>xno)
    | _=>xno)):=by
 intro κ M δ h s w h' R F e;obtain ⟨y,p,p',rfl,hn,hg,hm,T⟩:=aG0 G hf;obtain ⟨x,h1,e1,e⟩:=aH e;refine Subscript_ (fF F R hg hm hn (thn (S.E G b R F e1) fun u s1 ⟨M1,l1,R1,r1⟩=>?_));obtain ⟨g,m,g0,g1,g2⟩:=T.map (prog:=X.S.P) (F.ok.mod.kin.keeps R1.bk);rcases x with (_ | _ | _ | z | _ | _ | _) | _<;>first | cases e;done | skip
 obtain ⟨⟨t,rfl⟩,_⟩:=rep_s.mp (show Rep X.S M1.Z _ _ from r1);have e:(match f z with
  | some i=>aF (.d i)
  | none=>xno:XR W) δ h1=some (w,h'):=e
 cases ei:f z with
 | some i =>
  rw [ei] at e;cases e;obtain ⟨t',q',rq⟩:=g1 z i ei;exact xI m.typeIs PySem.F.slot_dict_getitem.lookup (yA hs _ _) (wpAny_getItem_of (qP z t) m q' (((R1.tok _).pw (w:=.d i) (show Rep X.S M1.Z i t' from Rep.go R1.base rq)).go l1))
 | none=>rw [ei] at e;cases e
def aU4:SE X (.Dict [] [] pos) (aF (.d (.dict []))):=by
 intro κ M δ h s w h' R F e;cases e;refine wpAny_Dict_empty ?_;have hd:(s.heap.push { cls:=.type "dict",data:=.dict #[] }).DictOf (cM X.S.P X.S.w) s.heap.objs.size []:=Heap.DictOf.new s.heap;obtain ⟨o,es,ep,ho,hr⟩:=hd;have R1:Mem X.S κ M h { s with heap:=s.heap.push { cls:=.type "dict",data:=.dict #[] } }:=R.kept (t:=s.toks) fun b o e=>Heap.get?_push_of_some _ e;refine ⟨M.add s.heap.objs.size o,Le.add R.size.1,R1.frz R.size ho,?_⟩;exact (bA0 (S:=X.S) (Z:=(M.add s.heap.objs.size o).Z) rfl).mpr ⟨_,o,[],rfl,iT,⟨qX F R,Nat.zero_le _,fun h2 e2=>⟨o,es,ep,e2,hr⟩⟩,.nil⟩
def bI8:SE X (.Dict [] [] pos) xG:=by
 intro κ M δ h s w h' R F e;cases e;refine wpAny_Dict_empty ?_;have hd:(s.heap.push { cls:=.type "dict",data:=.dict #[] }).DictOf (cM X.S.P X.S.w) s.heap.objs.size []:=Heap.DictOf.new s.heap;obtain ⟨o,es,ep,ho,hr⟩:=id hd;have R1:Mem X.S κ M h { s with heap:=s.heap.push { cls:=.type "dict",data:=.dict #[] } }:=R.kept (t:=s.toks) fun b o e=>Heap.get?_push_of_some _ e;exact ⟨M.cel (s.heap.objs.size,s.heap.objs.size),.cel,R1.add R.size R.size ⟨⟨_,ho⟩,_,ho⟩ ⟨[],hd,.nil,qX F R,Nat.zero_le _⟩,(s.heap.objs.size,s.heap.objs.size),by show (M.m++[_])[h.length]?=_;rw [<- R.len];simp,rfl⟩

def bW2 {S:Sx} (hS:S.hm=false):BfS S (.builtin "min") xMn:=by
 intro κ M h h' s A E ws us w d hr hk hK hsm R r e;unfold xMn at e;split at e
 ·cases e;obtain ⟨u,v,rfl,ra,rb⟩:=w2 r;obtain ⟨t,rfl⟩:=wi.mp ra;obtain ⟨t',rfl⟩:=wi.mp rb;rename_i a b;refine min_two_ints (hr.hd hS) fun h2 tk k=>(R.kept (t:=tk) k).pw (wi.mpr ?_)
  by_cases z:b < a
  ·rw [if_pos z];exact ⟨t',by rw [Int.min_eq_right (Int.le_of_lt z)]⟩
  ·rw [if_neg z];exact ⟨t,by rw [Int.min_eq_left (Int.not_lt.mp z)]⟩
 ·cases e
def aU5 {S:Sx} {g:List W->aA->Option (W×aA)} (h:bE1 S.hm x=some g):∃ f,bootBuiltins x=some f/\((∃ i,f=.builtin i)\/∃ i,f=.type i)/\BfS S f g:=by
 unfold bE1 at h;split at h
 ·rename_i e;cases h;subst e;exact ⟨_,by decide +kernel,.inl ⟨_,rfl⟩,bS2⟩
 split at h
 ·rename_i e;cases h;subst e;exact ⟨.type "tuple",by decide +kernel,.inr ⟨_,rfl⟩,aR1⟩
 split at h
 ·rename_i e;cases h;subst e;exact ⟨.builtin "all",by decide +kernel,.inl ⟨_,rfl⟩,bS3⟩
 split at h
 ·rename_i e;cases h;subst e;exact ⟨.type "int",by decide +kernel,.inr ⟨_,rfl⟩,bS5⟩
 split at h
 ·rename_i e;subst e
  by_cases hS:S.hm=true
  ·rw [if_pos hS] at h;cases h
  ·rw [if_neg hS] at h;cases h;exact ⟨.builtin "min",by decide +kernel,.inl ⟨_,rfl⟩,bW2 (by simpa using hS)⟩
 split at h
 ·rename_i e;cases h;subst e;exact ⟨.builtin "any",by decide +kernel,.inl ⟨_,rfl⟩,bS4⟩
 ·cases h
def aJ8 (S:Snd v) (G:Good X st d):SF X (.Call (.Name x p) (a::es) [] pos) (bV v st (.Call (.Name x p) (a::es) [] pos)):=by
 unfold bV;dsimp only;split
 ·rename_i hx;subst hx;split
  ·rename_i b hq hqe;clear hqe;obtain ⟨p2,q2,heq⟩:=hq;cases heq;split
   ·rename_i hc;simp only [Bool.and_eq_true] at hc;exact bH4 S G hc.2 hc.1.1 hc.1.2
   ·exact hU
  ·split
   ·rename_i hc;exact bU8 S G hc
   ·exact hU
 ·split
  ·rename_i hx;subst hx;split
   ·rename_i b hq hqe;clear hqe;obtain ⟨p2,q2,heq⟩:=hq;cases heq;split
    ·rename_i hc;rw [Bool.and_eq_true,Bool.and_eq_true,Bool.and_eq_true] at hc;exact bI7 S G hc.2 hc.1.1.1 hc.1.1.2
    ·exact hU
   ·split
    ·rename_i hc;rw [Bool.and_eq_true] at hc;exact bV7 S G hc.2 hc.1
    ·exact hU
  ·exact hU
def iQ (S:Snd v) (G:Good X st d) (e:Expr):SF X e (bV v st e):=by
 cases e with
 | List es p=>exact qR S G
 | ListComp elt gs sc p =>
  rcases gs with _ | ⟨⟨tg,iter,ifs,a⟩,_ | ⟨_,_⟩⟩
  ·exact hU
  ·by_cases ha:a=0
   ·subst ha;exact bG6 S (iM S) G
   ·have:bV v st (.ListComp elt [⟨tg,iter,ifs,a⟩] sc p)=xno:=if_neg ha;rw [this];exact hU
  ·exact hU
 | BinOp a op b p =>
  cases op with
  | Add=>exact bU5 S G
  | Mult =>
   cases a with
   | List es p'=>exact bU7 S G
   | _=>exact hU
  | _=>exact hU
 | Call f args kw p =>
  cases f with
  | Name x px =>
   rcases args with _ | ⟨a,es⟩
   ·exact hU
   ·rcases kw with _ | ⟨k,ks⟩
    ·exact aJ8 S G
    ·exact hU
  | _=>exact hU
 | _=>exact hU
end
end DL

namespace ST
open PySem PySem.Spec PyProof.Rows
section
variable {prog:Program} {w:World} {A:Around} {E:Value->Shared->Prop} {s:Shared} {R:Result->Shared->Prop}
end
end ST
namespace DL
open PySem PySem.Spec PyProof.Rows L2 CI ST
section
variable {X:Cx} {st:Sta} {d:Nat} {v:Evs} {a:Expr} {p p2 pos pos2:Pos}
def rE (G:Good X st d) {x:Str} (h:okB st x=true):(cR st x&&(slot st x).isNone&&st.bl.contains x)=true:=by
 unfold okB at h;rw [Bool.and_eq_true] at h;exact h.1
end
end DL

namespace DL
open PySem PySem.Spec PyProof.Rows L2 CI
section
variable {X:Cx} {st:Sta} {d:Nat} {v:Evs} {κ:Kp} {M:Mp} {δ:DSt} {h h':aA} {s:Shared} {a b c e o tg iter:Expr} {es:List Expr} {pos p p2 apos:Pos} {x m:Str} {w:W}
def bI9 (S:Snd v) (G:Good X st d) {p:Pos} {args:List Expr} (hx:(cR st "isinstance"&&(slot st "isinstance").isNone&&st.bl.contains "isinstance")=true):SE X (.Call (.Name "isinstance" p) args [] pos) (bE8 v st args):=by
 unfold bE8;cases bR8 args with
 | some y =>
  obtain ⟨⟨e,T⟩,q,rfl⟩:=y;dsimp only;split
  ·rename_i hc;simp only [Bool.and_eq_true] at hc;split
   ·rename_i Ts hT;exact bU9 S G hx hc.1.1.1 (by rw [hc.1.1.2,hc.1.2,hc.2];rfl) hT
   ·exact cH
  ·exact cH
 | none=>exact cH
def bW3 (S:Snd v) (G:Good X st d) {o:Expr} {m:Str} {apos:Pos} {args:List Expr}:SE X (.Call (.Attribute o m apos) args [] pos) (bE9 v st o m apos pos args):=by
 unfold bE9;split
 ·rename_i hc;rw [Bool.and_eq_true] at hc;rcases args with _ | ⟨a,es⟩
  ·dsimp only;split
   ·rename_i hm;subst hm;exact bH5 S G hc.1 hc.2
   ·exact cH
  ·rcases es with _ | ⟨b,es⟩
   ·dsimp only;split
    ·rename_i hm;subst hm;split
     ·exact bV1 S G hc.1 hc.2
     ·exact cH
    ·split
     ·rename_i hm;subst hm;split
      ·exact bV2 S G hc.1 hc.2
      ·exact cH
     ·split
      ·rename_i g hg;exact aH2 S G hg hc.1 hc.2 (by show 1 < 29;decide)
      ·exact cH
   ·dsimp only;split
    ·rename_i hn;split
     ·rename_i g hg;exact aH2 S G hg hc.1 hc.2 (by simpa using hn)
     ·exact cH
    ·exact cH
 ·exact cH
def bJ0 (S:Snd v) (G:Good X st d) {f:Expr} {args:List Expr}:SE X (.Call f args [] pos) (xE v st f args pos):=by
 cases f with
 | Name x p =>
  unfold xE;dsimp only;split
  ·rename_i ht;rw [Bool.and_eq_true] at ht;split
   ·rename_i m hm;rcases args with _ | ⟨a,es⟩
    ·exact cH
    ·exact bB1 S G ht.1 (G.fnW _ _ hm)
   ·split
    ·exact cH
    ·split
     ·rename_i m hm;rcases args with _ | ⟨a,es⟩
      ·exact cH
      ·exact bB1 S G ht.1 (G.fn _ _ hm)
     ·split
      ·rename_i hbl;have hx:(cR st x&&(slot st x).isNone&&st.bl.contains x)=true:=by rw [ht.1,ht.2,hbl];rfl
       split
       ·rename_i g hg;rcases args with _ | ⟨a,es⟩
        ·exact cH
        ·obtain ⟨f,h1,h2,h3⟩:=aU5 (S:=X.S) (G.hm ▸ hg);exact cL4 S G hx h1 h2 h3
       ·split
        ·rename_i hi;subst hi;exact bI9 S G hx
        ·rcases args with _ | ⟨a,es⟩
         ·exact mR hU
         ·exact mR (aJ8 S G)
      ·exact cH
  ·split
   ·rcases args with _ | ⟨a,es⟩
    ·exact cH
    ·exact bG9 S G
   ·exact cH
 | Attribute o m apos =>
  unfold xE;dsimp only;split
  ·exact cH
  ·exact bW3 S G
 | _=>exact cH
def bJ1 (S:Snd v) (G:Good X st d) {f:Expr} {args:List Expr}:SE X (.Call f args [] pos) (aE9 v st f args pos):=by
 unfold aE9;cases hr:fuR f args with
 | none =>
  dsimp only;cases hv:fuV f args with
  | none=>exact bJ0 S G
  | some y =>
   obtain ⟨a,p,p2,q,rfl,rfl⟩:=y;dsimp only;split
   ·rename_i hc;simp only [Bool.and_eq_true] at hc;exact bH8 S G hc.2 (rE G hc.1.1.1) (rE G hc.1.1.2) hc.1.2
   ·exact cH
 | some y =>
  obtain ⟨a,p,p2,q,rfl,rfl⟩:=y;dsimp only;split
  ·rename_i hc;simp only [Bool.and_eq_true] at hc;exact aH9 S G hc.2 (rE G hc.1.1.1.1) (rE G hc.1.1.1.2) hc.1.1.2 hc.1.2
  ·exact cH
def bJ2 (S:Snd v) (G:Good X st d) (e:Expr):SE X e (xF v st e):=by
 cases e with
 | Name x p=>exact aF8 G
 | Constant c k p=>exact aR4
 | BinOp a op b p =>
  unfold xF;dsimp only;split
  ·rename_i es p';have:bV v st (.BinOp (.List es p') .Mult b p')=bV v st (.BinOp (.List es p') .Mult b p):=rfl;rw [this];exact mR (iQ S G _)
  ·exact bT2 S G
 | Compare a ops cs p=>exact bH3 S G
 | BoolOp op vs p =>
  cases op with
  | And=>exact aF9 S G vs
  | Or=>exact bA6 S G vs
 | UnaryOp op a p =>
  cases op with
  | Not=>exact bT3 S G
  | USub=>exact bT4 S G
  | _=>exact cH
 | IfExp c a b p=>exact bT5 S G
 | Tuple es k p=>exact bT9 S G
 | List es p=>exact mR (iQ S G _)
 | ListComp elt gs sc p =>
  show SE X _ (match gW st gs with
   | some (tg,iter,ifs)=>qH v st elt tg iter ifs sc
   | none=>aN (bV v st (.ListComp elt gs sc p)))
  split
  ·rename_i tg iter ifs e;rw [bU4 e];exact aR9 S G
  ·exact mR (iQ S G _)
 | Subscript a b p =>
  unfold xF;dsimp only;split
  ·exact bU6 S G
  ·split
   ·exact cH
   ·rename_i hs;have hs:uV b=false:=by simpa using hs
    split
    ·rename_i f hf;exact bW1 S G hf hs
    ·exact cL5 S G hs
 | Call f args kw p =>
  rcases kw with _ | ⟨k,ks⟩
  ·exact bJ1 S G
  ·exact mR (iQ S G _)
 | Dict ks vs p =>
  rcases ks with _ | ⟨_,_⟩
  ·rcases vs with _ | ⟨_,_⟩
   ·exact aU4
   ·exact cH
  ·exact cH
 | _=>exact cH
theorem bB3 (S:Snd v) (G:Good X st d) (he:∀ whole,isTrue e X.env whole=(do let v <- whole;standAt e.pos;holding [v] (truthy v))):ST X e (xb (v.E st e) fun w=>(match w with
  | .d (.bool b)=>aF b
  | _=>xno)):=by
 intro κ M δ h s w h' R F e';obtain ⟨x,h1,e1,e'⟩:=aH e';refine isTrue_plain (thn (S.E G e R F e1) fun u s1 ⟨M1,l1,R1,r1⟩=>?_) (he _);rcases x with (_ | b | _ | _ | _ | _ | _) | _<;>first | cases e';done | skip
 cases e';cases wb.mp r1;exact wpAny_truthy_bool ⟨rfl,M1,l1,R1⟩
def bJ3 (S:Snd v) (G:Good X st d) (e:Expr):ST X e (bA3 v st e):=by
 cases e with
 | UnaryOp op a p =>
  cases op with
  | Not =>
   intro κ M δ h s w h' R F e;obtain ⟨x,h1,e1,e⟩:=aH (show xb (v.T st a) (fun b=>aF (!b)) δ h=some (w,h') from e);cases e;exact isTrue_not (thn (S.T G a R F e1) fun c s1 ⟨ec,q⟩=>⟨by rw [ec],q⟩)
  | _=>exact bB3 S G fun _=>rfl
 | BoolOp op vs p =>
  cases op with
  | And=>exact bA7 S G vs _
  | Or=>exact bT6 S G vs _
 | Compare a ops cs p=>exact bT8 S G
 | IfExp a b c p=>exact fun _ _ _ _ _ _ _ _ _ e=>by cases e
 | _=>exact bB3 S G fun _=>rfl
def aA8:SG X e (fun _ _ _=>none):=fun _ _ _ _ _ _ _ _ _ _ _ _ e=>by cases e
def vW (h:uV b=false) (v:Value):assign (.Subscript a b pos) X.env v=(do
   let ov <- holding [v] (eval a X.env)
   let iv <- holding [v,ov] (eval b X.env)
   standAt pos
   holding [v,ov,iv] (setItem ov iv v)
   release [v,ov,iv] []):=by
 cases b<;>first | rfl | cases h
def bJ4 (S:Snd v) (G:Good X st d) (e:Expr):SG X e (sD v st e):=by
 cases e with
 | Name x p =>
  unfold sD;dsimp only;split
  ·rename_i i hi;split
   ·rename_i hl;exact bG2 G hi hl
   ·exact aA8
  ·exact aA8
 | Tuple es k p =>
  unfold sD;dsimp only;split
  ·rename_i hs;exact bU2 S G hs
  ·exact aA8
 | Subscript a b p =>
  unfold sD;dsimp only;split
  ·exact aA8
  ·rename_i hs;exact bU3 S G (vW (by simpa using hs))
 | _=>exact aA8
end
end DL

namespace DL
open PySem PySem.Spec PyProof.Rows L2 CI
section
variable {X:Cx} {st:Sta} {d:Nat} {v:Evs} {κ:Kp} {M:Mp} {δ:DSt} {h h':aA} {s:Shared} {a b c e o tg iter:Expr} {es:List Expr} {pos p p2 apos px:Pos} {x m:Str} {w:W} {i:Nat}
def dF (h:iI e=false) (t:Option Expr) (l:Nat) (env:Env):swapsWith e t l env=pure false:=by
 cases e<;>first | rfl | cases h
def jJ (F:Fra X κ M δ) (G:Good X st d) {elt:Expr} {gs:List Comprehension} {sc:Scope} {l:Nat} :
  swapsWith (.ListComp elt gs sc p) (some (.Name x px)) l X.env=pure (swB st (.ListComp elt gs sc p) x px):=by
 show (pure (X.env.blockKind==.function&&X.env.kindOf x==some .local&&px.line==p.line&&!(sc.names.any fun (n,k)=>n==x&&(k==.local||k==.cell))):Sem Bool)=_;unfold swB;dsimp only;have e1:(X.env.blockKind==.function)=true:=by unfold Env.blockKind;rw [F.ok.kind];rfl
 have e2:(X.env.kindOf x==some .local)=cG st.S x:=by
  unfold Env.kindOf cG;rw [G.S];cases q:st.S.names.lookup x with
  | none=>rfl
  | some k=>cases k<;>rfl
 rw [e1,e2,Bool.true_and]
def vX (h:aQ8 e tg=false) (env:Env):swappedStores [tg] e env=pure none:=by
 cases tg<;>first | rfl | (cases e<;>first | rfl | cases h)
def aU6 (h:aK e=true) (env:Env):(assignEach [e] env).map (·.2)=[assign e env]:=by
 cases e<;>first | rfl | cases h
def pN {f:XR W} (G:Good X st d) (he:SE X e f) (hi:slot st x=some i) (hl:(oP st.S x&&(st.top||cG st.S x))=true) (hs:∀ ⦃κ M δ⦄,Fra X κ M δ->swapsWith e (some (.Name x px)) pos.line X.env=pure false):SS X (.Assign [.Name x px] e pos) (aX i f):=by
 intro κ M δ h s fl h' R F e';obtain ⟨⟨w,h1⟩,e1,e'⟩:=bind_some e';cases e';obtain ⟨hx,hf⟩:=aF7 G hl;refine wpAny_Assign_Name (thn (he R F e1) fun u s1 ⟨M1,l1,R1,r1⟩=>?_) (hs F);exact aF6 (F.go l1) R1 (jB G hi) hx hf r1 fun s2 κ2 o2 R2 F2 _=>⟨κ2,M1,o2,l1,R2,F2⟩
def aJ9 (S:Snd v) (G:Good X st d) (hi:slot st x=some i) (hl:(oP st.S x&&(st.top||cG st.S x))=true) (hc:iI e=true) (hs:(swB st e x px||!(cG st.S x))=true) {f:XR W}
  (hf:f=bT (bV v st e)\/f=aN (bV v st e)):SS X (.Assign [.Name x px] e pos) (aX i f):=by
 have no:∀ {e:Expr},f=bT (bV v st e)\/f=aN (bV v st e)->(∀ δ h,bV v st e δ h=none)->SS X (.Assign [.Name x px] e pos) (aX i f):=fun {e} hf n κ M δ h s fl h' R F e'=>by
  obtain ⟨⟨w,h1⟩,e1,e'⟩:=bind_some e';rcases hf with rfl | rfl<;>(obtain ⟨q,e2,_⟩:=bind_some (show (bV v st e δ h).bind _=_ from e1);rw [n] at e2;cases e2)
 cases e with
 | ListComp elt gs sc p =>
  by_cases hw:swB st (.ListComp elt gs sc p) x px=true
  ·rcases gs with _ | ⟨⟨tg,iter,ifs,a⟩,_ | ⟨_,_⟩⟩
   ·exact no hf fun _ _=>rfl
   ·by_cases ha:a=0
    ·subst ha
     by_cases hcc:(pH st.N sc st.S&&!dZ iter)=true
     ·have e0:bV v st (.ListComp elt [⟨tg,iter,ifs,0⟩] sc p)=xb (fP v st tg iter) fun p=>fun δ h=>aZ (v.G (st.blk sc) tg) (zL v (st.blk sc) ifs) (v.E (st.blk sc) elt) p.2 p.1 p.1 (cD (iY st.N sc) δ) h []:=by
       show kU v st elt tg iter ifs sc=_;unfold kU;rw [if_pos hcc]
      rw [Bool.and_eq_true] at hcc;have hset:dZ iter=false:=by simpa using hcc.2
      have hloc:st.S.names.lookup x=some .local:=by
       unfold swB at hw;simp only [Bool.and_eq_true] at hw;have h1:=hw.1.1;unfold cG at h1;split at h1
       ·assumption
       ·cases h1
      intro κ M δ h s fl h' R F e';obtain ⟨⟨w,h2⟩,e1,e'⟩:=bind_some e';cases e';have run:∀ {xs:List PyData} {h1:aA},bV v st (.ListComp elt [⟨tg,iter,ifs,0⟩] sc p) δ h=some (xs,h1)->(∀ {κ:Kp} {M:Mp} {u:Value} {s:Shared},Pf X.S κ M h1 xs u s->Pw X.S κ M h2 w u s)->Wp X.S X.A (exec (.Assign [.Name x px] (.ListComp elt [⟨tg,iter,ifs,0⟩] sc p) pos) X.env) (Ps X κ M h2 (.nx (δ.set i (some w)))) NE s:=fun {xs h1} e2 cv=>by
       rw [e0] at e2;obtain ⟨⟨all,c⟩,h0,e3,e4⟩:=aH e2;exact aG6 G.rm.hd (by rw [G.S,G.N];exact jG hcc.1) (iM S G tg iter) (fun cl C=>S.G (bF G cl C) tg) (fun cl C=>mQ S (bF G cl C) ifs) (fun cl C=>S.E (bF G cl C) elt) (fG hset _) R F e3 (jF e4) (fun p=>cv (bG4 p)) (jB G hi) (by rw [G.S];exact hloc) (by rw [jJ F G,hw])
      rcases hf with rfl | rfl
      ·obtain ⟨⟨xs,h1⟩,e2,e5⟩:=bind_some (show (bV v st _ δ h).bind _=_ from e1);cases e5;exact run e2 fun p=>uX p
      ·obtain ⟨⟨xs,h1⟩,e2,e5⟩:=bind_some (show (bV v st _ δ h).bind _=_ from e1);cases e5;exact run e2 fun p=>qK p
     ·exact no hf fun δ h=>by
       show kU v st elt tg iter ifs sc δ h=none;unfold kU;rw [if_neg hcc];rfl
    ·exact no hf fun δ h=>by
      show (if a=0 then kU v st elt tg iter ifs sc else xno) δ h=none;rw [if_neg ha];rfl
   ·exact no hf fun _ _=>rfl
  ·have hw':swB st (.ListComp elt gs sc p) x px=false:=by simpa using hw
   refine pN G ?_ hi hl fun κ M δ F=>by rw [jJ F G,hw']
   rcases hf with rfl | rfl
   ·exact kY (iQ S G _)
   ·exact mR (iQ S G _)
 | SetComp elt gs sc p=>exact no hf fun _ _=>rfl
 | DictComp k w gs sc p=>exact no hf fun _ _=>rfl
 | _=>cases hc
def bW4 (S:Snd v) (G:Good X st d) (e:Expr):SE X e (aQ9 v st e):=by
 unfold aQ9;split
 ·split
  ·exact S.E G _
  ·exact kY (S.F G _)
 ·exact kY (S.F G _)
def aU7 (S:Snd v) (G:Good X st d) (hi:slot st x=some i) (hl:(oP st.S x&&(st.top||cG st.S x))=true) (hs:(swB st e x px||!(cG st.S x))=true) (hq:(lcS e).isSome=true):SS X (.Assign [.Name x px] e pos) (aX i (zQ v st e)):=by
 have ev:=bV3 (e:=e) S G;obtain ⟨y,hy⟩:=Option.isSome_iff_exists.mp hq;obtain ⟨⟨tg,iter,ifs,a,sc⟩,lp,p,he⟩:=y;have hv:zQ v st e=if a=0 then qJ v st tg iter ifs sc else xno:=by
  unfold zQ;rw [hy]
 dsimp only at he;subst he
 by_cases hw:swB st (.ListComp (.List [] lp) [⟨tg,iter,ifs,a⟩] sc p) x px=true
 ·rw [hv]
  by_cases ha:a=0
  ·subst ha;rw [if_pos rfl];have hloc:st.S.names.lookup x=some .local:=by
    unfold swB at hw;simp only [Bool.and_eq_true] at hw;have h1:=hw.1.1;unfold cG at h1;split at h1
    ·assumption
    ·cases h1
   intro κ M δ h s fl h' R F e';obtain ⟨⟨w,h2⟩,e1,e'⟩:=bind_some e';cases e';unfold qJ at e1;split at e1
   ·rename_i hc;rw [Bool.and_eq_true] at hc;have hset:dZ iter=false:=by simpa using hc.2
    obtain ⟨⟨all,c⟩,h1,e3,e4⟩:=aH e1;obtain ⟨⟨is,h3⟩,e5,e6⟩:=bind_some e4;cases e6;exact aG6 G.rm.hd (by rw [G.S,G.N];exact jG hc.1) (iM S G tg iter) (fun cl C=>S.G (bF G cl C) tg) (fun cl C=>mQ S (bF G cl C) ifs) (fun cl C=>kY (qR (es:=[]) S (bF G cl C))) (fG hset _) R F e3 (gN e5) (fun p=>bG5 p) (jB G hi) (by rw [G.S];exact hloc) (by rw [jJ F G,hw])
   ·cases e1
  ·rw [if_neg ha];intro κ M δ h s fl h' R F e';obtain ⟨⟨w,h1⟩,e1,e'⟩:=bind_some e';cases e1
 ·have hw':swB st (.ListComp (.List [] lp) [⟨tg,iter,ifs,a⟩] sc p) x px=false:=by simpa using hw
  exact pN G ev hi hl fun κ M δ F=>by rw [jJ F G,hw']
def bW5 (S:Snd v) (G:Good X st d) (hc:iI e=false) (ht:aQ8 e tg=false) (hn:aK tg=true):SS X (.Assign [tg] e pos) fun δ h=>((if cvS st tg e=true then bT (v.F st e) else v.E st e) δ h).bind fun p=>(v.G st tg p.1 δ p.2).bind fun q=>some (.nx q.1,q.2):=by
 have he:SE X e (if cvS st tg e=true then bT (v.F st e) else v.E st e):=by
  split
  ·exact kY (S.F G e)
  ·exact S.E G e
 intro κ M δ h s fl h' R F e';obtain ⟨⟨w,h1⟩,e1,e'⟩:=bind_some e';obtain ⟨⟨δ2,h2⟩,e2,e'⟩:=bind_some e';cases e';refine wpAny_Assign_stores (thn (he R F e1) fun u s1 ⟨M1,l1,R1,r1⟩=>?_) (dF hc _ _ _) (vX ht _);rw [aU6 hn];exact thn (S.G G tg R1 (F.go l1) r1 e2) fun _ s2 ⟨κ2,M2,o2,l2,R2,F2⟩=>⟨κ2,M2,o2,l1.trans l2,R2,F2⟩
def bW6 (h:bF0 e=true):∃ q,e=.Dict [] [] q:=by
 unfold bF0 at h;split at h
 ·exact ⟨_,rfl⟩
 ·cases h
def bJ5 (S:Snd v) (G:Good X st d) (t:Stmt):SS X t (sE v st t):=by
 have one:∀ (tg e:Expr) (pos:Pos),SS X (.Assign [tg] e pos) (if (iI e||aQ8 e tg||!(aK tg))=true then fun _ _=>none else fun δ h=>((if cvS st tg e=true then bT (v.F st e) else v.E st e) δ h).bind fun p=>(v.G st tg p.1 δ p.2).bind fun q=>some (.nx q.1,q.2)):=fun tg e pos=>by
  split
  ·exact jD
  ·rename_i hc;simp only [Bool.or_eq_true,not_or,Bool.not_eq_true,Bool.not_eq_true',Bool.not_eq_false] at hc;exact bW5 S G hc.1.1 hc.1.2 (by simpa using hc.2)
 cases t with
 | Return o p =>
  cases o with
  | none=>exact jD
  | some e =>
   refine bU0 (f:=if st.cv.contains "return"=true then aQ9 v st e else v.E st e) ?_;split
   ·exact bW4 S G e
   ·exact S.E G e
 | If c a b p=>exact cL2 S G
 | Expr e p =>
  unfold sE;dsimp only;split
  ·exact jD
  ·rename_i hc;exact bG1 S G (dF (by simpa using hc) _ _ _)
 | Pass p=>exact fun _ _ _ _ _ _ _ R F e=>by cases e;exact wpAny_Pass ⟨_,_,.refl,.refl,R,F⟩
 | Break p=>exact fun _ _ _ _ _ _ _ R F e=>by cases e;exact wpAny_Break ⟨_,_,.refl,.refl,R,F⟩
 | Continue p=>exact fun _ _ _ _ _ _ _ R F e=>by cases e;exact wpAny_Continue ⟨_,_,.refl,.refl,R,F⟩
 | For tg iter body els p =>
  rcases els with _ | ⟨_,_⟩
  ·unfold sE;dsimp only;split
   ·exact jD
   ·rename_i hs;exact bU1 G.rm.hd (iM S G tg iter) (S.G G tg) (jC S G body) (fG (by simpa using hs) _)
  ·exact jD
 | While c body els p =>
  rcases els with _ | ⟨_,_⟩
  ·exact aR7 (S.T G c) (jC S G body)
  ·exact jD
 | Assign tgs e p =>
  rcases tgs with _ | ⟨tg,_ | ⟨_,_⟩⟩
  ·exact jD
  ·cases tg with
   | Name x px =>
    unfold sE;dsimp only;split
    ·rename_i i hi;split
     ·rename_i hl;split
      ·rename_i hc;split
       ·rename_i hw;split
        ·split
         ·rename_i hq;exact aU7 S G hi hl hw hq
         ·exact aJ9 S G hi hl hc hw (.inl rfl)
        ·exact aJ9 S G hi hl hc hw (.inr rfl)
       ·exact jD
      ·rename_i hc;have hsw:∀ ⦃κ M δ⦄,Fra X κ M δ->swapsWith e (some (.Name x px)) p.line X.env=pure false:=fun _ _ _ _=>dF (by simpa using hc) _ _ _;split
       ·rename_i hd;rw [Bool.and_eq_true] at hd;obtain ⟨q,rfl⟩:=bW6 hd.2;exact pN G bI8 hi hl hsw
       split
       ·exact pN G (kY (S.F G e)) hi hl hsw
       ·exact pN G (S.E G e) hi hl hsw
     ·exact jD
    ·exact jD
   | Attribute o f pa=>exact jD
   | _=>exact one _ _ _
  ·cases tg<;>exact jD
 | _=>exact jD
end
def aK0 {v:Evs} (S:Snd v):Snd (step v):=⟨fun G=>bJ2 S G,fun G=>bJ3 S G,fun G=>iQ S G,fun G=>bJ4 S G,fun G=>bJ5 S G⟩
def bJ6:Snd Evs.no:=⟨fun _ _=>cH,fun _ _ _ _ _ _ _ _ _ _ _ e=>(by cases e),fun _ _=>hU,fun _ _=>aA8,fun _ _=>jD⟩
theorem aT:∀ n,Snd (evs n)
 | 0=>bJ6
 | n+1=>aK0 (aT n)
end DL

namespace DL
open PySem PySem.Spec PyProof.Rows L2 CI
def zip_fst {α β:Type} {a:α} {b:β} {l:List α} {r:List β} (h:(a,b)∈l.zip r):a∈l:=(List.of_mem_zip h).1
section
variable {kd:Str->Option NameKind} {x:Str} {v:Value}
theorem jK:∀ {bs:List (Str×Value)} {m:Str->Option Value},(∀ v,(x,v)∉bs)->bindL kd bs m x=m x/\bindC kd bs m x=m x
 | [],_,_=>⟨rfl,rfl⟩
 | (n,v)::r,m,h=>by
  unfold bindL bindC;have ne:x≠n:=by rintro rfl;exact h v List.mem_cons_self
  rw [(jK fun w hw=>h w (List.mem_cons_of_mem _ hw)).1,(jK fun w hw=>h w (List.mem_cons_of_mem _ hw)).2];constructor<;>split<;>simp [ne]
theorem jL:∀ {P:List Str} {vs:List Value} {i:Nat} {m:Str->Option Value},P.Nodup->P[i]?=some x->vs[i]?=some v->(kd x=some .local->bindL kd (P.zip vs) m x=some v)/\(kd x≠some .local->bindC kd (P.zip vs) m x=some v)
 | [],_,_,_,_,h,_=>by simp at h
 | _::_,[],_,_,_,_,h=>by simp at h
 | p::P,w::vs,0,m,nd,h1,h2=>by
  simp at h1 h2;subst h1;subst h2;have no:∀ v,(p,v)∉P.zip vs:=fun v hv=>(List.nodup_cons.mp nd).1 (zip_fst hv);refine ⟨fun hk=>?_,fun hk=>?_⟩
  ·show bindL kd ((p,w)::P.zip vs) m p=_;unfold bindL;rw [(jK no).1,if_pos hk];simp
  ·show bindC kd ((p,w)::P.zip vs) m p=_;unfold bindC;rw [(jK no).2,if_neg hk];simp
 | p::P,w::vs,i+1,m,nd,h1,h2=>by
  have ih:=fun m=>jL (i:=i) (m:=m) (List.nodup_cons.mp nd).2 (by simpa using h1) (by simpa using h2);refine ⟨fun hk=>?_,fun hk=>?_⟩
  ·show bindL kd ((p,w)::P.zip vs) m x=_;unfold bindL;exact (ih _).1 hk
  ·show bindC kd ((p,w)::P.zip vs) m x=_;unfold bindC;exact (ih _).2 hk
end
def aA9 {N:List Str} {ws:List (Option W)} {i:Nat} {w:W} (h:(ws++List.replicate (N.length - ws.length) none)[i]?=some (some w)):ws[i]?=some (some w):=by
 by_cases hi:i < ws.length
 ·rwa [List.getElem?_append_left hi] at h
 ·rw [List.getElem?_append_right (by simpa using hi),List.getElem?_replicate] at h;split at h<;>cases h
structure FnSc (t:Stmt):Prop where
 kind:(defScope t).kind=.function
 co:(defScope t).isCoroutine=false
 gen:(defScope t).isGenerator=false
 nd:(aY t).Nodup
 par:∀ x∈parsOf t,Loc (defScope t) x
 nofree:∀ y∈(defScope t).names,y.2≠.free
def aK1 {t:Stmt} (h:fnB t=true):FnSc t:=by
 unfold fnB at h;simp only [Bool.and_eq_true,decide_eq_true_eq,List.all_eq_true,Bool.not_eq_true'] at h;obtain ⟨h1,h2,h3,h4,h5,h6⟩:=h;refine ⟨h1,h2,h3,h4,fun x hx=>?_,fun y hy e=>?_⟩
 ·have:=h5 x hx;unfold oP at this;split at this
  ·rename_i q;exact .inl q
  ·rename_i q;exact .inr q
  ·cases this
 ·have:=h6 y hy;rw [e] at this;cases this
def aU8 {t:Stmt} {i:Nat} {y:Str} (e:(aY t)[i]?=some y) (hi:i < (parsOf t).length):(parsOf t)[i]?=some y:=by
 unfold aY at e
 rwa [List.getElem?_append_left hi] at e
abbrev cxF (S:Sx) (t:Stmt) (q:Str) (L f:Addr) (cd:Value) (A:Around):Cx:=⟨S,A.deeper (envOfC q (defScope t) L f cd),aY t,envOfC q (defScope t) L f cd,true⟩
section
variable {S:Sx} {κ:Kp} {M:Mp} {h h':aA} {s s1:Shared} {A:Around} {t:Stmt} {q:Str} {f:Addr} {cd:Value} {us:List Value} {ws:List (Option W)}
def nG (FS:FnSc t) (md:Mod S) (hz:S.base.objs.size<=s.heap.objs.size) (hl:ws.length=(parsOf t).length) (hk:Hk A M) (fo:FrO κ A) (R:Mem S κ M h s) (r:∀ (i:Nat) w,ws[i]?=some (some w)->∃ u,us[i]?=some u/\RepW S M w u)
  (x:InCallC s s.heap.objs.size (bindL (envOfC q (defScope t) s.heap.objs.size f cd).kindOf ((parsOf t).zip us) fun _=>none) (cellsFrom (s.heap.objs.size+1) (defScope t).names []) (bindC (envOfC q (defScope t) s.heap.objs.size f cd).kindOf ((parsOf t).zip us) fun _=>none) s1) :
  ∃ κ1,Mem S κ1 M h s1/\Fra (cxF S t q s.heap.objs.size f cd A) κ1 M (ws++List.replicate ((aY t).length - ws.length) none)/\(∀ κ2,Own (cxF S t q s.heap.objs.size f cd A) κ1 κ2->∀ a y,κ a=some y->κ2 a=some y)/\(∀ a,a < s.heap.objs.size->κ1 a=κ a)/\∃ o m,κ1 s.heap.objs.size=some (false,o)/\jA o m/\∀ (i:Nat) y u,(parsOf t)[i]?=some y->us[i]?=some u->(defScope t).names.lookup y=some .local->m y=some u:=by
 obtain ⟨h1,tk,rfl,hk1⟩:=x.done;have R1:Mem S κ M h { s with heap:=h1,toks:=tk }:=R.kept hk1
 let fp:=(cellsFrom (s.heap.objs.size+1) (defScope t).names []).map (·.2)
 have up:∀ b∈fp,s.heap.objs.size < b:=fun b hb=>by
  obtain ⟨⟨n,c⟩,hm,rfl⟩:=List.mem_map.mp hb;exact x.above n c hm
 have fr:∀ b∈fp,aU κ M b:=fun b hb=>R.new (Heap.get?_none_of_le (Nat.le_of_lt (up b hb)));have R2:=R1.pin fr;obtain ⟨o,es,ep,ho,hd,hs,hf⟩:=x.toInCall.ns;have f0:=R.size;have R3:=R2.more (b:=false) ⟨f0.1,f0.2.2⟩ ho;have mem:∀ y c,(cellsFrom (s.heap.objs.size+1) (defScope t).names []).lookup y=some c->c∈fp:=fun y c e=>List.mem_map.mpr ⟨_,PySem.mem_of_lookup e,rfl⟩;have kc:∀ y c,(cellsFrom (s.heap.objs.size+1) (defScope t).names []).lookup y=some c->∃ oc,((dQ κ fp h1).up s.heap.objs.size (false,o)) c=some (true,oc)/\oc.data=.cell (bindC (envOfC q (defScope t) s.heap.objs.size f cd).kindOf ((parsOf t).zip us) (fun _=>none) y):=fun y c e=>by
  obtain ⟨oc,h2,h3⟩:=x.cell y c e;have h2:h1.get? c=some oc:=h2;refine ⟨oc,?_,h3⟩;rw [cC (Nat.ne_of_gt (up c (mem y c e)))];unfold dQ;rw [if_pos (mem y c e),h2];rfl
 have has:∀ {y:Str},(defScope t).names.lookup y=some .cell->∃ c,(cellsFrom (s.heap.objs.size+1) (defScope t).names []).lookup y=some c:=fun hy=>Option.isSome_iff_exists.mp (PySem.W.cellsFrom_some _ _ _ (.inl hy));have ndP:(parsOf t).Nodup:=(List.sublist_append_left _ _).nodup FS.nd;refine ⟨_,R3,⟨⟨md,FS.kind,rfl,rfl,fun y z c a b=>name_of_addr x.apart (PySem.mem_of_lookup a) (PySem.mem_of_lookup b),fun y hy=>?_,hz,FS.nd⟩,hk.eq rfl,?_,⟨o,_,eZ,⟨es,ep,hd,hs,hf⟩,fun i y w e1 e2 e3=>?_⟩,fun y c e=>?_,?_⟩,fun κ2 own a y ea=>?_,fun a la=>?_,o,_,eZ,⟨es,ep,hd,hs,hf⟩,fun i y u e1 e2 k=>(jL ndP e1 e2).1 k⟩
 ·have hy:(defScope t).names.lookup y=some .cell\/(defScope t).names.lookup y=some .free:=hy;rcases hy with hy | hy
  ·exact has hy
  ·exact absurd rfl (FS.nofree _ (PySem.mem_of_lookup hy))
 ·show (ws++List.replicate ((aY t).length - ws.length) none).length=(aY t).length;rw [List.length_append,List.length_replicate,hl];have:(parsOf t).length<=(aY t).length:=by unfold aY;rw [List.length_append];omega
  omega
 ·have ew:=aA9 e2;obtain ⟨u,eu,ru⟩:=r _ _ ew;have hi:i < (parsOf t).length:=by rw [<- hl];exact (List.getElem?_eq_some_iff.mp ew).1
  have ep:=aU8 e1 hi;refine ⟨u,ru,?_⟩;rcases FS.par y (List.mem_of_getElem? ep) with k | k
  ·exact .inl ⟨k,(jL ndP ep eu).1 k⟩
  ·obtain ⟨c,e⟩:=has k;obtain ⟨oc,h2,h3⟩:=kc y c e;rw [(jL ndP ep eu).2 (by show (defScope t).names.lookup y≠_;rw [k];decide)] at h3;exact .inr ⟨.inl k,c,oc,e,h2,h3⟩
 ·obtain ⟨oc,h2,h3⟩:=kc y c e;exact ⟨oc,_,h2,h3⟩
 ·obtain ⟨l,e1,e2⟩:=fo;refine ⟨envOfC q (defScope t) s.heap.objs.size f cd::l,by simp [Around.deeper,e1],fun env he=>?_⟩;rcases List.mem_cons.mp he with rfl | he
  ·exact ⟨by show (defScope t).kind≠_;rw [FS.kind];decide,_,o,rfl,eZ,fun vs z=>by rw [hd] at z;cases z⟩
  ·obtain ⟨k1,L,o',k2,k3,k4⟩:=e2 env he;refine ⟨k1,L,o',k2,?_,k4⟩;rw [cC fun z=>by rw [z,f0.2.1] at k3;cases k3];unfold dQ;rw [if_neg fun z=>by rw [(fr L z).2.1] at k3;cases k3];exact k3
 ·have nL:a≠s.heap.objs.size:=fun z=>by rw [z,f0.2.1] at ea;cases ea
  have nf:a∉fp:=fun z=>by rw [(fr a z).2.1] at ea;cases ea
  have e1:((dQ κ fp h1).up s.heap.objs.size (false,o)) a=κ a:=by
   rw [cC nL];unfold dQ;rw [if_neg nf]
  by_cases e2:κ2 a=((dQ κ fp h1).up s.heap.objs.size (false,o)) a
  ·rw [e2,e1,ea]
  ·rcases own a e2 with z | ⟨_,y',z⟩
   ·exact (nL z).elim
   ·exact (nf (mem y' a z)).elim
 ·rw [cC (Nat.ne_of_lt la)];unfold dQ;rw [if_neg fun z=>absurd (up a z) (Nat.not_lt.mpr (Nat.le_of_lt la))]
def pO {ws:List W} (FS:FnSc t) (md:Mod S) (hz:S.base.objs.size<=s.heap.objs.size) (hl:ws.length=(parsOf t).length) (hk:Hk A M) (fo:FrO κ A) (R:Mem S κ M h s) (r:RepWs S M ws us)
  (x:InCallC s s.heap.objs.size (bindL (envOfC q (defScope t) s.heap.objs.size f cd).kindOf ((parsOf t).zip us) fun _=>none) (cellsFrom (s.heap.objs.size+1) (defScope t).names []) (bindC (envOfC q (defScope t) s.heap.objs.size f cd).kindOf ((parsOf t).zip us) fun _=>none) s1) :
  ∃ κ1,Mem S κ1 M h s1/\Fra (cxF S t q s.heap.objs.size f cd A) κ1 M (cN (aY t) ws)/\∀ κ2,Own (cxF S t q s.heap.objs.size f cd A) κ1 κ2->∀ a y,κ a=some y->κ2 a=some y:=by
 obtain ⟨κ1,h1,h2,h3,_⟩:=nG (ws:=ws.map some) FS md hz (by rw [List.length_map];exact hl) hk fo R (fun i w e=>by
  rw [List.getElem?_map] at e;obtain ⟨w',e1,e2⟩:=map_some e;cases e2;exact lV r e1) x
 rw [List.length_map] at h2;exact ⟨κ1,h1,h2,h3⟩
end
end DL

namespace DL
open PySem PySem.Spec PyProof.Rows L2 CI
section
variable {S:Sx} {κ κ2:Kp} {M M2:Mp} {h h1:aA} {s s':Shared} {n:Nat}
noncomputable def Low (n:Nat):Cell->Prop
 | .r is=>∀ j,W.c j∈is->j < n
 | .k kvs=>∀ j,(∃ y,(y,W.c j)∈kvs)->j < n
 | .o _ fs=>∀ f j,fs.lookup f=some (.c j)->j < n
 | _=>True
def sZ {c:Cell} (hc:∀ j∈cRefs c,j < n):Low n c:=by
 cases c with
 | k kvs=>exact fun j ⟨y,hj⟩=>hc j (List.mem_flatten.mpr ⟨[j],List.mem_map.mpr ⟨_,hj,rfl⟩,List.mem_singleton.mpr rfl⟩)
 | r is=>exact fun j hj=>hc j (List.mem_flatten.mpr ⟨[j],List.mem_map.mpr ⟨_,hj,rfl⟩,List.mem_singleton.mpr rfl⟩)
 | o C fs =>
  intro f j e;refine hc j ?_;unfold cRefs;exact List.mem_flatten.mpr ⟨[j],List.mem_map.mpr ⟨_,PySem.mem_of_lookup e,rfl⟩,List.mem_singleton.mpr rfl⟩
 | _=>exact True.intro
def aK2 {H:Heap} {p:Addr×Addr} {c:Cell} (x:CellOk S M H p c):Low M.m.length c:=by
 cases c with
 | r is =>
  obtain ⟨us,k,_,_,r⟩:=x;intro j hj;obtain ⟨i,hi⟩:=List.getElem?_of_mem hj;obtain ⟨u,_,p,ep,_⟩:=lV r hi;exact (List.getElem?_eq_some_iff.mp ep).1
 | k kvs =>
  obtain ⟨vs,_,r,_⟩:=x;intro j ⟨y,hj⟩;obtain ⟨i,hi⟩:=List.getElem?_of_mem hj;obtain ⟨u,_,_,p,ep,_⟩:=lV r hi;exact (List.getElem?_eq_some_iff.mp ep).1
 | o C fs =>
  obtain ⟨_,_,_,mA,_,r,_⟩:=x;intro f j e;obtain ⟨u,_,p,ep,_⟩:=RelO.some_of (by rw [<- e];exact r f);exact (List.getElem?_eq_some_iff.mp ep).1
 | _=>exact True.intro
def nH {w:W} {u:Value} (r:RepW S M w u) (hl:∀ j,w=.c j->j < n):RepW S ⟨M.Z,M.m.take n⟩ w u:=by
 cases w with
 | d x=>exact r
 | c j =>
  obtain ⟨p,ep,e⟩:=r;exact ⟨p,by show (M.m.take n)[j]?=_;rw [List.getElem?_take_of_lt (hl j rfl)];exact ep,e⟩
theorem pQ:∀ {is:List W} {us:List Value},RepWs S M is us->(∀ j,W.c j∈is->j < n)->RepWs S ⟨M.Z,M.m.take n⟩ is us
 | [],_,r,_=>by cases r;exact .nil
 | i::is,_,r,l=>by
  cases r with
  | cons a b=>exact .cons (nH a fun j ej=>l j (by rw [ej];exact List.mem_cons_self)) (pQ b fun j hj=>l j (List.mem_cons_of_mem _ hj))
theorem pR:∀ {is:List (PyData×W)} {us:List (Key×Value)},RepKW S M is us->(∀ j,(∃ y,(y,W.c j)∈is)->j < n)->RepKW S ⟨M.Z,M.m.take n⟩ is us
 | [],_,r,_=>by cases r;exact .nil
 | (y,i)::is,_,r,l=>by
  cases r with
  | cons a b=>exact .cons ⟨a.1,nH a.2 fun j (ej:i=_)=>l j ⟨y,by rw [ej];exact List.mem_cons_self⟩⟩ (pR b fun j ⟨z,hz⟩=>l j ⟨z,List.mem_cons_of_mem _ hz⟩)
def tA {H:Heap} {p:Addr×Addr} {c:Cell} (x:CellOk S M H p c) (l:Low n c):CellOk S ⟨M.Z,M.m.take n⟩ H p c:=by
 cases c with
 | r is =>
  obtain ⟨us,k,e,z,r⟩:=x;exact ⟨us,k,e,z,pQ r l⟩
 | o C fs =>
  obtain ⟨a,b,c,mA,d,r,e⟩:=x;refine ⟨a,b,c,mA,d,fun f=>?_,e⟩;have rf:=r f;cases q:fs.lookup f with
  | none=>rw [q] at rf;cases q2:mA f with
   | none=>exact True.intro
   | some u=>rw [q2] at rf;exact rf.elim
  | some w =>
   rw [q] at rf;obtain ⟨u,eu,ru⟩:=RelO.some_of rf;rw [eu];exact nH ru fun j ej=>l f j (by rw [q,ej])
 | l xs=>exact x
 | k kvs =>
  obtain ⟨vs,e,r,z⟩:=x;exact ⟨vs,e,pR r l,z⟩
 | n xs=>exact x
 | t xs=>exact x
def Mem.cut (R0:Mem S κ M h s) (l:Le M M2) (R:Mem S κ M2 h1 s') (ok:okP h h1):Mem S κ ⟨M2.Z,M.m⟩ (h1.take h.length) s':=by
 obtain ⟨k,ek⟩:=l.m;have em:M.m=M2.m.take h.length:=by rw [ek,<- R0.len];simp
 have lt:h.length<=h1.length:=by rw [<- R.len,ek,<- R0.len];simp
 have at_:∀ {i:Nat} {p:Addr×Addr},M.m[i]?=some p->M2.m[i]?=some p:=fun e=>l.at e;have sub:∀ p∈M.m,p∈M2.m:=fun p hp=>by rw [ek];exact List.mem_append_left _ hp
 refine ⟨R.z,R.k,by rw [List.length_take];show M.m.length=_;rw [R0.len];omega,fun i j p q a b=>R.ap i j p q (at_ a) (at_ b),fun p hp=>R.off p (sub p hp),fun i p c a b=>?_,R.base,R.bare,R.os⟩;have a:M.m[i]?=some p:=a;have hi:i < h.length:=by rw [<- R0.len];exact (List.getElem?_eq_some_iff.mp a).1
 rw [List.getElem?_take_of_lt hi] at b;have lo:Low h.length c:=by
  rcases ok i c hi b with z | z
  ·exact sZ z
  ·have:=aK2 (R0.cel i p c a z)
   rwa [R0.len] at this
 have:=tA (R.cel i p c (at_ a) b) lo
 rwa [<- em] at this
def aU9 {p:Fl×aA} {z:PyData} {h2:aA} {u:Value} (R0:Mem S κ M h s) (l:Le M M2) (R:Mem S κ M2 p.2 s') (e:ends h p=some (z,h2)) (hr:(∃ δ,p.1=.nx δ/\u=.none)\/∃ w,p.1=.rt w/\RepW S M2 w u):Pw S κ M h2 (.d z) u s':=by
 unfold ends at e
 classical
 obtain ⟨ok,e⟩:=aI e;have R3:=R0.cut l R ok;have l3:Le M ⟨M2.Z,M.m⟩:=⟨l.z,[],by simp⟩;rcases hr with ⟨δ,hp,rfl⟩ | ⟨w,hp,r⟩
 ·rw [hp] at e;cases e;exact R3.pn.go l3
 ·rw [hp] at e;cases w with
  | d y=>cases e;exact ⟨_,l3,R3,r⟩
  | c i =>
   dsimp only at e;obtain ⟨q,eq,rfl⟩:=r;obtain ⟨z1,k1,_⟩:=R.off q (List.mem_of_getElem? eq) q.1 (.inl rfl);have fr:h.length<=i->aU κ ⟨M2.Z,M.m⟩ q.1:=fun hi=>⟨z1,k1,fun r hr=>by
    obtain ⟨j,hj⟩:=List.getElem?_of_mem hr;have hj:M.m[j]?=some r:=hj;have hlt:j < h.length:=by rw [<- R0.len];exact (List.getElem?_eq_some_iff.mp hj).1
    obtain ⟨a,_,b,_⟩:=R.ap j i r q (l.at hj) eq (by omega);exact ⟨a,b⟩⟩
   split at e
   ·rename_i xs ei;obtain ⟨hi,e⟩:=aI e;cases e;obtain ⟨us,n,ho,hz,rr⟩:=R.cel i q _ eq ei;exact ⟨_,l3.trans (Le.add (fr hi).1),R3.frz (fr hi) ho,rep_l.mpr ⟨_,_,us,rfl,iT,⟨⟨n,rfl⟩,hz⟩,Reps'.go (Le.add (fr hi).1) rr⟩⟩
   ·cases e
end
structure Fun (K:PySem.W.Frag) (x qual:Str) (st:Stmt) (f:Addr) (fd:FuncData):Prop where
 ex:∃ (oc:Value) (od:Option Addr) (kV doc pm:Value) (an:Option Addr) (cdv ct:Value) (osl:Array (Option Value)),
  fd=PySem.W.fnOf x qual (dN st) (aV st) (defScope st) .none kV doc pm an cdv ct/\K.lookup f=some ⟨oc,od,.func fd,osl⟩/\PySem.W.codeIn K cdv qual=true
 kp:PySem.W.keepIn K (.ref f)=true
structure TopOk (t:Top) (S:Sx):Prop where
 bl:∀ x,t.bl.contains x=true->S.mg x=none
 gc:∀ x z,t.gc x=some z->∃ u,S.mg x=some u/\Rep S S.base.get? z u
 tk:∀ x f,t.tk x=some f->∃ p,S.mg x=some (.ref p)/\TabK S p f
 defs:∀ x s,t.defs x=some s->∃ f fd,Fun S.K x x s f fd/\S.mg x=some (.ref f)/\dM S.K fd (parsOf s)
 ini:∀ x C s,t.ini x=some (C,s)->∃ n q f fd,Fun S.K n q s f fd/\Mk S.K C f/\S.mg x=some (.ref C)/\dM S.K fd (parsOf s)
 mt:∀ x C s,t.mt x=some (C,s)->Cls S.K C/\∃ n q f fd,Fun S.K n q s f fd/\Meth S.K C x f/\dM S.K fd (parsOf s)
 fo:∀ C f,t.fo C f=true->Cls S.K C/\vA S.K C f
 hm:t.hm=S.hm
 qn:∀ x q,t.qn x=some q->t.mt x=none/\t.ini x=none/\∀ s f fd,Fun S.K x x s f fd->S.mg x=some (.ref f)->x++".<locals>."=q.1/\∃ c0,fd.code=.ref c0/\TbS S c0 q.2
structure TabOk (S:Sx) (d:Nat) (fn:Str->Option XF) (ob:ObS):Prop where
 fn:∀ x m,fn x=some m->FnG S d x (toW m)
 fnW:∀ x m,ob.fnW x=some m->FnG S d x m
 cls:∀ x C m,ob.cls x=some (C,m)->(∀ ws h,m ws h=none)\/∃ k f fd ps,k+1<=d/\Mk S.K C f/\FnS S k f fd ps m/\S.mg x=some (.ref C)/\dM S.K fd ps
 om:∀ x C m,ob.om x=some (C,m)->(∀ ws h,m ws h=none)\/(Cls S.K C/\∃ f fd ps,Meth S.K C x f/\FnS S d f fd ps m/\dM S.K fd ps)
 fo:∀ C f,ob.fo C f=true->Cls S.K C/\vA S.K C f
section
variable {S:Sx} {t:Top} {fn:Str->Option XF} {ob:ObS} {x n q:Str} {st:Stmt} {f:Addr} {fd:FuncData} {k:Nat}
def gR {A:Around} {L:Addr} {cd:Value} (T:TopOk t S) (B:TabOk S k fn ob) (hr:Room S (k+1) A) (hq:∀ q',t.qn x=some q'->q++".<locals>."=q'.1/\∃ c0,cd=.ref c0/\TbS S c0 q'.2):Good (cxF S st q L f cd A) (t.sta fn ob x st) k :=
 ⟨T.bl,T.gc,T.tk,B.fn,B.fnW,B.cls,B.om,B.fo,rfl,rfl,fun _=>rfl,hr.deeper _,T.hm,fun q' e=>⟨(hq q' e).1,(hq q' e).2,by have:=hr.dp;show A.depth+1+3*k+7 < _;omega,by have:=hr.un;show A.units+3+16*k+212 < _;omega⟩⟩
def yB {m:XFW} {Bf:XS} (F:Fun S.K n q st f fd) (hB:∀ {A:Around} {L:Addr},Room S (k+1) A->SSs (cxF S st q L f fd.code A) (aV st) Bf) (hb:fnB st=true) (len:∀ ws h r,m ws h=some r->ws.length=(parsOf st).length)
  (he:∀ ws h r,m ws h=some r->∃ p,Bf (cN (aY st) ws) h=some p/\∀ {κ M M2 s s' u},Mem S κ M h s->Le M M2->Mem S κ M2 p.2 s'->((∃ δ,p.1=.nx δ/\u=.none)\/∃ w,p.1=.rt w/\RepW S M2 w u)->Pw S κ M r.2 r.1 u s') (hnb:∀ ws h r p,m ws h=some r->Bf (cN (aY st) ws) h=some p->(∃ δ,p.1=.nx δ)\/∃ w,p.1=.rt w) :
  FnS S (k+1) f fd (parsOf st) m:=by
 refine ⟨len,fun {A κ M h h' s args us ws w} hr hk fo md hz R hbd r e=>?_⟩;obtain ⟨oc,od,kV,doc,pm,an,cdv,ct,osl,rfl,lk,hcd⟩:=F.ex;have FS:=aK1 hb;have KX:S.K.In s.heap:=md.kin.keeps R.bk;have lim:s.heap.NoLimit:=md.nolimit.keeps R.bk;have hkind:∀ y∈(parsOf st).zip us,(defScope st).names.lookup y.1=some .local\/((defScope st).names.lookup y.1=some .cell/\((cellsFrom (s.heap.objs.size+1) (defScope st).names []).lookup y.1).isSome=true):=fun ⟨n,v⟩ hy=>by
  rcases FS.par n (zip_fst hy) with q | q
  ·exact .inl q
  ·exact .inr ⟨q,PySem.W.cellsFrom_some _ _ _ (.inl q)⟩
 have hdep:A.depth < recursionLimit:=by have:=hr.dp;omega
 refine codeAny_call_function hdep (KX _ _ lk) rfl FS.co FS.gen rfl (PySem.W.codeRec_of KX hcd) (hbd _ _ _ _ ?_);refine wpAny_newFunctionEnv_cells FS.kind hkind fun env he' s1 ic=>?_;subst he';refine ⟨lim.keeps ic.toInCall.keep,codeAny_func ?_⟩;obtain ⟨⟨fl,h1⟩,ep,fin⟩:=he ws h _ e;obtain ⟨κ1,R1,F1,back⟩:=pO (A:=A) FS md hz (len _ _ _ e) hk fo R r ic;refine wpAny_mono (hB hr R1 F1 ep) (fun fl2 s2 ⟨κ2,M2,o2,l2,R2,fw⟩=>?_) fun _ _ z=>z.elim;have R3:Mem S κ M2 h1 s2:=R2.less (back κ2 o2);rcases hnb ws h _ _ e ep with ⟨δ,hp⟩ | ⟨w',hp⟩
 ·cases hp;cases fl2 with
  | next=>exact ⟨.none,rfl,fin R l2 R3 (.inl ⟨δ,rfl,rfl⟩)⟩
  | _=>exact fw.elim
 ·cases hp;cases fl2 with
  | ret u=>exact ⟨u,rfl,fin R l2 R3 (.inr ⟨w',rfl,fw⟩)⟩
  | _=>exact fw.elim
def bJ7 {m:XFW} (hq:∀ q',t.qn x=some q'->q++".<locals>."=q'.1/\∃ c0,fd.code=.ref c0/\TbS S c0 q'.2) (T:TopOk t S) (F:Fun S.K n q st f fd) (B:TabOk S k fn ob) (hb:fnB st=true) (len:∀ ws h r,m ws h=some r->ws.length=(parsOf st).length)
  (he:∀ ws h r,m ws h=some r->∃ p,xSs (evs t.deep) (t.sta fn ob x st) (aV st) (cN (aY st) ws) h=some p/\∀ {κ M M2 s s' u},Mem S κ M h s->Le M M2->Mem S κ M2 p.2 s'->((∃ δ,p.1=.nx δ/\u=.none)\/∃ w,p.1=.rt w/\RepW S M2 w u)->Pw S κ M r.2 r.1 u s') (hnb:∀ ws h r p,m ws h=some r->xSs (evs t.deep) (t.sta fn ob x st) (aV st) (cN (aY st) ws) h=some p->(∃ δ,p.1=.nx δ)\/∃ w,p.1=.rt w) :
  FnS S (k+1) f fd (parsOf st) m :=
 yB F (fun {A L} hr=>jC (aT t.deep) (gR (x:=x) T B hr hq) _) hb len he hnb
def yC {d:Nat} {ps:List Str} {m:XFW} (hm:∀ ws h,m ws h=none):FnS S d f fd ps m:=⟨fun ws h r e=>(by rw [hm] at e;cases e),fun _ _ _ _ _ _ _ _ e=>(by rw [hm] at e;cases e)⟩
def aK3 (hq:∀ q',t.qn x=some q'->q++".<locals>."=q'.1/\∃ c0,fd.code=.ref c0/\TbS S c0 q'.2) (T:TopOk t S) (F:Fun S.K n q st f fd) (B:TabOk S k fn ob):FnS S (k+1) f fd (parsOf st) (hZ t fn ob x st):=by
 by_cases hb:fnB st=true
 ·have op:∀ {ws h r},hZ t fn ob x st ws h=some r->ws.length=(parsOf st).length/\∃ p,xSs (evs t.deep) (t.sta fn ob x st) (aV st) (cN (aY st) ws) h=some p/\kW p=some r:=fun {ws h r} e=>by
   unfold hZ at e;obtain ⟨hc,e⟩:=aI e;obtain ⟨p,e1,e2⟩:=bind_some e;exact ⟨hc.2,p,e1,e2⟩
  refine bJ7 (x:=x) hq T F B hb (fun ws h r e=>(op e).1) (fun ws h r e=>?_) fun ws h r p e e1=>?_
  ·obtain ⟨_,⟨fl,h1⟩,e1,e2⟩:=op e;refine ⟨_,e1,fun {κ M M2 s s' u} R0 l R hr=>?_⟩;rcases hr with ⟨δ,hp,rfl⟩ | ⟨w,hp,r⟩
   ·cases hp;cases e2;exact (R.pn.go l)
   ·cases hp;cases e2;exact ⟨M2,l,R,r⟩
  ·obtain ⟨_,p',e1',e2⟩:=op e;rw [e1] at e1';cases e1';obtain ⟨fl,h1⟩:=p;cases fl with
   | nx δ=>exact .inl ⟨δ,rfl⟩
   | rt w=>exact .inr ⟨w,rfl⟩
   | _=>cases e2
 ·exact yC fun ws h=>by unfold hZ;rw [if_neg fun z=>hb z.1]
def tC (st:Stmt) (Bf:XS):XF:=fun ws h=>if fnB st=true/\ws.length=(parsOf st).length then (Bf (cN (aY st) ws) h).bind (ends h) else none
def aK4 {Bf:XS} (F:Fun S.K n q st f fd) (hB:∀ {A:Around} {L:Addr},Room S (k+1) A->SSs (cxF S st q L f fd.code A) (aV st) Bf):FnS S (k+1) f fd (parsOf st) (toW (tC st Bf)):=by
 by_cases hb:fnB st=true
 ·have op:∀ {ws h r},toW (tC st Bf) ws h=some r->ws.length=(parsOf st).length/\∃ p z,Bf (cN (aY st) ws) h=some p/\ends h p=some (z,r.2)/\r.1=.d z:=fun {ws h r} e=>by
   obtain ⟨⟨z,h2⟩,e0,e⟩:=bind_some e;cases e;unfold tC at e0;obtain ⟨hc,e0⟩:=aI e0;obtain ⟨p,e1,e2⟩:=bind_some e0;exact ⟨hc.2,p,z,e1,e2,rfl⟩
  refine yB F hB hb (fun ws h r e=>(op e).1) (fun ws h r e=>?_) fun ws h r p e e1=>?_
  ·obtain ⟨_,p,z,e1,e2,ez⟩:=op e;refine ⟨_,e1,fun {κ M M2 s s' u} R0 l R hr=>?_⟩;rw [ez];exact aU9 R0 l R e2 hr
  ·obtain ⟨_,p',z,e1',e2,_⟩:=op e;rw [e1] at e1';cases e1';unfold ends at e2
   classical
   obtain ⟨_,e2⟩:=aI e2;obtain ⟨fl,h1⟩:=p;cases fl with
   | nx δ=>exact .inl ⟨δ,rfl⟩
   | rt w=>exact .inr ⟨w,rfl⟩
   | _=>cases e2
 ·exact yC fun ws h=>by unfold toW tC;rw [if_neg fun z=>hb z.1];rfl
def bB4 (hq:∀ q',t.qn x=some q'->q++".<locals>."=q'.1/\∃ c0,fd.code=.ref c0/\TbS S c0 q'.2) (T:TopOk t S) (F:Fun S.K n q st f fd) (B:TabOk S k fn ob):FnS S (k+1) f fd (parsOf st) (toW (sF t fn ob x st)) :=
 aK4 F fun {A L} hr=>jC (aT t.deep) (gR (x:=x) T B hr hq) _
abbrev yD (t:Top) (S:Sx) (d:Nat):Prop:=TabOk S d (fnT t fun y=>aG t d y) (obT t (fun y=>callW t d y) (fun y=>callI t d y) fun y=>callM t d y)
def tE (T:TopOk t S):yD t S 0:=by
 refine ⟨fun x m e=>?_,fun x m e=>?_,fun x C m e=>?_,fun x C m e=>?_,T.fo⟩
 ·obtain ⟨s,hs,rfl⟩:=map_some e;exact .inl fun _ _=>rfl
 ·dsimp only at e;split at e
  ·obtain ⟨s,hs,rfl⟩:=map_some e;exact .inl fun _ _=>rfl
  ·cases e
 ·obtain ⟨p,hs,e2⟩:=map_some e;cases e2;exact .inl fun _ _=>rfl
 ·obtain ⟨p,hs,e2⟩:=map_some e;cases e2;exact .inl fun _ _=>rfl
def tF (T:TopOk t S) {d:Nat} (B:yD t S d) (hI:∀ x C s,t.ini x=some (C,s)->(∀ ws h,callI t (d+1) x ws h=none)\/∃ k f fd ps,k+1<=d+1/\Mk S.K C f/\FnS S k f fd ps (callI t (d+1) x)/\S.mg x=some (.ref C)/\dM S.K fd ps):yD t S (d+1):=by
 refine ⟨fun x m e=>?_,fun x m e=>?_,fun x C m e=>?_,fun x C m e=>?_,T.fo⟩
 ·obtain ⟨s,hs,rfl⟩:=map_some e;obtain ⟨f,fd,F,hm,hb⟩:=T.defs x s hs;have e:aG t (d+1) x=sF t (fnT t fun y=>aG t d y) (obT t (fun y=>callW t d y) (fun y=>callI t d y) fun y=>callM t d y) x s:=by
   rw [aG,hs]
  dsimp only;rw [e];exact .inr ⟨f,fd,parsOf s,hm,F.kp,hb,bB4 (fun q' e=>(T.qn x q' e).2.2 _ _ _ F hm) T F B⟩
 ·dsimp only at e;split at e
  ·obtain ⟨s,hs,rfl⟩:=map_some e;obtain ⟨f,fd,F,hm,hb⟩:=T.defs x s hs;have e:callW t (d+1) x=hZ t (fnT t fun y=>aG t d y) (obT t (fun y=>callW t d y) (fun y=>callI t d y) fun y=>callM t d y) x s:=by
    rw [callW,hs]
   try dsimp only
   rw [e];exact .inr ⟨f,fd,parsOf s,hm,F.kp,hb,aK3 (fun q' e=>(T.qn x q' e).2.2 _ _ _ F hm) T F B⟩
  ·cases e
 ·obtain ⟨⟨C',s⟩,hs,e2⟩:=map_some e;cases e2;exact hI x _ s hs
 ·obtain ⟨⟨C',s⟩,hs,e2⟩:=map_some e;cases e2;obtain ⟨hc,n,q,f,fd,F,hM,hb⟩:=T.mt x _ s hs;have e:callM t (d+1) x=hZ t (fnT t fun y=>aG t d y) (obT t (fun y=>callW t d y) (fun y=>callI t d y) fun y=>callM t d y) x s:=by
   rw [callM,hs]
  dsimp only;rw [e];exact .inr ⟨hc,f,fd,parsOf s,hM,aK3 (fun q' e=>by rw [(T.qn x q' e).1] at hs;cases hs) T F B,hb⟩
theorem iR (T:TopOk t S):∀ d,yD t S d
 | 0=>tE T
 | 1=>tF T (tE T) fun x C s _=>.inl fun _ _=>rfl
 | d+2=>tF T (iR T (d+1)) fun x C s hs=>by
  obtain ⟨n,q,f,fd,F,hM,hm,hb⟩:=T.ini x C s hs;have e:callI t (d+2) x=hZ t (fnT t fun y=>aG t d y) (obT t (fun y=>callW t d y) (fun y=>callI t d y) fun y=>callM t d y) x s:=by
   rw [callI,hs]
  refine .inr ⟨d+1,f,fd,parsOf s,Nat.le_refl _,hM,?_,hm,hb⟩;show FnS S (d+1) f fd (parsOf s) (callI t (d+2) x);rw [e];exact aK3 (fun q' e=>by rw [(T.qn x q' e).2.1] at hs;cases hs) T F (iR T d)
end
end DL

namespace Att
open PySem PySem.W PySem.Calls PyProof.Rows

def lH {P:Params} {h:Heap}:∀ (ns:List Int) (vs:List Value),WellAll P h vs (ns.map WData.int)->IntsAre vs ns:=by
 intro ns;induction ns with
 | nil =>
  intro vs w;rw [List.map_nil] at w;cases w;exact .nil
 | cons n ns ih =>
  intro vs w;rw [List.map_cons] at w;cases w with
  | cons a b =>
   cases a;exact .cons _ _ (ih _ b)

def aB0 {l:OpenLaw} {n:Nat} (hn:l.most=some n) {P:Params} {h:Heap} {args:List WData} {vals:List Value}
  (hpre:l.row.toRowW.claim.pre args=true) (hwl:WellAll P h vals args) :
  ∃ a vs ns,vals=[Value.ref a]/\args=[WData.list (ns.map WData.int)]/\h.get? a=some { cls:=.type "list",data:=.seq vs.toArray }/\IntsAre vs ns/\ns.length<=n:=by
 have hsh:WShape.hasAll [] args [.list .int]=true:=(pre_splitW hpre).1;have hc:l.pre.holds [] { args:=args }=true:=(pre_splitW hpre).2;obtain ⟨d,r,rfl,h1,h2⟩:=hasAllW_cons hsh;obtain rfl:=hasAllW_nil h2;obtain ⟨xs,rfl,h3⟩:=hasW_list h1;obtain ⟨ns,rfl⟩:=items_int h3;have hlen:ns.length<=n:=by
  unfold OpenLaw.pre at hc;have h4:(WTm.not (.lt (.lit (.int (n:Int))) (.len (.arg 0)))).holds [] { args:=[.list (ns.map .int)] }=true:=by
   have h4:=(holds_andW hc).1;rw [hn] at h4;exact h4
  have h5:=condW_of h4 (w_not (w_lt w_lit (w_len_list (w_arg rfl))));rw [List.length_map] at h5;refine Nat.le_of_not_lt fun q=>?_;have q':(n:Int) < ((ns.length:Nat):Int):=by omega
  first
   | (rw [decide_eq_true q'] at h5;exact absurd h5 (by decide))
   | (simp at h5;omega)
 cases hwl with
 | cons w1 w2 =>
  cases w2;cases w1 with
  | list ho hall=>exact ⟨_,_,ns,rfl,rfl,ho,lH ns _ hall,hlen⟩

def aB1 (l:OpenLaw) (args:List WData):l.row.toRowW.claim.post args (.bool true) args=true :=
 postW_of (r:=l.row.toRowW) (X:=(true==true))
  (show WShape.has [] (.bool true) .bool=true by first | rfl | decide | simp [WShape.has,WShape.arms,WShape.armsAll])
  (show (WTm.eq .res (.lit (.bool true))).value [] { args:=args,res:=some (.bool true),after:=args }=some (.bool (true==true)) from w_eq_bool (w_res rfl) w_lit) rfl

def attach_call {l:OpenLaw} {n:Nat} {q:Program} {loose:List Str} {XP:(Str->Option Value)->Heap->Prop} {YP:World->Heap->Prop} {d:DefRec}
  (hn:l.most=some n) (hdf:d.params.defaults=[])
  (call:∀ (w:World) (s₀ s₁:Shared) (mg mb:Str->Option Value) (fa:Addr) (o:Obj) (pm cd doc:Value) (a:Addr) (vs:List Value) (ns:List Int),
   Ground q loose [] XP w s₀ mg mb s₁.heap->YP w s₁.heap ->
   s₁.heap.get? fa=some o->o.data=.func (docDef d.name d.params d.body d.scope pm cd doc)->s₁.heap.CodeRec cd d.name->mg d.name=some (.ref fa) ->
   s₁.heap.get? a=some { cls:=.type "list",data:=.seq vs.toArray }->IntsAre vs ns->ns.length<=n->s₁.gens=#[] ->
   codeAny (model l.prog w) callerA (.call (.ref fa) ⟨[.ref a],[]⟩) (fun r s'=>r=.ok (.ret (.bool true))/\OldK s₁.heap s'.heap/\s'.os=s₁.os/\AllBare s'.gens) s₁) :
  WalkO q loose XP YP l.row.toRowW d [] (fun f vs=>PySem.call f vs):=by
 intro w s₀ s₁ mg mb G Y fa o pm cd doc dV kV ho hd hcd hD hmg hg args vals as hpre hlay hrd hwl hlo;obtain rfl:dV=.none:=Dflts.none hD hdf;obtain rfl:kV=.none:=Dflts.noKw hD;obtain ⟨a,vs,ns,rfl,rfl,hobj,hints,hlen⟩:=aB0 hn hpre hwl;refine enter_call (codeAny_mono (call w s₀ s₁ mg mb fa o pm cd doc a vs ns G Y ho (fd_plain hd) hcd hmg hobj hints hlen hg) fun r s' hq=>?_);obtain ⟨rfl,h2,h3,h4⟩:=hq;exact ⟨.inl ⟨.bool true,.bool true,[],rfl,fun _=>rfl,.bool true,aB1 l _,fun _=>⟨List.Pairwise.nil,fun _ hm=>(nomatch hm)⟩⟩,h2,h3,h4⟩

end Att

namespace CI
open PySem PySem.Spec PyProof.Rows L2 DL
noncomputable def bB5 (x:Str):Stmt->Bool
 | .FunctionDef n _ _ _ _ _ _ _ _ _=>n==x
 | _=>false
def vY (b:List Stmt) (x:Str):Option Stmt:=b.find? (bB5 x)
noncomputable def yF:Nat->Expr->Option PyData
 | _,.Constant (.int i) _ _=>some (.int i)
 | _,.Constant (.str x) _ _=>some (.str x)
 | _,.Constant (.bool x) _ _=>some (.bool x)
 | _,.Constant .none _ _=>some .none
 | n+1,.Tuple es _ _=>(es.mapM (yF n)).map .tuple
 | _,_=>none
def bJ8 (b:List Stmt) (x:Str):Option PyData:=b.findSome? fun s=>match s with
 | .Assign [.Name y _] e _=>if y==x&&!(x==("__name__":Str)) then yF 4 e else none
 | _=>none
def bJ9:List (Option Expr)->List Expr->Option (List (Str×PyData))
 | [],[]=>some []
 | some (.Constant (.str x) _ _)::ks,e::vs=>(yF 4 e).bind fun i=>(bJ9 ks vs).map ((x,i)::·)
 | _,_=>none
noncomputable def tkS:(s:Stmt)->Option (Str×List (Option Expr)×List Expr)
 | .Assign [.Name y _] (.Dict ks vs _) _=>some (y,ks,vs)
 | _=>none
def bK0 (b:List Stmt) (x:Str):Option (Str->Option PyData):=b.findSome? fun s=>(tkS s).bind fun y=>if y.1==x then (bJ9 y.2.1 y.2.2).map fun t z=>t.lookup z else none
noncomputable def blAll:List Str:=["len","tuple","all","any","isinstance","int","bool","str","list","range","sorted","set","zip","enumerate","dict","max","min","sum","reversed","abs"]
def bW7 (b:List Stmt) (ac:Str->List Nat) (cv:Str->List Str) (fuel deep:Nat) (wf:Str->Bool:=fun _=>false) (ini mt:Str->Option (Addr×Stmt):=fun _=>none) (fo:Addr->Str->Bool:=fun _ _=>false) (qn:Str->Option (Str×Pos):=fun _=>none):Top:=⟨blAll,bJ8 b,bK0 b,vY b,ac,cv,fuel,deep,wf,ini,mt,fo,qn,false⟩
def gcl (b:List Stmt):List (Str×PyData):=b.filterMap fun s=>match s with
 | .Assign [.Name y _] e _=>if !(y==("__name__":Str)) then (yF 4 e).map (y,·) else none
 | _=>none
def bK1 {b:List Stmt} {x:Str} {z:PyData} (h:bJ8 b x=some z):(x,z)∈gcl b:=by
 obtain ⟨s,hs,e⟩:=List.exists_of_findSome?_eq_some h;refine List.mem_filterMap.mpr ⟨s,hs,?_⟩;split at e
 ·rename_i y p e0 q;split at e
  ·rename_i hc;rw [Bool.and_eq_true] at hc;have:y=x:=eq_of_beq hc.1;subst this;try simp only []
   rw [if_pos hc.2,e];rfl
  ·cases e
 ·cases e
def tkl (b:List Stmt):List (Str×List (Str×PyData)):=b.filterMap fun s=>(tkS s).bind fun y=>(bJ9 y.2.1 y.2.2).map (y.1,·)
def bK2 {b:List Stmt} {x:Str} {f:Str->Option PyData} (h:bK0 b x=some f):∃ t,(x,t)∈tkl b/\f=fun z=>t.lookup z:=by
 obtain ⟨s,hs,e⟩:=List.exists_of_findSome?_eq_some h;obtain ⟨y,ey,e1⟩:=Option.bind_eq_some_iff.mp e;obtain ⟨hc,e2⟩:=aI e1;have:y.1=x:=eq_of_beq hc;subst this;obtain ⟨t,et,rfl⟩:=Option.map_eq_some_iff.mp e2;refine ⟨t,List.mem_filterMap.mpr ⟨_,hs,?_⟩,rfl⟩;rw [ey,Option.bind_some,et];rfl
noncomputable def dfl (b:List Stmt):List (Str×Stmt):=b.filterMap fun s=>match s with
 | .FunctionDef n _ _ _ _ _ _ _ _ _=>some (n,s)
 | _=>none
def bK3 {b:List Stmt} {x:Str} {s:Stmt} (h:vY b x=some s):(x,s)∈dfl b:=by
 have h1:=List.find?_some h;have h2:=List.mem_of_find?_eq_some h;refine List.mem_filterMap.mpr ⟨s,h2,?_⟩;unfold bB5 at h1;split at h1
 ·simp only [eq_of_beq h1]
 ·cases h1
def tG {x k:Str} {hh:Int} {t:Tok} {v:Value} {es:List DictEntry}:findBy Value.isStrOf (⟨hh,.str k t,v⟩::es).toArray x=if k=x then some v else findBy Value.isStrOf es.toArray x:=by
 unfold findBy;simp only [List.find?_toArray,List.find?_cons,Value.isStrOf]
 by_cases e:k=x
 ·simp [e]
 ·have:(k==x)=false:=beq_eq_false_iff_ne.mpr e;simp [e,this]
section
variable {K:PySem.W.Frag} {S:Sx}
def vZ {x qual:Str} {st:Stmt} {f:Addr} {oc:Value} {od an:Option Addr} {osl:Array (Option Value)} {kV doc pm cdv ct:Value} (l:K.lookup f=some ⟨oc,od,.func (PySem.W.fnOf x qual (dN st) (aV st) (defScope st) .none kV doc pm an cdv ct),osl⟩)
  (c:PySem.W.codeIn K cdv qual=true) (k:PySem.W.keepIn K (.ref f)=true):Fun K x qual st f (PySem.W.fnOf x qual (dN st) (aV st) (defScope st) .none kV doc pm an cdv ct):=⟨⟨oc,od,kV,doc,pm,an,cdv,ct,osl,rfl,l,c⟩,k⟩
abbrev BA (n q:Str) (s:Stmt) (us:List Value):Prop:=∀ (kV doc pm:Value) (an:Option Addr) (cdv ct:Value),bindArgs (PySem.W.fnOf n q (dN s) (aV s) (defScope s) .none kV doc pm an cdv ct) ⟨us,[]⟩=pure ((parsOf s).zip us)
def _root_.DL.Fun.binds {x q:Str} {st:Stmt} {f:Addr} {fd:FuncData} (F:Fun K x q st f fd) (h:∀ us:List Value,us.length=(parsOf st).length->BA x q st us):dM K fd (parsOf st):=by
 obtain ⟨oc,od,kV,doc,pm,an,cdv,ct,osl,rfl,lk,hcd⟩:=F.ex;exact fun s us _ hl=>.of_eq (h us hl kV doc pm an cdv ct)
def FI (K:PySem.W.Frag) (n:Str) (s:Stmt):Prop:=∃ (f:Addr) (od an:Option Addr) (sl:Array (Option Value)) (oc kV dc pm cd ct:Value),PySem.W.nsIn K mainGlobals n=some (some (.ref f))/\K.lookup f=some ⟨oc,od,.func (PySem.W.fnOf n n (dN s) (aV s) (defScope s) .none kV dc pm an cd ct),sl⟩/\PySem.W.codeIn K cd n=true/\PySem.W.keepIn K (.ref f)=true
def fi_mk {n:Str} {s:Stmt} {f:Addr} {od an:Option Addr} {sl:Array (Option Value)} {oc kV dc pm cd ct:Value} (a:PySem.W.nsIn K mainGlobals n=some (some (.ref f))) (l:K.lookup f=some ⟨oc,od,.func (PySem.W.fnOf n n (dN s) (aV s) (defScope s) .none kV dc pm an cd ct),sl⟩) (c:PySem.W.codeIn K cd n=true) (k:PySem.W.keepIn K (.ref f)=true):FI K n s:=⟨_,_,_,_,_,_,_,_,_,_,a,l,c,k⟩
abbrev FR (K:PySem.W.Frag) (mg:Str->Option Value) (n:Str) (s:Stmt):Prop:=∃ f fd,Fun K n n s f fd/\mg n=some (.ref f)/\dM K fd (parsOf s)
variable {n q:Str} {s:Stmt} {h:Heap} {mg:Str->Option Value}
def FI.ok (a:FI K n s) (X:K.In h) (G:h.Ns mainGlobals mg) (hb:∀ us:List Value,us.length=(parsOf s).length->BA n n s us):FR K mg n s:=by
 obtain ⟨f,od,an,sl,oc,kV,dc,pm,cd,ct,a,l,c,k⟩:=a;have F:=vZ (st:=s) l c k;exact ⟨f,_,F,PySem.W.mg_of X G a,F.binds hb⟩
def cL6 {P:Str->Stmt->Prop}:∀ p∈([]:List (Str×Stmt)),P p.1 p.2:=fun _ z=>nomatch z
def cL7 {P:Str->Stmt->Prop} {x:Str} {s:Stmt} {l:List (Str×Stmt)} (a:P x s) (b:∀ p∈l,P p.1 p.2):∀ p∈(x,s)::l,P p.1 p.2:=List.forall_mem_cons.mpr ⟨a,b⟩
def FI.ok1 (a:FI K n s) (X:K.In h) (G:h.Ns mainGlobals mg) (hn:(parsOf s).length=1) (hb:∀ u,BA n n s [u]):FR K mg n s:=a.ok X G fun us hl=>by
 rw [hn] at hl
 match us,hl with
 | [u],_=>exact hb u
def FI.ok2 (a:FI K n s) (X:K.In h) (G:h.Ns mainGlobals mg) (hn:(parsOf s).length=2) (hb:∀ u v,BA n n s [u,v]):FR K mg n s:=a.ok X G fun us hl=>by
 rw [hn] at hl
 match us,hl with
 | [u,v],_=>exact hb u v
def FI.ok3 (a:FI K n s) (X:K.In h) (G:h.Ns mainGlobals mg) (hn:(parsOf s).length=3) (hb:∀ u v x,BA n n s [u,v,x]):FR K mg n s:=a.ok X G fun us hl=>by
 rw [hn] at hl
 match us,hl with
 | [u,v,x],_=>exact hb u v x
def FI.ok4 (a:FI K n s) (X:K.In h) (G:h.Ns mainGlobals mg) (hn:(parsOf s).length=4) (hb:∀ u v x y,BA n n s [u,v,x,y]):FR K mg n s:=a.ok X G fun us hl=>by
 rw [hn] at hl
 match us,hl with
 | [u,v,x,y],_=>exact hb u v x y
def bK4 {a:Addr} {n:Nat} {ws:List Int} {its:Array Value} (X:K.In h) (l:K.lookup a=some ⟨.type "tuple",none,.seq its n,#[]⟩) (hv:Paired (fun (i:Int) v=>∃ t,v=.int i t) ws its.toList) (hs:its.size<=sizeLine):Rep S h.get? (.tuple (ws.map .int)) (.ref a) :=
 rep_t.mpr ⟨a,_,its.toList,rfl,X a _ l,⟨⟨n,by rw [Array.toArray_toList]⟩,by rw [Array.length_toList];exact hs⟩,rW (uO (fun _ _ x=>rep_i.mpr x) hv)⟩
def wA {a:Addr} {n:Nat} {ws:List Str} {its:Array Value} (X:K.In h) (l:K.lookup a=some ⟨.type "tuple",none,.seq its n,#[]⟩) (hv:Paired (fun (i:Str) v=>(∃ t,v=.str i t)/\PyData.strOk i=true) ws its.toList) (hs:its.size<=sizeLine):Rep S h.get? (.tuple (ws.map .str)) (.ref a) :=
 rep_t.mpr ⟨a,_,its.toList,rfl,X a _ l,⟨⟨n,by rw [Array.toArray_toList]⟩,by rw [Array.length_toList];exact hs⟩,rW (uO (fun _ _ x=>rep_s.mpr x) hv)⟩
theorem tH {Z:Zm}:∀ {ns:List Int} {vs:List Value},IntsAre vs ns->Paired (Rep S Z) (ns.map .int) vs
 | _,_,.nil=>.nil
 | _,_,.cons n t h=>.cons (rep_i.mpr ⟨t,rfl⟩) (tH h)
def aK5 {P:Program} {w:World} {mb:Str->Option Value} {k:Nat} {fa a:Addr} {fd:FuncData} {x:Str} {m:XF} {s₁:Shared} {vs:List Value} {ns:List Int} {h':aA}
  (KX:K.In s₁.heap) (hns:s₁.heap.Ns mainGlobals mg) (hb:s₁.heap.Ns builtinsNs mb) (hbb:∀ x:Str,x≠"__name__"->mb x=bootBuiltins x) (hlim:s₁.heap.NoLimit) (hg:s₁.gens=#[])
  (ha:s₁.heap.get? a=some { cls:=.type "list",data:=.seq vs.toArray }) (hi:IntsAre vs ns) (hl:ns.length<=sizeLine) (hr:∀ S:Sx,Room S k callerA)
  (F:FnS ⟨P,w,K,mg,s₁.heap,s₁.os,#[],0,false⟩ k fa fd [x] (toW m)) (hbind:BindsTo s₁ fd ⟨[.ref a],[]⟩ [(x,.ref a)]) (e:m [.d (.list (ns.map .int))] []=some (.bool true,h')) :
  codeAny (model P w) callerA (.call (.ref fa) ⟨[.ref a],[]⟩) (fun r s'=>r=.ok (.ret (.bool true))/\OldK s₁.heap s'.heap/\s'.os=s₁.os/\AllBare s'.gens) s₁:=by
 have R:Mem ⟨P,w,K,mg,s₁.heap,s₁.os,#[],0,false⟩ (fun _=>none) ⟨s₁.heap.get?,[]⟩ [] s₁:=⟨fun _ _ e=>e,fun _ _ _ e=>(by cases e),rfl,fun i j p q e=>(by simp at e),fun p hp=>absurd hp (by simp),fun i p c e=>(by simp at e),fun _ _ e=>e,.of_eq hg,rfl⟩;have md:Mod ⟨P,w,K,mg,s₁.heap,s₁.os,#[],0,false⟩:=⟨KX,hns,⟨mb,hb,hbb⟩,hlim⟩;have e':toW m [.d (.list (ns.map .int))] []=some (.d (.bool true),h'):=by unfold toW;rw [e];rfl
 have hv:=tH (S:=⟨P,w,K,mg,s₁.heap,s₁.os,#[],0,false⟩) (Z:=s₁.heap.get?) hi;have hlen:=hv.length;rw [List.length_map] at hlen;refine codeAny_mono (F.run (us:=[.ref a]) (hr _) (.inl rfl) ⟨[],rfl,fun _ z=>nomatch z⟩ md (Nat.le_refl _) R hbind (ws:=[.d (.list (ns.map .int))]) (.cons (rep_l.mpr ⟨a,_,vs,rfl,ha,⟨⟨0,rfl⟩,by omega⟩,hv⟩) .nil) e') fun r s' ⟨u,hq,M',l,R',ru⟩=>?_;subst hq;cases wb.mp ru;exact ⟨rfl,.of_keep fun b o e=>R'.bk b o e,R'.os,R'.bare⟩
def aV0 {l:PySem.W.OpenLaw} {n k:Nat} {q:Program} {loose:List Str} {XP:(Str->Option Value)->Heap->Prop} {YP:World->Heap->Prop} {d:DefRec} {K:Params->PySem.W.Frag} {m:XF} {x:Str}
  (hn:l.most=some n) (hn2:n<=sizeLine) (hdf:d.params.defaults=[]) (hr:∀ S:Sx,Room S k callerA) (hY:∀ (w:World) (h:Heap),YP w h->(K w.params).In h)
  (F:∀ (w:World) (mg:Str->Option Value) (fa:Addr) (h:Heap) (os:OsState),(K w.params).In h->h.Ns mainGlobals mg->mg d.name=some (.ref fa) ->
   ∃ fd:FuncData,(∀ (s:Shared) (u:Value),BindsTo s fd ⟨[u],[]⟩ [(x,u)])/\FnS ⟨l.prog,w,K w.params,mg,h,os,#[],0,false⟩ k fa fd [x] (toW m))
  (hm:∀ ns:List Int,ns.length<=n->∃ h',m [.d (.list (ns.map .int))] []=some (.bool true,h')) :
  PySem.W.WalkO q loose XP YP l.row.toRowW d [] (fun f vs=>PySem.call f vs):=by
 refine Att.attach_call hn hdf fun w s₀ s₁ mg mb fa o pm cd doc a vs ns G Y ho hd hcd hmg hobj hints hlen hg=>?_;have KX:=hY w _ Y;obtain ⟨fd,hb,hF⟩:=F w mg fa s₁.heap s₁.os KX G.T.g hmg;obtain ⟨h',e⟩:=hm ns hlen;exact aK5 KX G.T.g G.T.b G.T.builtins G.T.nolimit hg hobj hints (Nat.le_trans hlen hn2) hr hF (hb _ _) e
end
end CI

namespace CI
open PySem PySem.Spec PyProof.Rows L2 DL
@[simp] theorem cL8 (j:Nat) (y x:PyData) (δ:DSt) (h:aA):zO j y x δ h=match h[j]?,y with
   | some (.l xs),.int k=>(ixN xs.length k).map fun n=>(δ,h.set j (.l (xs.set n x)))
   | some (.r ws),.int k=>(ixN ws.length k).map fun n=>(δ,h.set j (.r (ws.set n (.d x))))
   | some (.k kvs),.int _=>if kvs.length < sizeLine then some (δ,h.set j (.k (lY kvs y (.d x)))) else none
   | _,_=>none:=rfl
@[simp] theorem cP7 (j:Nat) (x:PyData) (h:aA):sB (.c j) [.d x] h=match h[j]? with
 | some (.l xs)=>if xs.length < sizeLine then some (.d .none,h.set j (.l (xs++[x]))) else none
 | _=>none:=rfl
@[simp] theorem cP8 (j k:Nat) (h:aA):sB (.c j) [.c k] h=match h[j]? with
 | some (.r is)=>if is.length < sizeLine then some (.d .none,h.set j (.r (is++[.c k]))) else none
 | _=>none:=rfl
def bK5 {a b:String} (h:Str.ofString a=Str.ofString b):a=b:=by
 simp only [Str.ofString_eq_byList] at h;unfold Str.ofStringByList at h;have h1:=congrArg Str.cps h;have h2:(a.toList.map Char.toNat)=(b.toList.map Char.toNat):=by
  have:=congrArg Array.toList h1
  simpa using this
 have h3:a.toList=b.toList:=by
  refine (List.map_inj_right ?_).mp h2;intro x y e;exact Char.toNat_inj.mp e
 exact String.toList_inj.mp h3
@[simp] theorem bW8 (a b:String):(Str.ofString a=Str.ofString b)=(a=b):=propext ⟨bK5,fun e=>by rw [e]⟩
@[simp] theorem cL9 (a b:String):(Str.ofString a==Str.ofString b)=(a==b):=by
 rw [Bool.eq_iff_iff,beq_iff_eq,beq_iff_eq,bW8]
end CI
namespace DL
open PySem PySem.Spec PyProof.Rows L2
@[simp] theorem cM0 (i j:Int):PyData.eqv (.int i) (.int j)=decide (i=j):=by rw [PyData.eqv];exact Bool.beq_eq_decide_eq i j
@[simp] theorem cM1 (i j:Str):PyData.eqv (.str i) (.str j)=(i==j):=by rw [PyData.eqv]
@[simp] theorem at0 {a:PyData} {r:List PyData}:atI (a::r) 0=some a:=by simp [atI,ixN]
@[simp] theorem at1 {a b:PyData} {r:List PyData}:atI (a::b::r) 1=some b:=by
 have:(1:Int) < (r.length:Int)+1+1:=by omega
 simp [atI,ixN,this]
@[simp] theorem at2 {a b c:PyData} {r:List PyData}:atI (a::b::c::r) 2=some c:=by
 have:(2:Int) < (r.length:Int)+1+1+1:=by omega
 simp [atI,ixN,this]
@[simp] theorem at3 {a b c d:PyData} {r:List PyData}:atI (a::b::c::d::r) 3=some d:=by
 have:(3:Int) < (r.length:Int)+1+1+1+1:=by omega
 simp [atI,ixN,this]
@[simp] theorem ix0 (n:Nat):ixN (n+1) 0=some 0:=by
 have:(0:Int) < ((n+1:Nat):Int):=by omega
 simp only [ixN,this,Int.le_refl,if_true];rfl
def ix_nat {n i:Nat} (h:i < n):ixN n (i:Int)=some i:=by
 have h1:(i:Int) < (n:Int):=by omega
 have h2:(0:Int)<=(i:Int):=by omega
 simp [ixN,h1,h2]
@[simp] theorem bW9 (h:aA) (i:Nat) (a:Cell):(h.set i a).take h.length=h.set i a:=by
 rw [List.take_of_length_le (by simp)]
@[simp] theorem cS9:ixN 3 2=some 2:=rfl
@[simp] theorem cT0:ixN 3 0=some 0:=rfl
end DL
namespace L2
def gT {α:Type} {xs:List α} {j:Nat} {v:α} (h:xs[j]?=some v):atI xs (j:Int)=some v:=by
 unfold atI;rw [DL.ix_nat (List.getElem?_eq_some_iff.mp h).1];exact h
end L2
namespace DL
open PySem
def szl:sizeLine=16777216:=rfl
end DL

namespace SJ
open PySem
set_option genInjectivity true in
inductive One where
 | read (k:Nat) | write (k:Nat) (v:Int) | add (k:Nat) (n:Int) | swap (k:Nat) (o n:Int)
set_option genInjectivity true in
inductive Call where
 | one (c:One) | span (lo hi:Nat) | deal (cs:List One)
set_option genInjectivity true in
inductive Stp where
 | call (c:Call) | look (c:Call) | lay (ps:List (Nat×Int))
def One.dat:One->PyData
 | .read k=>.tuple [.str "read",.int k]
 | .write k v=>.tuple [.str "write",.int k,.int v]
 | .add k n=>.tuple [.str "add",.int k,.int n]
 | .swap k o n=>.tuple [.str "swap",.int k,.int o,.int n]
def One.key:One->Nat
 | .read k=>k | .write k _=>k | .add k _=>k | .swap k _ _=>k
def Call.dat:Call->PyData
 | .one c=>c.dat
 | .span lo hi=>.tuple [.str "span",.int lo,.int hi]
 | .deal cs=>.tuple [.str "deal",.tuple (cs.map One.dat)]
def One.ok (c:One):Prop:=c.key < 8
noncomputable def Call.ok:Call->Prop
 | .one c=>c.ok
 | .span lo hi=>lo < hi/\hi<=8
 | .deal cs=>cs.length<=4/\1<=cs.length/\∀ c∈cs,c.ok
noncomputable def got (v:Int):PyData:=.tuple [.str "got",.int v]
noncomputable def dn:PyData:=.tuple [.str "done"]
noncomputable def yes:PyData:=.tuple [.str "yes"]
def no:PyData:=.tuple [.str "no"]
end SJ

namespace SJ
open PySem
mutual
noncomputable def sok:PyData->Bool
 | .str x=>PyData.strOk x
 | .list xs=>decide (xs.length<=1000)&&soks xs
 | .tuple xs=>decide (xs.length<=1000)&&soks xs
 | _=>true
noncomputable def soks:List PyData->Bool
 | []=>true
 | x::r=>sok x&&soks r
end
def aB2 {x:PyData} {xs:List PyData}:soks (x::xs)=true ↔ sok x=true/\soks xs=true:=by rw [soks,Bool.and_eq_true]
noncomputable def fU:PyData->Bool
 | .int _=>true
 | _=>false
noncomputable def eM (x:PyData) (lo hi:Int):Bool:=match x with
 | .int i=>decide (lo<=i)&&decide (i<=hi)
 | _=>false
def jM (x:PyData):Bool:=eM x 0 7
noncomputable def iB:PyData->Int->Bool
 | .tuple xs,n=>decide ((xs.length:Int)=n)
 | _,_=>false
noncomputable def eT:PyData->PyData
 | .tuple (.str s::_)=>.str s
 | _=>.none
noncomputable def aS (x:PyData) (s:Str) (n:Int):Bool:=match x with
 | .tuple (.str t::r)=>(t==s)&&decide ((r.length:Int)+1=n)
 | _=>false
def nb (s:Str):Option Int:=if s=Str.ofString "read" then some 0 else if s=Str.ofString "write" then some 1 else if s=Str.ofString "add" then some 1 else if s=Str.ofString "swap" then some 2 else none
def bX:PyData->Bool
 | .tuple (.str s::r)=>match nb s with
  | some n=>(decide ((r.length:Int)+1=2+n))&&(match r with
   | k::vs=>jM k&&vs.all fU
   | []=>false)
  | none=>false
 | _=>false
noncomputable def fJ:PyData->Bool
 | .tuple [.str s,.int a,.int b]=>(s==Str.ofString "span")&&decide (0<=a)&&decide (a < b)&&decide (b<=8)
 | _=>false
def gA:PyData->Bool
 | .tuple [.str s,.tuple ps]=>(s==Str.ofString "deal")&&decide (1<=ps.length)&&decide (ps.length<=4)&&ps.all bX
 | _=>false
def dJ (x:PyData):Bool:=bX x||fJ x||gA x
def kE:PyData->Bool
 | .tuple [.str s,c]=>(s==Str.ofString "look")&&dJ c
 | _=>false
def eU:PyData->Bool
 | .tuple [k,v]=>jM k&&fU v
 | _=>false
noncomputable def iS:PyData->Int
 | .int i=>i
 | _=>0
noncomputable def pS:PyData->PyData
 | .tuple (k::_)=>k
 | _=>.none
noncomputable def bX0 (ns:List Int):Bool:=(List.range (ns.length - 1)).all fun k=>decide (ns.getD k 0 < ns.getD (k+1) 0)
def pT:PyData->Bool
 | .tuple [.str s,.tuple ps]=>(s==Str.ofString "lay")&&!ps.isEmpty&&ps.all eU&&bX0 (ps.map fun p=>iS (pS p))
 | _=>false
def nK (x:PyData):Bool:=dJ x||kE x||pT x
end SJ

namespace SJ
open PySem PySem.Spec PyProof.Rows L2 DL
structure Bad (x:PyData):Prop where
 so:sok x=true
 si:bX x=false
 ca:dJ x=false
 st:nK x=false
def aV1:nb "read"=some 0:=by decide +kernel
def aK6:nb "write"=some 1:=by decide +kernel
def bK6:nb "add"=some 1:=by decide +kernel
def aV2:nb "swap"=some 2:=by decide +kernel
def aV3:PyData.strOk "read"=true:=by decide +kernel
def aK7:PyData.strOk "write"=true:=by decide +kernel
def bK7:PyData.strOk "add"=true:=by decide +kernel
def aV4:PyData.strOk "swap"=true:=by decide +kernel
end SJ

namespace SJ
open PySem PySem.Spec PyProof.Rows L2 DL
def aV5:PyData.strOk "span"=true:=by decide +kernel
def aV6:PyData.strOk "deal"=true:=by decide +kernel
def bK8 {k:Nat} (h:k < 8):jM (.int k)=true:=by
 simp [jM,eM];omega
def nM {o:One} (h:o.ok):bX o.dat=true/\sok o.dat=true:=by
 have h':o.key < 8:=h;cases o<;>simp [One.key] at h'<;>simp [One.dat,bX,aV1,aK6,bK6,aV2,bK8 h',fU,sok,soks,aV3,aK7,bK7,aV4]
theorem tI:∀ {cs:List One},(∀ c∈cs,c.ok)->(cs.map One.dat).all bX=true/\soks (cs.map One.dat)=true
 | [],_=>⟨rfl,rfl⟩
 | c::r,h=>by
  obtain ⟨h1,h2⟩:=nM (h c List.mem_cons_self);obtain ⟨h3,h4⟩:=tI fun z hz=>h z (List.mem_cons_of_mem _ hz);rw [List.map_cons,List.all_cons,h1,h3,aB2];exact ⟨rfl,h2,h4⟩
def eX {o:SJ.Call} (h:o.ok):dJ o.dat=true/\nK o.dat=true/\sok o.dat=true:=by
 have hc:dJ o.dat=true/\sok o.dat=true:=by
  cases o with
  | one c =>
   obtain ⟨h1,h2⟩:=nM (o:=c) h;exact ⟨by simp [dJ,Call.dat,h1],h2⟩
  | span lo hi =>
   obtain ⟨h1,h2⟩:=h;refine ⟨?_,by simp [Call.dat,sok,soks,aV5]⟩;have e1:(0:Int)<=lo:=by omega
   have e2:(lo:Int) < hi:=by omega
   have e3:(hi:Int)<=8:=by omega
   simp [dJ,Call.dat,fJ,e2,e3]
  | deal cs =>
   obtain ⟨h1,h2,h3⟩:=h;obtain ⟨h4,h5⟩:=tI h3;refine ⟨?_,by simp [Call.dat,sok,soks,aV6,h5];omega⟩;simp only [dJ,Call.dat,gA,h4,List.length_map];simp [h1,h2]
 exact ⟨hc.1,by simp [nK,hc.1],hc.2⟩
end SJ

namespace SJ
open PySem
set_option genInjectivity true in
inductive An1 where
 | got (v:Int) | dn | yes | no
def An1.dat:An1->PyData
 | .got v=>.tuple [.str "got",.int v]
 | .dn=>.tuple [.str "done"]
 | .yes=>.tuple [.str "yes"]
 | .no=>.tuple [.str "no"]
def An1.fits:One->An1->Prop
 | .read _,.got _=>True
 | .add _ _,.got _=>True
 | .write _ _,.dn=>True
 | .swap _ _ _,.yes=>True
 | .swap _ _ _,.no=>True
 | _,_=>False
set_option genInjectivity true in
inductive Ans where
 | one (a:An1) | all (ns:List Int) | each (as:List An1)
def Ans.dat:Ans->PyData
 | .one a=>a.dat
 | .all ns=>.tuple [.str "all",.tuple (ns.map .int)]
 | .each as=>.tuple [.str "each",.tuple (as.map An1.dat)]
set_option genInjectivity true in
inductive Fit2:List One->List An1->Prop
 | nil:Fit2 [] []
 | cons {o:One} {a:An1} {os:List One} {as:List An1} (h:An1.fits o a) (t:Fit2 os as):Fit2 (o::os) (a::as)
def Ans.fits:Call->Ans->Prop
 | .one o,.one a=>An1.fits o a
 | .span lo hi,.all ns=>ns.length=hi - lo
 | .deal cs,.each as=>Fit2 cs as
 | _,_=>False
def cS (o:One) (t:PyData):Bool:=match o with
 | .read _=>(match t with
  | .tuple [.str s,v]=>(s==Str.ofString "got")&&fU v
  | _=>false)
 | .add _ _=>(match t with
  | .tuple [.str s,v]=>(s==Str.ofString "got")&&fU v
  | _=>false)
 | .write _ _=>aS t "done" 1
 | .swap _ _ _=>aS t "yes" 1||aS t "no" 1
def eO:List One->List PyData->Bool
 | o::os,t::ts=>cS o t&&eO os ts
 | _,_=>true
def bU (c:Call) (t:PyData):Bool:=match c with
 | .one o=>cS o t
 | .span lo hi=>(match t with
  | .tuple [.str s,.tuple xs]=>(s==Str.ofString "all")&&decide ((xs.length:Int)=(hi:Int) - lo)&&xs.all fU
  | _=>false)
 | .deal cs=>(match t with
  | .tuple [.str s,.tuple xs]=>(s==Str.ofString "each")&&decide (xs.length=cs.length)&&eO cs xs
  | _=>false)
theorem Fit2.length:∀ {os:List One} {as:List An1},Fit2 os as->as.length=os.length
 | _,_,.nil=>rfl
 | _,_,.cons _ t=>by simp [t.length]
def tJ {o:One} {a:An1} (h:An1.fits o a):cS o a.dat=true:=by
 cases o<;>cases a<;>first | exact False.elim h | rfl
theorem pU:∀ {os:List One} {as:List An1},Fit2 os as->eO os (as.map An1.dat)=true
 | _,_,.nil=>rfl
 | _,_,.cons h t=>by simp [eO,tJ h,pU t]
def aB3 {c:Call} {a:Ans} (h:Ans.fits c a) (hc:c.ok):bU c a.dat=true:=by
 cases c<;>cases a<;>first | exact False.elim h | skip
 ·exact tJ h
 ·rename_i lo hi ns;have:=hc.1
  replace h:ns.length=hi - lo:=h
  simp [bU,Ans.dat,h,fU];omega
 ·rename_i cs as
  replace h:Fit2 cs as:=h
  simp [bU,Ans.dat,pU h,h.length]
end SJ

namespace CI
open PySem DL
@[simp] theorem bX1 {α β:Type} (x:XR α) (f:α->XR β) (δ:DSt) (h:aA):xb x f δ h=(x δ h).bind fun p=>f p.1 δ p.2:=rfl
@[simp] theorem aK8 {α:Type} (a:α) (δ:DSt) (h:aA):aF a δ h=some (a,h):=rfl
@[simp] theorem cM2 {α:Type} (δ:DSt) (h:aA):(xno:XR α) δ h=none:=rfl
@[simp] theorem cJ1 (i:Nat) (δ:DSt) (h:aA):aE i δ h=match δ[i]? with
 | some (some w)=>some (w,h)
 | _=>none:=rfl
def dS (h:aA):okP h h:=fun i c _ e=>.inr e
def kF {h h1:aA} (L:aA) (hl:h1.length=h.length) (k:okP h h1):okP h (h1++L):=fun i c hi e=>k i c hi (by rwa [List.getElem?_append_left (by omega)] at e)
def bK9 {h h1:aA} (i:Nat) (xs:List PyData) (k:okP h h1):okP h (h1.set i (.l xs)):=fun j c hj e=>by
 by_cases q:i=j
 ·subst q
  by_cases hi:i < h1.length
  ·rw [List.getElem?_set_self hi] at e;cases e;exact .inl fun m hm=>by cases hm
  ·rw [List.set_eq_of_length_le (by omega)] at e;exact k i c hj e
 ·rw [List.getElem?_set_ne q] at e;exact k j c hj e
@[simp] theorem cT1 (h:aA):okP h h=True:=eq_true (dS h)
@[simp] theorem cT2 (h L:aA):okP h (h++L)=True:=eq_true (kF L rfl (dS h))
def aK9 (h0:aA) (z:PyData) (h:aA) (ok:okP h0 h):ends h0 (.rt (.d z),h)=some (z,h.take h0.length):=by
 unfold ends;rw [if_pos ok]
def aL0 (h0:aA) (δ:DSt) (h:aA) (ok:okP h0 h):ends h0 (.nx δ,h)=some (.none,h.take h0.length):=by
 unfold ends;rw [if_pos ok]
@[simp] theorem aV7 (h:aA) (z:PyData):ends h (.rt (.d z),h)=some (z,h):=by rw [aK9 _ _ _ (dS h),List.take_length]
@[simp] theorem cJ2 (h:aA) (δ:DSt):ends h (.nx δ,h)=some (.none,h):=by rw [aL0 _ _ _ (dS h),List.take_length]
@[simp] theorem cJ3 (h L:aA) (z:PyData):ends h (.rt (.d z),h++L)=some (z,h):=by rw [aK9 _ _ _ (kF L rfl (dS h)),List.take_left'];rfl
@[simp] theorem cJ4 (h L:aA) (δ:DSt):ends h (.nx δ,h++L)=some (.none,h):=by rw [aL0 _ _ _ (kF L rfl (dS h)),List.take_left'];rfl
@[simp] theorem cJ5 (δ:DSt) (h:aA):kW (.nx δ,h)=some (.d .none,h):=rfl
@[simp] theorem cJ6 (w:W) (h:aA):kW (.rt w,h)=some (w,h):=rfl
@[simp] theorem bP7 (δ:DSt):cD [] δ=[]:=rfl
@[simp] theorem bL0 (r:List (Option Nat)) (δ:DSt):cD (none::r) δ=none::cD r δ:=rfl
@[simp] theorem bL1 (i:Nat) (r:List (Option Nat)) (δ:DSt):cD (some i::r) δ=(δ[i]?).bind id::cD r δ:=rfl
@[simp] theorem bX2 (gs:List XG) (xs:List PyData) (δ:DSt) (h:aA):bH gs (.d (.tuple xs)) δ h=dX gs xs δ h:=rfl
@[simp] theorem bX3 (δ:DSt) (h:aA):dX [] [] δ h=some (δ,h):=rfl
@[simp] theorem bP8 (g:XG) (gs:List XG) (x:PyData) (xs:List PyData) (δ:DSt) (h:aA):dX (g::gs) (x::xs) δ h=(g (.d x) δ h).bind fun p=>dX gs xs p.1 p.2:=rfl
@[simp] theorem cP9 (h:aA) (x:PyData):ref h (.d x)=some x:=rfl
end CI

namespace CI
open PySem PySem.Spec PyProof.Rows L2 DL
section
variable {δ:DSt} {h:aA}
@[simp] theorem bX4 (x:XR Bool):bM x δ h=(x δ h).map asW:=rfl
@[simp] theorem cM3 (b:Bool):asW (b,h)=(.d (.bool b),h):=rfl
@[simp] theorem cM4 (op:CmpOp) (x y:XR W):xC1 op x y δ h=(x δ h).bind fun u=>(y δ u.2).bind fun w=>dO op u.1 w.1 w.2:=rfl
@[simp] theorem cM5 (op op':CmpOp) (x y z:XR W):xC2 op op' x y z δ h=(x δ h).bind fun u=>(y δ u.2).bind fun w=>(dO op u.1 w.1 w.2).bind fun p=>if p.1=true then (z δ p.2).bind fun q=>dO op' w.1 q.1 q.2 else some (false,p.2):=rfl
@[simp] theorem cM6 (op op' op'':CmpOp) (x y z t:XR W):xC3 op op' op'' x y z t δ h=(x δ h).bind fun u=>(y δ u.2).bind fun w=>(dO op u.1 w.1 w.2).bind fun p =>
 if p.1=true then (z δ p.2).bind fun q=>(dO op' w.1 q.1 q.2).bind fun p'=>if p'.1=true then (t δ p'.2).bind fun q'=>dO op'' q.1 q'.1 q'.2 else some (false,p'.2) else some (false,p.2):=rfl
@[simp] theorem bX5 (f:Str->Option PyData) (x:XR W):kT f x δ h=(x δ h).bind fun p=>(match p.1 with
 | .d (.str s)=>some (!(f s).isSome,p.2)
 | .d .none=>some (true,p.2)
 | _=>none):=by
 unfold kT;rw [bX1]
 congr 1
 funext p
 obtain ⟨w,h'⟩:=p;cases w with
 | d x=>cases x<;>rfl
 | c i=>rfl
@[simp] theorem cJ7 (x:XR (List PyData)):aN x δ h=(x δ h).bind fun p=>some (.d (.list p.1),p.2):=rfl
@[simp] theorem bX6 (x:XR (List PyData)):bT x δ h=(x δ h).bind fun p=>some (.c p.2.length,p.2++[.l p.1]):=rfl
@[simp] theorem cM7 (x:XR (List W)):xPl x δ h=(x δ h).bind fun p=>(match cO p.1 with
 | some xs=>if xs.length<=sizeLine then some (xs,p.2) else none
 | none=>none):=rfl
@[simp] theorem cJ8 (i:Nat) (x:XR W):aX i x δ h=(x δ h).bind fun p=>some (.nx (δ.set i (some p.1)),p.2):=rfl
@[simp] theorem bX7 (x:XR W):bC x δ h=(x δ h).bind fun p=>(match p.1 with
 | .d (.list xs)=>some ((xs,none),p.2)
 | .d (.tuple xs)=>some ((xs,none),p.2)
 | .c i=>(match p.2[i]? with
  | some (.l xs)=>some ((xs,some (i,false)),p.2)
  | _=>none)
 | _=>none):=rfl
@[simp] theorem bL2:cO []=some []:=rfl
@[simp] theorem plains_d (x:PyData) (r:List W):cO (.d x::r)=(cO r).map (x::·):=rfl
@[simp] theorem cM8 (i j:Int):dO .Lt (.d (.int i)) (.d (.int j)) h=some (decide (i < j),h):=rfl
@[simp] theorem cM9 (i j:Int):dO .LtE (.d (.int i)) (.d (.int j)) h=some (decide (i<=j),h):=rfl
@[simp] theorem cN0 (i j:Int):dO .Gt (.d (.int i)) (.d (.int j)) h=some (decide (j < i),h):=rfl
@[simp] theorem cN1 (i j:Int):dO .GtE (.d (.int i)) (.d (.int j)) h=some (decide (j<=i),h):=rfl
@[simp] theorem cN2 (u w:W):dO .Eq u w h=(xEq u w h).map fun b=>(b,h):=rfl
@[simp] theorem cN3 (u w:W):dO .NotEq u w h=(xEq u w h).map fun b=>(!b,h):=rfl
@[simp] theorem cN4 (u w:W):dO .Is u w h=(xIs u w).map fun b=>(b,h):=rfl
@[simp] theorem bP9 (u w:W):dO .IsNot u w h=(xIs u w).map fun b=>(!b,h):=rfl
@[simp] theorem cN5 (u w:W):dO .In u w h=(xIn u w h).map fun b=>(b,h):=rfl
@[simp] theorem bQ0 (u w:W):dO .NotIn u w h=(xIn u w h).map fun b=>(!b,h):=rfl
def lB (a b:PyData):xEq (.d a) (.d b) h=if (aM 64 a&&aM 64 b)=true then some (PyData.eqv a b) else none:=rfl
@[simp] theorem cJ9 (n:Nat):aM n .none=true:=by rw [aM]
@[simp] theorem cK0 (n:Nat) (b:Bool):aM n (.bool b)=true:=by rw [aM]
@[simp] theorem bL3 (n:Nat) (i:Int):aM n (.int i)=true:=by rw [aM]
@[simp] theorem cN6 (n:Nat) (x:Str):aM n (.str x)=true:=by rw [aM]
@[simp] theorem yG (n:Nat) (xs:List PyData):aM (n+1) (.list xs)=plainsB n xs:=by rw [aM]
@[simp] theorem tK (n:Nat) (xs:List PyData):aM (n+1) (.tuple xs)=plainsB n xs:=by rw [aM]
@[simp] theorem aV8 (n:Nat):plainsB n []=true:=by rw [plainsB]
@[simp] theorem tL (n:Nat) (x:PyData) (xs:List PyData):plainsB n (x::xs)=(aM n x&&plainsB n xs):=by rw [plainsB]
@[simp] theorem cK1 (i j:Int):xEq (.d (.int i)) (.d (.int j)) h=some (decide (i=j)):=by rw [lB];simp [PyData.eqv];exact Bool.beq_eq_decide_eq i j
@[simp] theorem cK2 (x y:Str):xEq (.d (.str x)) (.d (.str y)) h=some (x==y):=by simp [lB,PyData.eqv]
@[simp] theorem bX8 (x y:Bool):xEq (.d (.bool x)) (.d (.bool y)) h=some (x==y):=by cases x<;>cases y<;>simp [lB,PyData.eqv]
@[simp] theorem bB6 (y:Str):xEq (.d .none) (.d (.str y)) h=some false:=by simp [lB,PyData.eqv]
@[simp] theorem cQ0 (x:PyData):bI [.d x] h=(match x with
  | .list xs=>some (.d (.int xs.length),h)
  | .tuple xs=>some (.d (.int xs.length),h)
  | _=>none):=by cases x<;>rfl
@[simp] theorem cK3 (xs:List PyData):cE [.d (.list xs)] h=some (.d (.tuple xs),h):=rfl
@[simp] theorem cK4 (xs:List PyData):cE [.d (.tuple xs)] h=some (.d (.tuple xs),h):=rfl
@[simp] theorem bB7 (xs:List PyData):iG [.d (.list xs)] h=(cT xs).map fun bs=>(.d (.bool (bs.all id)),h):=rfl
@[simp] theorem ix_t (xs:List PyData) (i:Int):xIx (.d (.tuple xs)) (.d (.int i)) h=(atI xs i).map fun v=>(.d v,h):=rfl
@[simp] theorem cT3 (xs:List PyData) (i:Int):xIx (.d (.list xs)) (.d (.int i)) h=(atI xs i).map fun v=>(.d v,h):=rfl
@[simp] theorem sl_t (xs:List PyData) (lo hi:Option Int):xSl (.d (.tuple xs)) lo hi h=some (.d (.tuple (cut xs lo hi)),h):=rfl
@[simp] theorem sl_l (xs:List PyData) (lo hi:Option Int):xSl (.d (.list xs)) lo hi h=some (.d (.list (cut xs lo hi)),h):=rfl
@[simp] theorem bQ1 (i j:Int):fV .Add (.d (.int i)) (.d (.int j)) h=some (.d (.int (i+j)),h):=rfl
@[simp] theorem bQ2 (i j:Int):fV .Sub (.d (.int i)) (.d (.int j)) h=some (.d (.int (i - j)),h):=rfl
@[simp] theorem bQ3 (i j:Int):fV .Mult (.d (.int i)) (.d (.int j)) h=if dK i j=true then some (.d (.int (i*j)),h) else none:=rfl
@[simp] theorem bQ4 (i j:Int):fV .FloorDiv (.d (.int i)) (.d (.int j)) h=if bS j=true then some (.d (.int (i / j)),h) else none:=rfl
@[simp] theorem bQ5 (i j:Int):fV .Mod (.d (.int i)) (.d (.int j)) h=if 0 < j then some (.d (.int (i%j)),h) else none:=rfl
@[simp] theorem bQ6 (i j:Int):fV .Pow (.d (.int i)) (.d (.int j)) h=if pG i j=true then some (.d (.int (i^j.toNat)),h) else none:=rfl
@[simp] theorem bQ7 (xs ys:List PyData):fV .Add (.d (.tuple xs)) (.d (.tuple ys)) h=if xs.length+ys.length<=sizeLine then some (.d (.tuple (xs++ys)),h) else none:=rfl
@[simp] theorem bQ8 (xs ys:List PyData):fV .Add (.d (.list xs)) (.d (.list ys)) h=if xs.length+ys.length<=sizeLine then some (.d (.list (xs++ys)),h) else none:=rfl
@[simp] theorem cV (xs:List PyData):condB none xs h=true:=rfl
theorem dW {g:XG} {te:XR W} {all:List PyData} (f:PyData->PyData) (k:Nat) (hg:∀ w δ h,g w δ h=some (δ.set k (some w),h)) :
  ∀ (rest:List PyData) (δ:DSt) (ac:List PyData),(∀ x∈rest,∀ u,te ((δ.set k u).set k (some (.d x))) h=some (.d (f x),h))->aZ g (aF true) te none all rest δ h ac=some (ac++rest.map f,h)
 | [],δ,ac,_=>by simp [aZ]
 | x::r,δ,ac,hf=>by
  have e:=hf x List.mem_cons_self none;rw [List.set_set] at e;rw [aZ,cV,if_pos rfl,hg];simp only [Option.bind_some,aK8,if_true,e];rw [dW f k hg r _ _ fun y hy u=>by
   have:=hf y (List.mem_cons_of_mem _ hy) u;rw [List.set_set] at this ⊢;rw [List.set_set];exact this]
  simp
theorem gU {f:PyData->Bool}:∀ xs:List PyData,cT (xs.map fun x=>.bool (f x))=some (xs.map f)
 | []=>rfl
 | x::r=>by rw [List.map_cons,cT,gU r];rfl
theorem all_map {f:PyData->Bool} {h:aA} (xs:List PyData):iG [.d (.list (xs.map fun x=>.bool (f x)))] h=some (.d (.bool (xs.all f)),h):=by
 rw [bB7,gU,Option.map_some,List.all_map];rfl
end
end CI

namespace CI
open PySem PySem.Spec PyProof.Rows L2 DL
abbrev S3:=Int×Int×Int
noncomputable def stL (s:S3):Cell:=.l [.int s.1,.int s.2.1,.int s.2.2]
def gX {i:Int} (h1:-(2^64) < i) (h2:i < 2^64) (j:Int):dK i j=true:=by
 unfold dK;rw [decide_eq_true h1,decide_eq_true h2];rfl
def aV9 {j:Int} (h1:-(2^64) < j) (h2:j < 2^64) (i:Int):dK i j=true:=by
 unfold dK;rw [decide_eq_true h1,decide_eq_true h2,Bool.and_self,Bool.or_true]
def pV {h L:aA} {i:Nat} {c:Cell} (hi:i < h.length):h.set i c++L=(h++L).set i c:=(List.set_append_left _ _ hi).symm
def aW0 {h:aA} {i:Nat} {xs:List PyData} (hi:i < h.length):ref (h.set i (.l xs)) (.c i)=some (.list xs):=by
 simp [ref,hi]
@[simp] theorem cT4 {h:aA} {i:Nat} {xs:List PyData} (hi:i < h.length) (k:Int):xIx (.c i) (.d (.int k)) (h.set i (.l xs))=(atI xs k).map fun v=>(.d v,h.set i (.l xs)):=by
 unfold xIx;rw [aW0 hi]
end CI

namespace CI
open PySem PySem.Spec PyProof.Rows L2 DL
variable (h:aA)
@[simp] theorem cN7 (L:aA) (i:Nat) (c:Cell):(h.set i c++L).take h.length=h.set i c:=by
 rw [List.take_append_of_le_length (by simp)];simp
end CI

namespace CI
open PySem PySem.Spec PyProof.Rows L2 DL
theorem nN {g:XG} {te:XR W} {all:List PyData} {h:aA} (J:DSt->Prop) :
  ∀ (ps:List (PyData×PyData)) (δ:DSt) (ac:List PyData),J δ->(∀ p∈ps,∀ δ,J δ->∃ δ1,g (.d p.1) δ h=some (δ1,h)/\J δ1/\te δ1 h=some (.d p.2,h))->aZ g (aF true) te none all (ps.map (·.1)) δ h ac=some (ac++ps.map (·.2),h)
 | [],δ,ac,_,_=>by simp [aZ]
 | x::r,δ,ac,j,hf=>by
  obtain ⟨δ1,e1,j1,e2⟩:=hf x List.mem_cons_self δ j;rw [List.map_cons,aZ];simp [e1,e2,aF];rw [nN J r δ1 (ac++[x.2]) j1 fun y hy=>hf y (List.mem_cons_of_mem _ hy)];simp
@[simp] theorem cN8 (xs:List PyData) (h:aA):iW (.d (.list xs)) h=some ((bK xs,none),h):=rfl
@[simp] theorem rF (xs:List PyData) (h:aA):iW (.d (.tuple xs)) h=some ((bK xs,none),h):=rfl
@[simp] theorem cN9 (xs:List PyData):lZ (.d (.tuple xs))=some xs:=rfl
@[simp] theorem cO0 (xs:List PyData):lZ (.d (.list xs))=some xs:=rfl
def bL4 (a:PyData) (xs:List PyData) (h:aA):xIn (.d a) (.d (.tuple xs)) h=if (aM 64 (.tuple xs)&&aM 64 a)=true then some (xs.any fun z=>PyData.eqv z a) else none:=rfl
@[simp] theorem bX9 (x a b:Str) (h:aA):xIn (.d (.str x)) (.d (.tuple [.str a,.str b])) h=some (a==x||b==x):=by
 rw [bL4];simp [PyData.eqv]
end CI

namespace CI
open PySem PySem.Spec PyProof.Rows L2 DL ST
theorem tM {g:XG} {tb:XS} {all:List PyData} (I:DSt->aA->Prop):∀ (rest:List PyData),(∀ x∈rest,∀ δ h,I δ h->∃ δ1 h1 δ2 h2,g (.d x) δ h=some (δ1,h1)/\tb δ1 h1=some (.nx δ2,h2)/\I δ2 h2) ->
  ∀ (δ:DSt) (h:aA),I δ h->∃ δ' h',bY g tb none all rest δ h=some (.nx δ',h')/\I δ' h'
 | [],_,δ,h,i=>⟨δ,h,by simp [bY],i⟩
 | x::r,ht,δ,h,i=>by
  obtain ⟨δ1,h1,δ2,h2,e1,e2,i2⟩:=ht x List.mem_cons_self δ h i;obtain ⟨δ3,h3,e3,i3⟩:=tM I r (fun y hy=>ht y (List.mem_cons_of_mem _ hy)) δ2 h2 i2;refine ⟨δ3,h3,?_,i3⟩;rw [bY,cV,if_pos rfl,e1];simp only [Option.bind_some,e2];exact e3
def eY {g:XG} {tb:XS} {all:List PyData} (I:DSt->aA->Prop) (rest:List PyData) (ht:∀ x∈rest,∀ δ h,I δ h->∃ δ1 h1,g (.d x) δ h=some (δ1,h1)/\∃ δ2 h2,tb δ1 h1=some (.nx δ2,h2)/\I δ2 h2) (δ:DSt) (h:aA) (i:I δ h) :
  ∃ δ' h',bY g tb none all rest δ h=some (.nx δ',h')/\I δ' h':=tM I rest (fun x hx δ h i=>let ⟨δ1,h1,e1,δ2,h2,e2,i2⟩:=ht x hx δ h i;⟨δ1,h1,δ2,h2,e1,e2,i2⟩) δ h i
section
variable (h:aA)
@[simp] theorem bY0:bZ []=some []:=rfl
@[simp] theorem bQ9 (i:Int) (r:List PyData):bZ (.int i::r)=(bZ r).map (i::·):=rfl
@[simp] theorem cQ1:xIs (.d .none) (.d .none)=some true:=rfl
@[simp] theorem cQ2 (i:Int):xIs (.d (.int i)) (.d .none)=some false:=rfl
@[simp] theorem is_tn (xs:List PyData):xIs (.d (.tuple xs)) (.d .none)=some false:=rfl
def get_last (c:Cell):(h++[c])[h.length]?=some c:=by simp
def mpre_last (xs:List PyData):mD "append" (.c h.length) (h++[.l xs])=true:=by
 unfold mD;rw [if_pos rfl];simp
def rG {lo:Int} {n:Nat} {x:PyData} (hx:x∈rng lo n):∃ k:Nat,k < n/\x=.int (lo+k):=by
 unfold rng at hx;obtain ⟨k,hk,rfl⟩:=List.mem_map.mp hx;exact ⟨k,by simpa using hk,rfl⟩
end
end CI

namespace CI
open PySem PySem.Spec PyProof.Rows L2 DL ST
@[simp high] theorem bs {α β:Type} (a:α) (f:α->Option β):(some a).bind f=f a:=id rfl
@[simp high] theorem xv0 (w:W) (l:DSt) (h:aA):aE 0 (some w::l) h=some (w,h):=id rfl
@[simp high] theorem xv1 {x0:Option W} (w:W) (l:DSt) (h:aA):aE 1 (x0::some w::l) h=some (w,h):=id rfl
@[simp high] theorem xv2 {x0 x1:Option W} (w:W) (l:DSt) (h:aA):aE 2 (x0::x1::some w::l) h=some (w,h):=id rfl
@[simp high] theorem xv3 {x0 x1 x2:Option W} (w:W) (l:DSt) (h:aA):aE 3 (x0::x1::x2::some w::l) h=some (w,h):=id rfl
@[simp high] theorem xv4 {x0 x1 x2 x3:Option W} (w:W) (l:DSt) (h:aA):aE 4 (x0::x1::x2::x3::some w::l) h=some (w,h):=id rfl
@[simp high] theorem xv5 {x0 x1 x2 x3 x4:Option W} (w:W) (l:DSt) (h:aA):aE 5 (x0::x1::x2::x3::x4::some w::l) h=some (w,h):=id rfl
@[simp high] theorem xv9 {x0 x1 x2 x3 x4 x5 x6 x7 x8:Option W} (w:W) (l:DSt) (h:aA):aE 9 (x0::x1::x2::x3::x4::x5::x6::x7::x8::some w::l) h=some (w,h):=id rfl
@[simp high] theorem cT5 {x0 x1 x2 x3 x4 x5 x6 x7 x8 x9:Option W} (w:W) (l:DSt) (h:aA):aE 10 (x0::x1::x2::x3::x4::x5::x6::x7::x8::x9::some w::l) h=some (w,h):=id rfl
@[simp high] theorem cT6 {x0 x1 x2 x3 x4 x5 x6 x7 x8 x9 x10:Option W} (w:W) (l:DSt) (h:aA):aE 11 (x0::x1::x2::x3::x4::x5::x6::x7::x8::x9::x10::some w::l) h=some (w,h):=id rfl
theorem yH {g:XG} {tt:XR Bool} {te:XR W} {all:List PyData} {h:aA} (p:PyData->Bool) (f:PyData->PyData) (I:DSt->Prop):∀ (xs:List PyData) (δ:DSt) (ac:List PyData),I δ ->
  (∀ x∈xs,∀ δ,I δ->∃ δ',g (.d x) δ h=some (δ',h)/\I δ'/\tt δ' h=some (p x,h)/\(p x=true->te δ' h=some (.d (f x),h)))->aZ g tt te none all xs δ h ac=some (ac++(xs.filter p).map f,h)
 | [],δ,ac,_,_=>by simp [aZ]
 | x::r,δ,ac,i,hx=>by
  obtain ⟨δ',e1,i',e2,e3⟩:=hx x List.mem_cons_self δ i;have ih:=fun ac=>yH (all:=all) p f I r δ' ac i' fun y hy=>hx y (List.mem_cons_of_mem _ hy);rw [aZ,cV,if_pos rfl,e1];simp only [bs,e2];cases hp:p x with
  | true=>rw [if_pos rfl,e3 hp];simp only [bs];rw [ih];simp [hp]
  | false=>rw [if_neg (by simp)];rw [ih];simp [hp]
def aL1 {g:XG} {te:XR W} {all:List PyData} {h:aA} (f:PyData->PyData) (I:DSt->Prop) (xs:List PyData) (δ:DSt) (i:I δ)
  (hx:∀ x∈xs,∀ δ,I δ->∃ δ',g (.d x) δ h=some (δ',h)/\I δ'/\te δ' h=some (.d (f x),h)):aZ g (aF true) te none all xs δ h []=some (xs.map f,h):=by
 have:=yH (g:=g) (tt:=aF true) (te:=te) (all:=all) (h:=h) (fun _=>true) f I xs δ [] i fun x m δ i=>by
  obtain ⟨δ',a,b,c⟩:=hx x m δ i;exact ⟨δ',a,b,rfl,fun _=>c⟩
 rw [this,List.filter_eq_self.mpr (fun _ _=>rfl),List.nil_append]
def gY {g:XG} {tb:XS} {all:List PyData} {P:DSt->aA->Prop} (I:Nat->DSt->aA->Prop) {rest:List PyData} {δ:DSt} {h:aA} (hi:I 0 δ h) (hP:∀ δ h,I rest.length δ h->P δ h)
  (ht:∀ n (hn:n < rest.length) δ h,I n δ h->∃ δ1 h1,g (.d rest[n]) δ h=some (δ1,h1)/\∃ δ2 h2,tb δ1 h1=some (.nx δ2,h2)/\I (n+1) δ2 h2):∃ δ' h',bY g tb none all rest δ h=some (.nx δ',h')/\P δ' h':=by
 suffices H:∀ (r:List PyData) (n:Nat) (δ:DSt) (h:aA),(∃ p,rest=p++r/\p.length=n)->I n δ h->∃ δ' h',bY g tb none all r δ h=some (.nx δ',h')/\I rest.length δ' h' by
  obtain ⟨δ',h',e,i⟩:=H rest 0 δ h ⟨[],rfl,rfl⟩ hi;exact ⟨δ',h',e,hP δ' h' i⟩
 intro r;induction r with
 | nil =>
  rintro n δ h ⟨p,e1,e2⟩ i;subst e2;simp at e1;subst e1;exact ⟨δ,h,by simp [bY],i⟩
 | cons x r ih =>
  rintro n δ h ⟨p,e1,e2⟩ i;have hn:n < rest.length:=by rw [e1];simp;omega
  have hx:rest[n]=x:=by subst e2;subst e1;simp
  obtain ⟨δ1,h1,e1',δ2,h2,e2',i2⟩:=ht n hn δ h i;rw [hx] at e1';obtain ⟨δ3,h3,e3,i3⟩:=ih (n+1) δ2 h2 ⟨p++[x],by simp [e1],by simp [e2]⟩ i2;refine ⟨δ3,h3,?_,i3⟩;rw [bY,cV,if_pos rfl,e1'];simp only [bs,e2'];exact e3
@[simp] theorem at4 (a b c e f:PyData) (r:List PyData):atI (a::b::c::e::f::r) 4=some f:=gT (j:=4) (by simp)
@[simp] theorem at5 (a b c e f g:PyData) (r:List PyData):atI (a::b::c::e::f::g::r) 5=some g:=gT (j:=5) (by simp)
end CI

namespace CI
open PySem DL
variable {h L:aA} {i:Nat} {c c':Cell}
open Classical in
@[simp] theorem aL2 (h0:aA) (z:PyData) (h1:aA):ends h0 (.rt (.d z),h1)=if okP h0 h1 then some (z,h1.take h0.length) else none:=rfl
open Classical in
@[simp] theorem bL5 (h0:aA) (δ:DSt) (h1:aA):ends h0 (.nx δ,h1)=if okP h0 h1 then some (PyData.none,h1.take h0.length) else none:=rfl
def yI (xs:List PyData):okP (h.set i c) (h.set i (.l xs)):=by
 have:=bK9 i xs (dS (h.set i c))
 rwa [List.set_set] at this
@[simp] theorem cQ3 (xs:List PyData):okP (h.set i c) (h.set i (.l xs))=True:=eq_true (yI xs)
@[simp] theorem cQ4 (s:S3):okP (h.set i c) (h.set i (stL s))=True:=eq_true (yI _)
@[simp] theorem cQ5 (xs:List PyData):okP (h.set i c) (h.set i (.l xs)++L)=True:=eq_true (kF L (by simp) (yI xs))
@[simp] theorem bL6 (s:S3):okP (h.set i c) (h.set i (stL s)++L)=True:=eq_true (kF L (by simp) (yI _))
@[simp] theorem cQ6 (s:S3) (hi:i < h.length):okP (h.set i c) ((h++L).set i (stL s))=True:=by rw [<- pV hi,bL6]
@[simp] theorem cO1:(h.set i c).take h.length=h.set i c:=List.take_of_length_le (by simp)
@[simp] theorem bY1:(h.set i c++L).take h.length=h.set i c:=by rw [List.take_append_of_le_length (by simp),cO1]
@[simp] theorem cQ7 (hi:i < h.length):((h++L).set i c).take h.length=h.set i c:=by rw [<- pV hi,bY1]
end CI

noncomputable section
namespace K61
open PySem PySem.Spec PyProof.Rows L2 DL CI SJ
noncomputable def body:List Stmt:=PySem.Challenge.pw_storejudge_k61_pieces.main.body
noncomputable def cv (x:Str):List Str:=if x="pieces" then ["return","lots","lots[]"] else if x="deal_done" then ["answers"] else if x="_law_history" then ["_law_asked","_law_asked[]","_law_deeds"] else if x="law" then ["_law_told"] else []
noncomputable def wf (x:Str):Bool:=decide (x="pieces")
def TT (b:Bool):Top:={ bW7 body (fun _=>[]) cv 100000 60 wf with hm:=b }
abbrev T:Top:=TT false
end K61

namespace K61
open PySem PySem.Spec PyProof.Rows L2 DL CI
noncomputable def YE:Fl×aA->Option (Fl×aA):=fun p=>match p.1 with
  | Fl.nx δ'=>some (Fl.nx δ',p.2)
  | f=>some (f,p.2)
def YN:W->XR (List W):=fun w=>xb (aF []) fun ws=>aF (w::ws)
@[simp] theorem nO :YN=fun w=>xb (aF []) fun ws=>aF (w::ws):=rfl
def YC (w:W):List W->XR (List W):=fun ws=>aF (w::ws)
@[simp] theorem nP (w:W):YC w=fun ws=>aF (w::ws):=rfl
def YF (b:Bool) (d:Nat) (s:String):List W->XR W:=fun ws x h=>Option.bind (aG (TT b) d (Str.ofString s) ws h) fun p=>some (W.d p.1,p.2)
@[simp] theorem nQ (b:Bool) (d:Nat) (s:String):YF b d s=fun ws x h=>Option.bind (aG (TT b) d (Str.ofString s) ws h) fun p=>some (W.d p.1,p.2):=rfl
def YI (n:Int):W->XR W:=fun x=>xb (aF (W.d (PyData.int n))) fun y x_1 h=>xIx x y h
@[simp] theorem oV (n:Int):YI n=fun x=>xb (aF (W.d (PyData.int n))) fun y x_1 h=>xIx x y h:=rfl
def YB (o:Operator) (n:Int):W->XR W:=fun u=>xb (aF (W.d (PyData.int n))) fun w x h=>fV o u w h
@[simp] theorem oW (o:Operator) (n:Int):YB o n=fun u=>xb (aF (W.d (PyData.int n))) fun w x h=>fV o u w h:=rfl
def YO (o:Operator) (u:W):W->XR W:=fun w x h=>fV o u w h
@[simp] theorem nR (o:Operator) (u:W):YO o u=fun w x h=>fV o u w h:=rfl
def YT:List PyData->XR W:=fun xs=>aF (W.d (PyData.tuple xs))
@[simp] theorem oX :YT=fun xs=>aF (W.d (PyData.tuple xs)):=rfl
noncomputable def YW:W×aA->Option (Fl×aA):=fun p=>some (Fl.rt p.1,p.2)
@[simp] theorem cT7 :YW=fun p=>some (Fl.rt p.1,p.2):=rfl
def YS (s:String):XR W:=aF (W.d (PyData.str (Str.ofString s)))
@[simp] theorem oY (s:String):YS s=aF (W.d (PyData.str (Str.ofString s))):=rfl
def YJ (n:Int):XR W:=aF (W.d (PyData.int n))
@[simp] theorem nU (n:Int):YJ n=aF (W.d (PyData.int n)):=rfl
noncomputable def YK (f:List W->aA->Option (W×aA)):List W->XR W:=fun ws x h=>f ws h
@[simp] theorem cO2 (f:List W->aA->Option (W×aA)):YK f=fun ws x h=>f ws h:=rfl
noncomputable def YQ (k:DSt->Fl×aA->Option (Fl×aA)):Fl×aA->Option (Fl×aA):=fun p=>match p.1 with
  | Fl.nx δ'=>k δ' p
  | f=>some (f,p.2)
noncomputable def YP {α β:Type} (x:Option α) (f:α->Option β):Option β:=Option.bind x f
@[simp] theorem cT8 {α β:Type} (x:Option α) (f:α->Option β):YP x f=Option.bind x f:=rfl
noncomputable def YG (i:Nat):XG:=fun w δ h=>some (List.set δ i (some w),h)
@[simp] theorem nV (i:Nat):YG i=fun w δ h=>some (List.set δ i (some w),h):=rfl
def YZ:XR W:=aF (W.d PyData.none)
@[simp] theorem oZ:YZ=aF (W.d PyData.none):=rfl
def YV (i:Nat) (n:Int):XR W:=xb (aE i) (YI n)
@[simp] theorem pA (i:Nat) (n:Int):YV i n=xb (aE i) (YI n):=rfl
def YA (e:XR (List W)):W->XR W:=fun w δ h=>if mD (Str.ofString "append") w h=true then Option.bind (e δ h) fun p=>sB w p.1 p.2 else none
@[simp] theorem cT9 (e:XR (List W)):YA e=fun w δ h=>if mD (Str.ofString "append") w h=true then Option.bind (e δ h) fun p=>sB w p.1 p.2 else none:=rfl
def YR :W->XR (List PyData×Cw):=fun w x h=>match w with
  | W.d (PyData.int j)=>if dY 0 j=true then some ((rng 0 (Int.toNat j),none),h) else none
  | x=>none
@[simp] theorem cU0 :YR =fun w x h=>match w with
  | W.d (PyData.int j)=>if dY 0 j=true then some ((rng 0 (Int.toNat j),none),h) else none
  | x=>none:=rfl
def YD :W->XR Bool:=fun w=>match w with
  | W.d (PyData.bool b)=>aF b
  | x=>xno
@[simp] theorem wB :YD =fun w=>match w with
  | W.d (PyData.bool b)=>aF b
  | x=>xno:=rfl
def YU :W->XR (Option Int):=fun w=>match w with
  | W.d (PyData.int i)=>aF (some i)
  | x=>xno
@[simp] theorem cU1 :YU =fun w=>match w with
  | W.d (PyData.int i)=>aF (some i)
  | x=>xno:=rfl
def YX (x:W):W->XR W:=fun y _ h=>xIx x y h
@[simp] theorem pB (x:W):YX x=fun y _ h=>xIx x y h:=rfl
def YS3 (x:W) (l:Option Int):Option Int->XR W:=fun u _ h=>xSl x l u h
@[simp] theorem cQ8 (x:W) (l:Option Int):YS3 x l=fun u _ h=>xSl x l u h:=rfl
def YT2 (b:Bool) (δ:DSt):Bool×aA->Option (Fl×aA):=fun p=>if p.1=true then YP (YP (aF (W.d (PyData.bool b)) δ p.2) YW) YE else some (Fl.nx δ,p.2)
@[simp] theorem cQ9 (b:Bool) (δ:DSt):YT2 b δ=fun p=>if p.1=true then YP (YP (aF (W.d (PyData.bool b)) δ p.2) YW) YE else some (Fl.nx δ,p.2):=rfl
def YNg :W->XR W:=fun w=>match w with
  | W.d (PyData.int i)=>aF (W.d (PyData.int (-i)))
  | x=>xno
@[simp] theorem cR0 :YNg =fun w=>match w with
  | W.d (PyData.int i)=>aF (W.d (PyData.int (-i)))
  | x=>xno:=rfl
def Y1 (a:XR W):XR (List W):=xb a YN
@[simp] theorem nW (a:XR W):Y1 a=xb a YN:=rfl
def Y2 (a b:XR W):XR (List W):=xb a fun w=>xb (Y1 b) (YC w)
@[simp] theorem nX (a b:XR W):Y2 a b=xb a fun w=>xb (Y1 b) (YC w):=rfl
def Y3 (a b c:XR W):XR (List W):=xb a fun w=>xb (Y2 b c) (YC w)
@[simp] theorem pC (a b c:XR W):Y3 a b c=xb a fun w=>xb (Y2 b c) (YC w):=rfl
def Y4 (a b c e:XR W):XR (List W):=xb a fun w=>xb (Y3 b c e) (YC w)
@[simp] theorem bY2 (a b c e:XR W):Y4 a b c e=xb a fun w=>xb (Y3 b c e) (YC w):=rfl
def Y5 (a b c e f:XR W):XR (List W):=xb a fun w=>xb (Y4 b c e f) (YC w)
@[simp] theorem bY3 (a b c e f:XR W):Y5 a b c e f=xb a fun w=>xb (Y4 b c e f) (YC w):=rfl
def Y6 (a b c e f g:XR W):XR (List W):=xb a fun w=>xb (Y5 b c e f g) (YC w)
@[simp] theorem cU2 (a b c e f g:XR W):Y6 a b c e f g=xb a fun w=>xb (Y5 b c e f g) (YC w):=rfl
def Y7 (a b c e f g i:XR W):XR (List W):=xb a fun w=>xb (Y6 b c e f g i) (YC w)
@[simp] theorem cU3 (a b c e f g i:XR W):Y7 a b c e f g i=xb a fun w=>xb (Y6 b c e f g i) (YC w):=rfl
def YRt (x:Option (W×aA)):Option (Fl×aA):=YP (YP x YW) YE
@[simp] theorem cR1 (x:Option (W×aA)):YRt x=YP (YP x YW) YE:=rfl
def YNb :Bool->XR Bool:=fun b=>aF !b
@[simp] theorem cR2 :YNb =fun b=>aF !b:=rfl
def YNt (x:XR Bool):XR Bool:=xb x fun b=>aF !b
@[simp] theorem bY4 (x:XR Bool):YNt x=xb x fun b=>aF !b:=rfl
def YOb (x:XR Bool):Bool->XR Bool:=fun c=>if c=true then aF true else x
@[simp] theorem cR3 (x:XR Bool):YOb x=fun c=>if c=true then aF true else x:=rfl
def YAb (x:XR Bool):Bool->XR Bool:=fun c=>if c=true then x else aF false
@[simp] theorem cR4 (x:XR Bool):YAb x=fun c=>if c=true then x else aF false:=rfl
def YAn (b:XR W):W->XR W:=fun w=>match w with
  | W.d (PyData.bool true)=>b
  | W.d (PyData.bool false)=>aF (W.d (PyData.bool false))
  | x=>xno
@[simp] theorem cR5 (b:XR W):YAn b=fun w=>match w with
  | W.d (PyData.bool true)=>b
  | W.d (PyData.bool false)=>aF (W.d (PyData.bool false))
  | x=>xno:=rfl
def YOr (b:XR W):W->XR W:=fun w=>match w with
  | W.d (PyData.bool true)=>aF (W.d (PyData.bool true))
  | W.d (PyData.bool false)=>b
  | x=>xno
@[simp] theorem cR6 (b:XR W):YOr b=fun w=>match w with
  | W.d (PyData.bool true)=>aF (W.d (PyData.bool true))
  | W.d (PyData.bool false)=>b
  | x=>xno:=rfl
def YOx (o:Operator) (x:XR W):W->XR W:=fun u=>xb x (YO o u)
@[simp] theorem bY5 (o:Operator) (x:XR W):YOx o x=fun u=>xb x (YO o u):=rfl
def YXx (x:XR W):W->XR W:=fun u=>xb x (YX u)
@[simp] theorem bY6 (x:XR W):YXx x=fun u=>xb x (YX u):=rfl
def YSl (l r:XR (Option Int)):W->XR W:=fun x=>xb l fun u=>xb r (YS3 x u)
@[simp] theorem cR7 (l r:XR (Option Int)):YSl l r=fun x=>xb l fun u=>xb r (YS3 x u):=rfl
def YIs (s:String):W->XR W:=fun w x h=>YP (ref h w) fun d=>if noD d=true then some (W.d (PyData.bool (isi d s)),h) else none
@[simp] theorem cR8 (s:String):YIs s=fun w x h=>YP (ref h w) fun d=>if noD d=true then some (W.d (PyData.bool (isi d s)),h) else none:=rfl
noncomputable def YNx {α:Type} (D:DSt):α×aA->Option (Fl×aA):=fun p=>some (Fl.nx D,p.2)
@[simp] theorem cR9 {α:Type} (D:DSt):YNx (α:=α) D=(fun p=>some (Fl.nx D,p.2):α×aA->Option (Fl×aA)):=rfl
noncomputable def YIf (D:DSt) (a:Bool×aA->Option (Fl×aA)):Bool×aA->Option (Fl×aA):=fun p=>if p.1=true then a p else some (Fl.nx D,p.2)
@[simp] theorem cS0 (D:DSt) (a:Bool×aA->Option (Fl×aA)):YIf D a=fun p=>if p.1=true then a p else some (Fl.nx D,p.2):=rfl
def YIr (D:DSt) (e:XR W):Bool×aA->Option (Fl×aA):=fun p=>if p.1=true then YP (YP (e D p.2) YW) YE else some (Fl.nx D,p.2)
@[simp] theorem cS1 (D:DSt) (e:XR W):YIr D e=fun p=>if p.1=true then YP (YP (e D p.2) YW) YE else some (Fl.nx D,p.2):=rfl
def YCp (g:XG) (t:XR Bool) (e:XR W) (l:List (Option Nat)):List PyData×Cw->XR (List PyData):=fun p δ h=>aZ g t e p.2 p.1 p.1 (cD l δ) h []
@[simp] theorem cS2 (g:XG) (t:XR Bool) (e:XR W) (l:List (Option Nat)):YCp g t e l=fun p δ h=>aZ g t e p.2 p.1 p.1 (cD l δ) h []:=rfl
def YFr (g:XG) (b:XS) (D:DSt):(List PyData×Cw)×aA->Option (Fl×aA):=fun p=>bY g b p.1.2 p.1.1 p.1.1 D p.2
@[simp] theorem cS3 (g:XG) (b:XS) (D:DSt):YFr g b D=fun p=>bY g b p.1.2 p.1.1 p.1.1 D p.2:=rfl
def YPt (o k:XR W) (D:DSt):W×aA->Option (Fl×aA):=fun p=>YP (YP (o D p.2) fun p_1=>YP (k D p_1.2) fun q=>match p_1.1,q.1,p.1 with
  | W.c j,W.d y,W.d x=>zO j y x D q.2
  | W.c j,W.d y,W.c i=>zP j y i D q.2
  | x,x_2,x_3=>none) fun q=>some (Fl.nx q.1,q.2)
@[simp] theorem cS4 (o k:XR W) (D:DSt):YPt o k D=fun p=>YP (YP (o D p.2) fun p_1=>YP (k D p_1.2) fun q=>match p_1.1,q.1,p.1 with
  | W.c j,W.d y,W.d x=>zO j y x D q.2
  | W.c j,W.d y,W.c i=>zP j y i D q.2
  | x,x_2,x_3=>none) fun q=>some (Fl.nx q.1,q.2):=rfl
noncomputable def YKa {α:Type} (f:List W->aA->Option (α×aA)):List W->XR α:=fun ws x h=>f ws h
@[simp] theorem cS5 {α:Type} (f:List W->aA->Option (α×aA)):YKa (α:=α) f=(fun ws x h=>f ws h:List W->XR α):=rfl
def YWf (d:Nat) (s:String):List W->XR W:=fun ws x h=>callW T d (Str.ofString s) ws h
@[simp] theorem cS6 (d:Nat) (s:String):YWf d s=fun ws x h=>callW T d (Str.ofString s) ws h:=rfl
def YTp (l:XR (List W)):XR W:=xb (xPl l) YT
@[simp] theorem cS7 (l:XR (List W)):YTp l=xb (xPl l) YT:=rfl
def YF1 (b:Bool) (d:Nat) (s:String) (a:XR W):XR W:=xb (Y1 a) (YF b d s)
@[simp] theorem lC (b:Bool) (d:Nat) (s:String) (a:XR W):YF1 b d s a=xb (Y1 a) (YF b d s):=rfl
def YF2 (m:Bool) (d:Nat) (s:String) (a b:XR W):XR W:=xb (Y2 a b) (YF m d s)
@[simp] theorem jN (m:Bool) (d:Nat) (s:String) (a b:XR W):YF2 m d s a b=xb (Y2 a b) (YF m d s):=rfl
def YK1 (f:List W->aA->Option (W×aA)) (a:XR W):XR W:=xb (Y1 a) (YK f)
@[simp] theorem bY7 (f:List W->aA->Option (W×aA)) (a:XR W):YK1 f a=xb (Y1 a) (YK f):=rfl
def wC (b:Bool) (d:Nat) (w0:W) (h:aA):aG (TT b) (d+1) "is_whole" [w0] h =
 YP (YRt (xb (xb (aE 0) (YIs "int")) (YAn (xb (xb (aE 0) (YIs "bool")) fun (w:W)=>match w with|W.d (PyData.bool b)=>aF (W.d (PyData.bool (!b)))|x=>xno)) [some w0] h)) (ends h):=by kernel_rfl
def rH (b:Bool) (d:Nat) (w0 w1 w2:W) (h:aA):aG (TT b) (d+1) "is_between" [w0,w1,w2] h =
 YP (YRt (xb (YF1 b d "is_whole" (aE 0)) (YAn (bM (xC2 CmpOp.LtE CmpOp.LtE (aE 1) (aE 0) (aE 2)))) [some w0,some w1,some w2] h)) (ends h):=by kernel_rfl
def pD (b:Bool) (d:Nat) (w0 w1:W) (h:aA):aG (TT b) (d+1) "is_tuple_of" [w0,w1] h =
 YP (YRt (xb (xb (aE 0) (YIs "tuple")) (YAn (bM (xC1 CmpOp.Eq (YK1 bI (aE 0)) (aE 1)))) [some w0,some w1] h)) (ends h):=by kernel_rfl
def tN (b:Bool) (d:Nat) (w0:W) (h:aA):aG (TT b) (d+1) "are_whole" [w0] h =
 YP (YRt (xb (Y1 (aN (xb (bC (aE 0)) (YCp (YG 0) (aF true) (YF1 b d "is_whole" (aE 0)) [none])))) (YK iG) [some w0] h)) (ends h):=by kernel_rfl
def rI (d:Nat) (w0:W) (h:aA):aG T (d+1) "are_rising" [w0] h =
 YP (YRt (xb (Y1 (aN (xb (xb (xb (YK1 bI (aE 0)) (YB .Sub 1)) YR) (YCp (YG 0) (aF true) (bM (xC1 CmpOp.Lt (xb (aE 1) (YXx (aE 0))) (xb (aE 1) (YXx (xb (aE 0) (YB .Add 1)))))) [none,some 0])))) (YK iG) [some w0] h)) (ends h):=by kernel_rfl
def aL3 (b:Bool) (d:Nat) (w0:W) (h:aA):aG (TT b) (d+1) "is_key" [w0] h =
 YP (YRt (xb (Y3 (aE 0) (YJ 0) (YJ 7)) (YF b d "is_between") [some w0] h)) (ends h):=by kernel_rfl
def gZ (b:Bool) (d:Nat) (w0:W) (h:aA):aG (TT b) (d+1) "word_of" [w0] h =
 YP (YP (YP (xb (xb (xb (aE 0) (YIs "tuple")) YD) (YAb (xb (xC1 CmpOp.Gt (YK1 bI (aE 0)) (YJ 0)) (YAb (xb (xb (YV 0 0) (YIs "str")) YD)))) [some w0] h) (YIr [some w0] (xb (aE 0) (YI 0)))) (YQ fun δ' p=>YRt (YZ δ' p.2))) (ends h):=by kernel_rfl
def tO (b:Bool) (d:Nat) (w0 w1 w2:W) (h:aA):aG (TT b) (d+1) "is_worded" [w0,w1,w2] h =
 YP (YRt (xb (bM (xC1 CmpOp.Eq (YF1 b d "word_of" (aE 0)) (aE 1))) (YAn (bM (xC1 CmpOp.Eq (YK1 bI (aE 0)) (aE 2)))) [some w0,some w1,some w2] h)) (ends h):=by kernel_rfl
def tP (b:Bool) (d:Nat) (w0:W) (h:aA):aG (TT b) (d+1) "is_single" [w0] h =
 YP (YP (aX 1 (YF1 b d "word_of" (aE 0)) [some w0,none] h) (YQ fun δ' p=>YP (YP (xb (kT (fun (z:Str)=>List.lookup z [(Str.ofString "read",PyData.int 0),(Str.ofString "write",PyData.int 1),(Str.ofString "add",PyData.int 1),(Str.ofString "swap",PyData.int 2)]) (aE 1)) (YOb (xC1 CmpOp.NotEq (YK1 bI (aE 0)) (xb (YJ 2) (YOx .Add (xb (aE 1) fun (w:W)=>match w with|W.d (PyData.str z)=>(match List.lookup z [(Str.ofString "read",PyData.int 0),(Str.ofString "write",PyData.int 1),(Str.ofString "add",PyData.int 1),(Str.ofString "swap",PyData.int 2)] with|some i=>aF (W.d i)|none=>xno)|x=>xno))))) δ' p.2) (YT2 false δ')) (YQ fun δ' p=>YRt (xb (YF1 b d "is_key" (YV 0 1)) (YAn (YF1 b d "are_whole" (xb (aE 0) (YSl (xb (YJ 2) YU) (aF none))))) δ' p.2)))) (ends h):=by kernel_rfl
def aB4 (b:Bool) (d:Nat) (w0:W) (h:aA):aG (TT b) (d+1) "is_span" [w0] h =
 YP (YP (YP (xb (YNt (xb (xb (Y3 (aE 0) (YS "span") (YJ 3)) (YF b d "is_worded")) YD)) (YOb (YNt (xb (YF1 b d "are_whole" (xb (aE 0) (YSl (xb (YJ 1) YU) (aF none)))) YD))) [some w0] h) (YT2 false [some w0])) (YQ fun δ' p=>YRt (bM (xC3 CmpOp.LtE CmpOp.Lt CmpOp.LtE (YJ 0) (YV 0 1) (YV 0 2) (xb (YJ 7) (YB .Add 1))) δ' p.2))) (ends h):=by kernel_rfl
def aB5 (b:Bool) (d:Nat) (w0:W) (h:aA):aG (TT b) (d+1) "is_deal" [w0] h =
 YP (YP (YP (xb (YNt (xb (xb (Y3 (aE 0) (YS "deal") (YJ 2)) (YF b d "is_worded")) YD)) (YOb (YNt (xb (xb (YV 0 1) (YIs "tuple")) YD))) [some w0] h) (YT2 false [some w0])) (YQ fun δ' p=>YRt (xb (bM (xC2 CmpOp.LtE CmpOp.LtE (YJ 1) (YK1 bI (YV 0 1)) (YJ 4))) (YAn (YK1 iG (aN (xb (bC (YV 0 1)) (YCp (YG 0) (aF true) (YF1 b d "is_single" (aE 0)) [none]))))) δ' p.2))) (ends h):=by kernel_rfl
def aB6 (b:Bool) (d:Nat) (w0:W) (h:aA):aG (TT b) (d+1) "is_call" [w0] h =
 YP (YRt (xb (YF1 b d "is_single" (aE 0)) (YOr (xb (YF1 b d "is_span" (aE 0)) (YOr (YF1 b d "is_deal" (aE 0))))) [some w0] h)) (ends h):=by kernel_rfl
def aB7 (b:Bool) (d:Nat) (w0:W) (h:aA):aG (TT b) (d+1) "is_look" [w0] h =
 YP (YRt (xb (xb (Y3 (aE 0) (YS "look") (YJ 2)) (YF b d "is_worded")) (YAn (YF1 b d "is_call" (YV 0 1))) [some w0] h)) (ends h):=by kernel_rfl
def lK (b:Bool) (d:Nat) (w0:W) (h:aA):aG (TT b) (d+1) "is_value_pair" [w0] h =
 YP (YRt (xb (YF2 b d "is_tuple_of" (aE 0) (YJ 2)) (YAn (xb (YF1 b d "is_key" (YV 0 0)) (YAn (YF1 b d "is_whole" (YV 0 1))))) [some w0] h)) (ends h):=by kernel_rfl
def aL4 (b:Bool) (d:Nat) (w0:W) (h:aA):aG (TT b) (d+1) "is_lay" [w0] h =
 YP (YP (YP (xb (YNt (xb (xb (Y3 (aE 0) (YS "lay") (YJ 2)) (YF b d "is_worded")) YD)) (YOb (xb (YNt (xb (xb (YV 0 1) (YIs "tuple")) YD)) (YOb (xC1 CmpOp.Eq (YK1 bI (YV 0 1)) (YJ 0))))) [some w0] h) (YT2 false [some w0])) (YQ fun δ' p=>YP (YP (xb (xb (YK1 iG (aN (xb (bC (YV 0 1)) (YCp (YG 0) (aF true) (YF1 b d "is_value_pair" (aE 0)) [none])))) YD) YNb δ' p.2) (YT2 false δ')) (YQ fun δ' p=>YRt (xb (Y1 (aN (xb (bC (YV 0 1)) (YCp (YG 0) (aF true) (YV 0 0) [none])))) (YF b d "are_rising") δ' p.2)))) (ends h):=by kernel_rfl
def pW (b:Bool) (d:Nat) (w0:W) (h:aA):aG (TT b) (d+1) "is_step" [w0] h =
 YP (YRt (xb (YF1 b d "is_call" (aE 0)) (YOr (xb (YF1 b d "is_look" (aE 0)) (YOr (YF1 b d "is_lay" (aE 0))))) [some w0] h)) (ends h):=by kernel_rfl
def tQ (b:Bool) (d:Nat) (w0 w1:W) (h:aA):aG (TT b) (d+1) "is_answer" [w0,w1] h =
 YP (YP (YP (xb (xb (YF1 b d "is_step" (aE 0)) YD) YNb [some w0,some w1] h) (YT2 false [some w0,some w1])) (YQ fun δ' p=>YP (YP (xb (xb (Y3 (aE 1) (YS "refused") (YJ 1)) (YF b d "is_worded")) YD δ' p.2) (YIr δ' (YF1 b d "is_call" (aE 0)))) (YQ fun δ' p=>YRt (xb (Y2 (aE 0) (aE 1)) (YF b d "is_own_answer") δ' p.2)))) (ends h):=by kernel_rfl
def bJ (b:Bool) (d:Nat) (w0 w1:W) (h:aA):aG (TT b) (d+1) "is_own_answer" [w0,w1] h =
 YP (YP (aX 2 (YV 0 0) [some w0,some w1,none] h) (YQ fun δ' p=>YP (YP (xC1 CmpOp.In (aE 2) (YTp (Y2 (YS "read") (YS "add"))) δ' p.2) (YIr δ' (xb (xb (Y3 (aE 1) (YS "got") (YJ 2)) (YF b d "is_worded")) (YAn (YF1 b d "is_whole" (YV 1 1)))))) (YQ fun δ' p=>YP (YP (xC1 CmpOp.In (aE 2) (YTp (Y2 (YS "write") (YS "lay"))) δ' p.2) (YIr δ' (xb (Y3 (aE 1) (YS "done") (YJ 1)) (YF b d "is_worded")))) (YQ fun δ' p=>YP (YP (xC1 CmpOp.Eq (aE 2) (YS "swap") δ' p.2) (YIr δ' (xb (xb (Y3 (aE 1) (YS "yes") (YJ 1)) (YF b d "is_worded")) (YOr (xb (Y3 (aE 1) (YS "no") (YJ 1)) (YF b d "is_worded")))))) (YQ fun δ' p=>YP (YP (xC1 CmpOp.Eq (aE 2) (YS "span") δ' p.2) (YIr δ' (xb (xb (Y3 (aE 1) (YS "all") (YJ 2)) (YF b d "is_worded")) (YAn (xb (YF2 b d "is_tuple_of" (YV 1 1) (xb (YV 0 2) (YOx .Sub (YV 0 1)))) (YAn (YF1 b d "are_whole" (YV 1 1)))))))) (YQ fun δ' p=>YP (YP (xC1 CmpOp.Eq (aE 2) (YS "look") δ' p.2) (YIr δ' (YF2 b d "is_own_answer" (YV 0 1) (aE 1)))) (YQ fun δ' p=>YP (YP (xb (YNt (xb (xb (Y3 (aE 1) (YS "each") (YJ 2)) (YF b d "is_worded")) YD)) (YOb (YNt (xb (YF2 b d "is_tuple_of" (YV 1 1) (YK1 bI (YV 0 1))) YD))) δ' p.2) (YT2 false δ')) (YQ fun δ' p=>YRt (xb (Y1 (aN (xb (xb (YV 0 1) fun (u:W)=>xb (YV 1 1) fun (w:W) (x:DSt) (h:aA)=>match lZ u,lZ w with|some xs,some ys=>some ((jW xs ys,none),h)|x,x_1=>none) (YCp (bH [YG 0,YG 1]) (aF true) (YF2 b d "is_own_answer" (aE 0) (aE 1)) [none,none])))) (YK iG) δ' p.2))))))))) (ends h):=by kernel_rfl
def aB8 (b:Bool) (d:Nat) (w0:W) (h:aA):aG (TT b) (d+1) "is_time" [w0] h =
 YP (YRt (xb (YF1 b d "is_whole" (aE 0)) (YAn (bM (xC1 CmpOp.GtE (aE 0) (YJ 0)))) [some w0] h)) (ends h):=by kernel_rfl
def hG (b:Bool) (d:Nat) (w0:W) (h:aA):aG (TT b) (d+1) "is_deed" [w0] h =
 YP (YP (YP (xb (YNt (xb (YF2 b d "is_tuple_of" (aE 0) (YJ 5)) YD)) (YOb (YNt (xb (xb (Y3 (YV 0 0) (YJ 0) (YJ 5)) (YF b d "is_between")) YD))) [some w0] h) (YT2 false [some w0])) (YQ fun δ' p=>YP (YP (xb (YNt (xb (YF1 b d "is_time" (YV 0 1)) YD)) (YOb (YNt (xb (YF1 b d "is_call" (YV 0 3)) YD))) δ' p.2) (YT2 false δ')) (YQ fun δ' p=>YP (YP (xC1 CmpOp.Is (YV 0 2) YZ δ' p.2) (YIr δ' (bM (xC1 CmpOp.Is (YV 0 4) YZ)))) (YQ fun δ' p=>YRt (xb (YF1 b d "is_time" (YV 0 2)) (YAn (xb (bM (xC1 CmpOp.Lt (YV 0 1) (YV 0 2))) (YAn (YF2 b d "is_answer" (YV 0 3) (YV 0 4))))) δ' p.2))))) (ends h):=by kernel_rfl
def wD (b:Bool) (d:Nat) (w0:W) (h:aA):aG (TT b) (d+1) "times_of" [w0] h =
 YP (YRt (xb (xC1 CmpOp.Is (YV 0 2) YZ) (fun (t:Bool)=>if t=true then aN (xPl (Y1 (YV 0 1))) else aN (xPl (Y2 (YV 0 1) (YV 0 2)))) [some w0] h)) (ends h):=by kernel_rfl
def iD (b:Bool) (d:Nat) (w0 w1:W) (h:aA):aG (TT b) (d+1) "ended_below" [w0,w1] h =
 YP (YRt (xb (bM (xC1 CmpOp.IsNot (YV 0 2) YZ)) (YAn (bM (xC1 CmpOp.Lt (YV 0 2) (aE 1)))) [some w0,some w1] h)) (ends h):=by kernel_rfl
def iE (b:Bool) (d:Nat) (w0 w1:W) (h:aA):aG (TT b) (d+1) "go_together" [w0,w1] h =
 YP (YP (YP (xb (YK1 rZ (aN (xb (bC (YF1 b d "times_of" (aE 0))) (YCp (YG 0) (aF true) (bM (xC1 CmpOp.In (aE 0) (YF1 b d "times_of" (aE 1)))) [none,some 1])))) YD [some w0,some w1] h) (YT2 false [some w0,some w1])) (YQ fun δ' p=>YRt (xb (bM (xC1 CmpOp.NotEq (YV 0 0) (YV 1 0))) (YOr (xb (YF2 b d "ended_below" (aE 0) (YV 1 1)) (YOr (YF2 b d "ended_below" (aE 1) (YV 0 1))))) δ' p.2))) (ends h):=by kernel_rfl
@[simp] def cW (b:Bool) (d:Nat) (x:DSt) (x_1:aA):Option (Fl×aA) :=
 YP (YP (xb (xb (YK1 iG (aN (xb (bC (xb (aE 0) (YSl (aF none) (xb (aE 1) YU)))) (YCp (YG 0) (aF true) (YF2 b d "go_together" (aE 1) (aE 0)) [none,some 3])))) YD) YNb x x_1) (YIf x fun p=>YP none YE)) YE
@[simp] def cX (b:Bool) (d:Nat) (x:DSt) (x_1:aA):Option (Fl×aA) :=
 YP (YP (xb (xb (YF1 b d "is_deed" (aE 2)) YD) YNb x x_1) (YIf x fun p=>YP none YE)) YE
def tR (b:Bool) (d:Nat) (w0:W) (h:aA):aG (TT b) (d+1) "look_over" [w0] h =
 YP (YP (YP (xb (YNt (xb (xb (aE 0) (YIs "tuple")) YD)) (YOb (xC1 CmpOp.Gt (YK1 bI (aE 0)) (YJ 60))) [some w0,none,none,none] h) (YIf [some w0,none,none,none] fun p=>YP none YE)) (YQ fun δ' p=>YP (YP (xb (aE 0) (fun (u:W) (x:DSt) (h:aA)=>iW u h) δ' p.2) (YFr (bH [YG 1,YG 2]) (cX b d) δ')) (YQ fun δ' p=>YP (YP (xb (aE 0) (fun (u:W) (x:DSt) (h:aA)=>iW u h) δ' p.2) (YFr (bH [YG 1,YG 3]) (cW b d) δ')) YE))) (ends h):=by kernel_rfl
def rJ (d:Nat) (w0 w1 w2:W) (h:aA):aG T (d+1) "with_value" [w0,w1,w2] h =
 YP (YRt (xb (xb (xb (aE 0) (YSl (aF none) (xb (aE 1) YU))) (YOx .Add (YTp (Y1 (aE 2))))) (YOx .Add (xb (aE 0) (YSl (xb (xb (aE 1) (YB .Add 1)) YU) (aF none)))) [some w0,some w1,some w2] h)) (ends h):=by kernel_rfl
def wE (d:Nat) (w0 w1:W) (h:aA):aG T (d+1) "done" [w0,w1] h =
 YP (YP (aX 2 (YV 1 0) [some w0,some w1,none] h) (YQ fun δ' p=>YP (YP (xC1 CmpOp.Eq (aE 2) (YS "span") δ' p.2) (YIr δ' (YTp (Y2 (YTp (Y2 (YS "all") (xb (aE 0) (YSl (xb (YV 1 1) YU) (xb (YV 1 2) YU))))) (aE 0))))) (YQ fun δ' p=>YP (YP (xC1 CmpOp.Eq (aE 2) (YS "deal") δ' p.2) (YIr δ' (YF2 false d "deal_done" (aE 0) (YV 1 1)))) (YQ fun δ' p=>YP (YP (xC1 CmpOp.Eq (aE 2) (YS "look") δ' p.2) (YIr δ' (YTp (Y2 (xb (YF2 false d "done" (aE 0) (YV 1 1)) (YI 0)) (aE 0))))) (YQ fun δ' p=>YP (YP (xC1 CmpOp.Eq (aE 2) (YS "lay") δ' p.2) (YIr δ' (YTp (Y2 (YTp (Y1 (YS "done"))) (YF2 false d "laid" (aE 0) (YV 1 1)))))) (YQ fun δ' p=>YRt (xb (Y2 (aE 0) (aE 1)) (YF false d "single_done") δ' p.2))))))) (ends h):=by kernel_rfl
def cL (d:Nat) (w0 w1:W) (h:aA):aG T (d+1) "single_done" [w0,w1] h =
 YP (YP (aX 2 (YV 1 0) [some w0,some w1,none,none,none] h) (YQ fun δ' p=>YP (aX 3 (YV 1 1) δ' p.2) (YQ fun δ' p=>YP (aX 4 (xb (aE 0) (YXx (aE 3))) δ' p.2) (YQ fun δ' p=>YP (YP (xC1 CmpOp.Eq (aE 2) (YS "write") δ' p.2) (YIr δ' (YTp (Y2 (YTp (Y1 (YS "done"))) (xb (Y3 (aE 0) (aE 3) (YV 1 2)) (YF false d "with_value")))))) (YQ fun δ' p=>YP (YP (xC1 CmpOp.Eq (aE 2) (YS "add") δ' p.2) (YIr δ' (YTp (Y2 (YTp (Y2 (YS "got") (xb (aE 4) (YOx .Add (YV 1 2))))) (xb (Y3 (aE 0) (aE 3) (xb (aE 4) (YOx .Add (YV 1 2)))) (YF false d "with_value")))))) (YQ fun δ' p=>YP (YP (xb (xC1 CmpOp.Eq (aE 2) (YS "swap")) (YAb (xC1 CmpOp.Eq (aE 4) (YV 1 2))) δ' p.2) (YIr δ' (YTp (Y2 (YTp (Y1 (YS "yes"))) (xb (Y3 (aE 0) (aE 3) (YV 1 3)) (YF false d "with_value")))))) (YQ fun δ' p=>YP (YP (xC1 CmpOp.Eq (aE 2) (YS "swap") δ' p.2) (YIr δ' (YTp (Y2 (YTp (Y1 (YS "no"))) (aE 0))))) (YQ fun δ' p=>YRt (xb (xPl (Y2 (YTp (Y2 (YS "got") (aE 4))) (aE 0))) YT δ' p.2))))))))) (ends h):=by kernel_rfl
@[simp] def kG (d:Nat) (x:DSt) (x_1:aA):Option (Fl×aA) :=
 YP (aX 4 (YF2 false d "single_done" (aE 0) (aE 3)) x x_1) (YQ fun δ' p=>YP (YP (xb (aE 2) (YA (Y1 (YV 4 0))) δ' p.2) (YNx δ')) (YQ fun δ' p=>YP (aX 0 (YV 4 1) δ' p.2) YE))
def tT (d:Nat) (w0 w1:W) (h:aA):aG T (d+1) "deal_done" [w0,w1] h =
 YP (YP (aX 2 (bT (xPl (aF []))) [some w0,some w1,none,none,none] h) (YQ fun δ' p=>YP (YP (bC (aE 1) δ' p.2) (YFr (YG 3) (kG d) δ')) (YQ fun δ' p=>YRt (xb (xPl (Y2 (YTp (Y2 (YS "each") (YK1 cE (aE 2)))) (aE 0))) YT δ' p.2)))) (ends h):=by kernel_rfl
def cP (d:Nat) (w0 w1:W) (h:aA):aG T (d+1) "_law_draw" [w0,w1] h =
 YP (YP (aX 2 (YJ 0) [some w0,some w1,none,none] h) (YQ fun δ' p=>YP (YP (xb (xC1 CmpOp.NotEq (aE 0) (aN (xPl (aF [])))) (YAb (xb (xC1 CmpOp.Eq (xb (YV 0 0) (YB .Mod 2)) (YJ 1)) (YAb (xC1 CmpOp.Lt (xb (YJ 1) (YOx .Add (xb (aE 1) (YB .FloorDiv 30)))) (YK1 bI (aE 0)))))) δ' p.2) (YIf δ' fun p=>YP (aX 2 (xb (xb (aE 0) (YXx (xb (YJ 1) (YOx .Add (xb (aE 1) (YB .FloorDiv 30)))))) (YOx .RShift (xb (YJ 32) (YOx .Mult (xb (aE 1) (YB .Mod 30)))))) δ' p.2) (YQ fun δ' p=>YP (YP (xb (xC1 CmpOp.NotEq (aE 2) (YJ 0)) (YAb (xC1 CmpOp.NotEq (aE 2) (xb (YJ 1) YNg))) δ' p.2) (YIr δ' (xb (aE 2) (YOx .Mod (xb (YJ 2) (YB .Pow 32)))))) YE))) (YQ fun δ' p=>YP (YP (xC1 CmpOp.NotEq (aE 0) (aN (xPl (aF []))) δ' p.2) (YIf δ' fun p=>YP (aX 2 (xb (aE 0) (YXx (xb (aE 1) (YOx .Mod (YK1 bI (aE 0)))))) δ' p.2) YE)) (YQ fun δ' p=>YP (aX 3 (xb (xb (xb (xb (aE 2) (YOx .Add (xb (YJ 7919) (YOx .Mult (aE 1))))) (YB .Add 1)) (YB .Mult 48271)) (YB .Mod 2147483647)) δ' p.2) (YQ fun δ' p=>YP (aX 3 (xb (xb (aE 3) (YOx .Mult (xb (xb (aE 3) (YB .FloorDiv 1009)) (YB .Add 69621)))) (YB .Mod 2147483647)) δ' p.2) (YQ fun δ' p=>YRt (xb (xb (aE 3) (YOx .Mult (xb (xb (aE 3) (YB .FloorDiv 2003)) (YB .Add 40692)))) (YB .Mod 2147483399) δ' p.2))))))) (ends h):=by kernel_rfl
def cF (d:Nat) (w0 w1:W) (h:aA):aG T (d+1) "_law_bent" [w0,w1] h =
 YP (YP (YP (xC1 CmpOp.Eq (YV 0 0) (YS "got") [some w0,some w1] h) (YIr [some w0,some w1] (YTp (Y2 (YS "got") (xb (xb (aE 1) (YB .Mod 4)) (YB .Sub 1)))))) (YQ fun δ' p=>YP (YP (xb (xC1 CmpOp.Eq (YV 0 0) (YS "yes")) (YOb (xC1 CmpOp.Eq (YV 0 0) (YS "no"))) δ' p.2) (YIr δ' (xb (aN (xPl (Y2 (YTp (Y1 (YS "yes"))) (YTp (Y1 (YS "no")))))) (YXx (xb (aE 1) (YB .Mod 2)))))) (YQ fun δ' p=>YP (YP (xC1 CmpOp.Eq (YV 0 0) (YS "all") δ' p.2) (YIr δ' (YTp (Y2 (YS "all") (YK1 cE (aN (xb (xb (YK1 bI (YV 0 1)) YR) (YCp (YG 0) (aF true) (xb (xb (aE 1) (YOx .FloorDiv (xb (aE 0) (YB .Add 3)))) (YB .Mod 3)) [none,some 1])))))))) (YQ fun δ' p=>YP (YP (xC1 CmpOp.Eq (YV 0 0) (YS "each") δ' p.2) (YIr δ' (YTp (Y2 (YS "each") (YK1 cE (aN (xb (xb (YV 0 1) fun (u:W) (x:DSt) (h:aA)=>iW u h) (YCp (bH [YG 0,YG 1]) (aF true) (YF2 false d "_law_bent" (aE 1) (xb (aE 2) (YOx .FloorDiv (xb (YJ 3) (YOx .Add (aE 0)))))) [none,none,some 1])))))))) (YQ fun δ' p=>YRt (aE 0 δ' p.2)))))) (ends h):=by kernel_rfl
def wF (d:Nat) (w0 w1:W) (h:aA):aG T (d+1) "is_quiet" [w0,w1] h =
 YP (YP (aX 2 (aN (xb (bC (aE 0)) (YCp (YG 0) (xb (YF2 false d "ended_below" (aE 0) (aE 1)) YD) (aE 0) [none,some 1]))) [some w0,some w1,none,none] h) (YQ fun δ' p=>YP (aX 3 (aN (xb (bC (aE 0)) (YCp (YG 0) (xC1 CmpOp.GtE (YV 0 1) (aE 1)) (aE 0) [none,some 1]))) δ' p.2) (YQ fun δ' p=>YRt (xb (bM (xC1 CmpOp.Gt (YK1 bI (aE 2)) (YJ 0))) (YAn (xb (bM (xC1 CmpOp.Gt (YK1 bI (aE 3)) (YJ 0))) (YAn (bM (xC1 CmpOp.Eq (xb (YK1 bI (aE 2)) (YOx .Add (YK1 bI (aE 3)))) (YK1 bI (aE 0))))))) δ' p.2)))) (ends h):=by kernel_rfl
def pE (d:Nat) (w0:W) (h:aA):aG T (d+1) "quiet_times" [w0] h =
 YP (YP (aX 1 (aN (xb (Y1 (aN (xb (bC (aE 0)) (YCp (YG 0) (xC1 CmpOp.IsNot (YV 0 2) YZ) (xb (YV 0 2) (YB .Add 1)) [none])))) (YKa iZ))) [some w0,none] h) (YQ fun δ' p=>YRt (xb (Y1 (aN (xb (bC (aE 1)) (YCp (YG 0) (xb (YF2 false d "is_quiet" (aE 1) (aE 0)) YD) (aE 0) [none,some 0])))) (YK cE) δ' p.2))) (ends h):=by kernel_rfl
@[simp] def eI (d:Nat) (x:DSt) (x_1:aA):Option (Fl×aA) :=
 YP (YP (xb (xb (aE 2) (YXx (YK1 bI (aN (xb (bC (aE 1)) (YCp (YG 0) (xC1 CmpOp.LtE (aE 0) (YV 1 1)) (aE 0) [none,some 4])))))) (YA (Y1 (aE 3))) x x_1) (YNx x)) YE
def aB9 (d:Nat) (w0:W) (h:aA):callW T (d+1) "pieces" [w0] h =
 YP (YP (YP (xb (Y1 (aE 0)) (YF false d "look_over") [some w0,none,none,none,none] h) (YNx [some w0,none,none,none,none])) (YQ fun δ' p=>YP (YP (xC1 CmpOp.Eq (YK1 bI (aE 0)) (YJ 0) δ' p.2) (YIr δ' (bT (xPl (aF []))))) (YQ fun δ' p=>YP (aX 1 (YF1 false d "quiet_times" (aE 0)) δ' p.2) (YQ fun δ' p=>YP (aX 2 (xb (xb (xb (YK1 bI (aE 1)) (YB .Add 1)) YR) fun (p:List PyData×Cw) (δ:DSt) (h:aA)=>YP (dH (YG 0) (aF true) (bT (xPl (aF []))) p.2 p.1 p.1 (cD [none] δ) h []) fun (q:List Nat×aA)=>some (W.c (List.length q.2),q.2++[Cell.r (List.map W.c q.1)])) δ' p.2) (YQ fun δ' p=>YP (YP (xb (aE 0) (fun (u:W) (x:DSt) (h:aA)=>iW u h) δ' p.2) (YFr (bH [YG 3,YG 4]) (eI d) δ')) (YQ fun δ' p=>YRt (xb (aE 2) (fun (w:W) (δ:DSt) (h:aA)=>match w with|W.c j=>YP (wsC j h) fun (ws:List W)=>YP (dD (YG 0) (aF true) (YK1 cE (aE 0)) (coW j ws) ws (cD [none] δ) h []) fun (q:List W×aA)=>some (W.c (List.length q.2),q.2++[plR q.1])|x=>none) δ' p.2))))))) kW:=by kernel_rfl
def jO (d:Nat) (w0:W) (h:aA):aG T (d+1) "_law_plain_call" [w0] h =
 YP (YP (aX 1 (xb (xb (aE 0) (YB .FloorDiv 8)) (YB .Mod 3)) [some w0,none,none,none] h) (YQ fun δ' p=>YP (aX 2 (xb (xb (aE 0) (YB .FloorDiv 64)) (YB .Mod 3)) δ' p.2) (YQ fun δ' p=>YP (aX 3 (aN (xPl (Y4 (YTp (Y2 (YS "read") (aE 1))) (YTp (Y3 (YS "write") (aE 1) (aE 2))) (YTp (Y3 (YS "add") (aE 1) (xb (aE 2) (YB .Sub 1)))) (YTp (Y4 (YS "swap") (aE 1) (aE 2) (xb (xb (aE 0) (YB .FloorDiv 256)) (YB .Mod 3))))))) δ' p.2) (YQ fun δ' p=>YRt (xb (aE 3) (YXx (xb (aE 0) (YB .Mod 4))) δ' p.2))))) (ends h):=by kernel_rfl
def gB (d:Nat) (w0:W) (h:aA):aG T (d+1) "_law_call" [w0] h =
 YP (YP (YP (xC1 CmpOp.Lt (xb (aE 0) (YB .Mod 8)) (YJ 6) [some w0,none] h) (YIr [some w0,none] (YF1 false d "_law_plain_call" (xb (aE 0) (YB .FloorDiv 8))))) (YQ fun δ' p=>YP (YP (xC1 CmpOp.Eq (xb (aE 0) (YB .Mod 8)) (YJ 6) δ' p.2) (YIf δ' fun p=>YP (aX 1 (xb (xb (aE 0) (YB .FloorDiv 8)) (YB .Mod 3)) δ' p.2) (YQ fun δ' p=>YRt (xb (xPl (Y3 (YS "span") (aE 1) (xb (xb (aE 1) (YB .Add 1)) (YOx .Add (xb (xb (aE 0) (YB .FloorDiv 64)) (YB .Mod 2)))))) YT δ' p.2)))) (YQ fun δ' p=>YRt (xb (xPl (Y2 (YS "deal") (YK1 cE (aN (xb (xb (xb (YJ 1) (YOx .Add (xb (xb (aE 0) (YB .FloorDiv 8)) (YB .Mod 3)))) YR) (YCp (YG 0) (aF true) (YF1 false d "_law_plain_call" (xb (aE 1) (YOx .FloorDiv (xb (YJ 64) (YOx .Add (xb (YJ 5) (YOx .Mult (aE 0)))))))) [none,some 0])))))) YT δ' p.2)))) (ends h):=by kernel_rfl
@[simp] def bN (d:Nat) (x:DSt) (x_1:aA):Option (Fl×aA) :=
 YP (YP (xb (aE 5) (YA (Y1 (YTp (Y5 (aE 9) (xb (xb (aE 4) (YXx (aE 9))) (YI 0)) YZ (xb (xb (aE 4) (YXx (aE 9))) (YI 1)) YZ)))) x x_1) (YNx x)) YE
@[simp] def bO (d:Nat) (x:DSt) (x_1:aA):Option (Fl×aA) :=
 YP (aX 8 (YF2 false d "_law_draw" (aE 0) (xb (YJ 100) (YOx .Add (aE 7)))) x x_1) (YQ fun δ' p=>YP (aX 9 (xb (aE 8) (YOx .Mod (aE 1))) δ' p.2) (YQ fun δ' p=>YP (aX 6 (xb (xb (xb (aE 6) (YB .Add 1)) (YOx .Add (xb (xb (aE 8) (YB .FloorDiv 8)) (YB .Mod 2)))) (YOx .Add (xb (aN (xPl (Y4 (YJ 0) (YJ 0) (YJ 0) (xb (YJ 10) (YB .Pow 30))))) (YXx (xb (xb (aE 8) (YB .FloorDiv 4096)) (YB .Mod 4)))))) δ' p.2) (YQ fun δ' p=>YP (YP (xC1 CmpOp.NotIn (aE 9) (aE 4) δ' p.2) fun p=>if p.1=true then YP (YP (xC1 CmpOp.Lt (xb (YK1 bI (aE 5)) (YOx .Add (YK1 bI (aE 4)))) (aE 2) δ' p.2) (YIf δ' fun p=>YP (YP (bT (xPl (Y3 (aE 6) (YF1 false d "_law_call" (xb (aE 8) (YB .FloorDiv 64))) YZ)) δ' p.2) fun p=>YP (sC (aE 4) (aE 9) p.1 δ' p.2) fun (q:DSt×aA)=>some (Fl.nx q.1,q.2)) YE)) YE else YP (YP (xC1 CmpOp.Is (xb (xb (aE 4) (YXx (aE 9))) (YI 2)) YZ δ' p.2) fun p=>if p.1=true then YP (YP (xb (Y2 (aE 3) (xb (xb (aE 4) (YXx (aE 9))) (YI 1))) (YF false d "done") δ' p.2) fun p=>YP (bH [YG 10,YG 11] p.1 δ' p.2) fun (q:DSt×aA)=>some (Fl.nx q.1,q.2)) (YQ fun δ' p=>YP (YP (xC1 CmpOp.Eq (xb (xb (aE 8) (YB .FloorDiv 16)) (YB .Mod 12)) (YJ 0) δ' p.2) fun p=>if p.1=true then YP (aX 10 (YTp (Y1 (YS "refused"))) δ' p.2) YE else YP (aX 3 (aE 11) δ' p.2) YE) (YQ fun δ' p=>YP (YP (aE 10 δ' p.2) fun p=>YP (sC (xb (aE 4) (YXx (aE 9))) (YJ 2) p.1 δ' p.2) fun (q:DSt×aA)=>some (Fl.nx q.1,q.2)) YE)) else YP (YP (xD (aE 4) (Y1 (aE 9)) δ' p.2) fun p=>YP (bH [YG 12,YG 13,YG 10] p.1 δ' p.2) fun (q:DSt×aA)=>some (Fl.nx q.1,q.2)) (YQ fun δ' p=>YP (YP (xC1 CmpOp.Eq (xb (xb (aE 8) (YB .FloorDiv 16)) (YB .Mod 8)) (YJ 1) δ' p.2) (YIf δ' fun p=>YP (aX 10 (YF2 false d "_law_bent" (aE 10) (xb (aE 8) (YB .FloorDiv 1024))) δ' p.2) YE)) (YQ fun δ' p=>YP (YP (xb (aE 5) (YA (Y1 (YTp (Y5 (aE 9) (aE 12) (aE 6) (aE 13) (aE 10))))) δ' p.2) (YNx δ')) YE))) YE) YE)))
def nY (d:Nat) (w0 w1 w2:W) (h:aA):aG T (d+1) "_law_history" [w0,w1,w2] h =
 YP (YP (aX 3 (aF (W.d (PyData.tuple (List.reverse [PyData.int 0,PyData.int 0,PyData.int 0,PyData.int 0,PyData.int 0,PyData.int 0,PyData.int 0,PyData.int 0])))) [some w0,some w1,some w2,none,none,none,none,none,none,none,none,none,none,none,none] h) (YQ fun δ' p=>YP (aX 4 xG δ' p.2) (YQ fun δ' p=>YP (aX 5 (bT (xPl (aF []))) δ' p.2) (YQ fun δ' p=>YP (aX 6 (xb (YF2 false d "_law_draw" (aE 0) (YJ 90)) (YB .Mod 3)) δ' p.2) (YQ fun δ' p=>YP (YP (xb (xb (xb (aN (xPl (Y3 (YJ 2) (YJ 3) (YJ 5)))) (YXx (xb (YF2 false d "_law_draw" (aE 0) (YJ 4)) (YB .Mod 3)))) (YOx .Mult (aE 2))) YR δ' p.2) (YFr (YG 7) (bO d) δ')) (YQ fun δ' p=>YP (YP (bC (aN (xb (Y1 (aE 4)) (YKa iZ))) δ' p.2) (YFr (YG 9) (bN d) δ')) (YQ fun δ' p=>YP (aX 14 (xb (YF2 false d "_law_draw" (aE 0) (YJ 91)) (YOx .Mod (xb (YK1 bI (aE 5)) (YB .Add 1)))) δ' p.2) (YQ fun δ' p=>YRt (xb (Y1 (xb (xb (aE 5) (YSl (xb (aE 14) YU) (aF none))) (YOx .Add (xb (aE 5) (YSl (aF none) (xb (aE 14) YU)))))) (YK cE) δ' p.2))))))))) (ends h):=by kernel_rfl
def jP (d:Nat) (w0 w1:W) (h:aA):aG T (d+1) "_law_ahead" [w0,w1] h =
 YP (YRt (xb (bM (xC1 CmpOp.IsNot (YV 0 2) YZ)) (YAn (bM (xC1 CmpOp.Lt (YV 0 2) (YV 1 1)))) [some w0,some w1] h)) (ends h):=by kernel_rfl
@[simp] def cY (d:Nat) (x:DSt) (x_1:aA):Option (Fl×aA) :=
 YP (aX 1 (xb (aE 1) (YOx .Add (aN (xb (Y1 (aE 2)) (YKa mB))))) x x_1) YE
def tU (d:Nat) (w0:W) (h:aA):aG T (d+1) "_law_flat" [w0] h =
 YP (YP (aX 1 (aN (xPl (aF []))) [some w0,none,none] h) (YQ fun δ' p=>YP (YP (bC (aE 0) δ' p.2) (YFr (YG 2) (cY d) δ')) (YQ fun δ' p=>YRt (aE 1 δ' p.2)))) (ends h):=by kernel_rfl
@[simp] def aO (d:Nat) (x:DSt) (x_1:aA):Option (Fl×aA) :=
 YP (YP (xC1 CmpOp.NotEq (aN (xb (bC (aE 1)) (YCp (YG 0) (YNt (xb (YF2 false d "_law_ahead" (aE 1) (aE 0)) YD)) (aE 0) [none,some 2]))) (aN (xPl (aF []))) x x_1) (YT2 false x)) YE
def kH (d:Nat) (w0 w1:W) (h:aA):aG T (d+1) "_law_all_ahead" [w0,w1] h =
 YP (YP (YP (bC (aE 0) [some w0,some w1,none] h) (YFr (YG 2) (aO d) [some w0,some w1,none])) (YQ fun δ' p=>YRt (aF (W.d (PyData.bool true)) δ' p.2))) (ends h):=by kernel_rfl
@[simp] def cJ (d:Nat) (x:DSt) (x_1:aA):Option (Fl×aA) :=
 YP (aX 2 (aN (xb (bC (aE 0)) (YCp (YG 0) (xC1 CmpOp.Lt (YV 0 1) (YV 1 1)) (aE 0) [none,some 1]))) x x_1) (YQ fun δ' p=>YP (aX 3 (aN (xb (bC (aE 0)) (YCp (YG 0) (xC1 CmpOp.GtE (YV 0 1) (YV 1 1)) (aE 0) [none,some 1]))) δ' p.2) (YQ fun δ' p=>YP (YP (xb (xC1 CmpOp.NotEq (aE 2) (aN (xPl (aF [])))) (YAb (xb (YF2 false d "_law_all_ahead" (aE 2) (aE 3)) YD)) δ' p.2) (YT2 true δ')) YE))
def nZ (d:Nat) (w0:W) (h:aA):aG T (d+1) "_law_may_cut" [w0] h =
 YP (YP (YP (bC (aE 0) [some w0,none,none,none] h) (YFr (YG 1) (cJ d) [some w0,none,none,none])) (YQ fun δ' p=>YRt (aF (W.d (PyData.bool false)) δ' p.2))) (ends h):=by kernel_rfl
@[simp] def fK (d:Nat) (x:DSt) (x_1:aA):Option (Fl×aA) :=
 YP (YP (xb (YNt (xb (xb (xb (aE 3) (YXx (aE 4))) (YIs "tuple")) YD)) (YOb (xb (xC1 CmpOp.Eq (xb (aE 3) (YXx (aE 4))) (YTp (aF []))) (YOb (xC1 CmpOp.NotEq (aN (xb (Y1 (xb (aE 3) (YXx (aE 4)))) (YKa mB))) (aN (xb (Y1 (xb (aE 3) (YXx (aE 4)))) (YKa iZ))))))) x x_1) (YT2 false x)) (YQ fun δ' p=>YP (YP (xb (YF1 false d "_law_may_cut" (aN (xb (bC (xb (aE 3) (YXx (aE 4)))) (YCp (YG 0) (aF true) (xb (aE 1) (YXx (aE 0))) [none,some 2])))) YD δ' p.2) (YT2 false δ')) (YQ fun δ' p=>YP (aX 5 (aN (xb (bC (YF1 false d "_law_flat" (xb (aE 3) (YSl (xb (xb (aE 4) (YB .Add 1)) YU) (aF none))))) (YCp (YG 0) (aF true) (xb (aE 1) (YXx (aE 0))) [none,some 2]))) δ' p.2) (YQ fun δ' p=>YP (YP (xb (xb (YF2 false d "_law_all_ahead" (aN (xb (bC (xb (aE 3) (YXx (aE 4)))) (YCp (YG 0) (aF true) (xb (aE 1) (YXx (aE 0))) [none,some 2]))) (aE 5)) YD) YNb δ' p.2) (YT2 false δ')) YE)))
end K61

namespace K61
open PySem PySem.Spec PyProof.Rows L2 DL CI SJ
abbrev Ow {α β:Type} (_:α->Option β):=Option α
noncomputable def bd {α β:Type} (f:α->Option β) (x:Ow f):Option β:=Option.bind x f
@[simp ↓ high] theorem bdi {α β:Type} (x:Option α) (f:α->Option β):x.bind f=bd f x:=rfl
@[simp high] theorem bds {α β:Type} (a:α) (f:α->Option β):bd f (some a)=f a:=id rfl
@[simp ↓ high] theorem bdy {α β:Type} (x:Option α) (f:α->Option β):YP x f=bd f x:=rfl
@[simp ↓ high] theorem ynx (k:DSt->Fl×aA->Option (Fl×aA)) (δ:DSt) (h:aA):YQ k (.nx δ,h)=k δ (.nx δ,h):=id rfl
@[simp ↓ high] theorem yrt (k:DSt->Fl×aA->Option (Fl×aA)) (w:W) (h:aA):YQ k (.rt w,h)=some (.rt w,h):=id rfl
@[simp ↓ high] theorem yE (f:Fl) (h:aA):YE (f,h)=some (f,h):=by cases f<;>rfl
@[simp ↓ high] theorem xba {α β:Type} (x:XR α) (f:α->XR β) (δ:DSt) (h:aA):xb x f δ h=bd (fun p=>f p.1 δ p.2) (x δ h):=rfl
@[simp ↓ high] theorem xsa (i:Nat) (x:XR W) (δ:DSt) (h:aA):aX i x δ h=bd (fun p=>some (.nx (δ.set i (some p.1)),p.2)) (x δ h):=rfl
mutual
noncomputable def nD:PyData->Bool
 | .none=>true
 | .bool _=>true
 | .int _=>true
 | .str _=>true
 | .list xs=>nDs xs
 | .tuple xs=>nDs xs
 | .dict _=>false
noncomputable def nDs:List PyData->Bool
 | []=>true
 | x::xs=>nD x&&nDs xs
end
theorem rK:∀ (xs:List PyData),nDs xs=xs.all nD
 | []=>rfl
 | x::xs=>by rw [nDs,rK xs];rfl
@[simp] theorem nDn:nD .none=true:=rfl
@[simp] theorem nDb (b:Bool):nD (.bool b)=true:=rfl
@[simp] theorem nDi (i:Int):nD (.int i)=true:=rfl
@[simp] theorem nDx (x:Str):nD (.str x)=true:=rfl
@[simp] theorem nDl (xs:List PyData):nD (.list xs)=xs.all nD:=rK xs
@[simp] theorem nDt (xs:List PyData):nD (.tuple xs)=xs.all nD:=rK xs
@[simp] theorem nDd (kvs:List (PyData×PyData)):nD (.dict kvs)=false:=rfl
def nD.nd {x:PyData} (h:nD x=true):noD x=true:=by cases x<;>first | rfl | cases h
@[simp] theorem cU4:noD .none=true:=rfl
@[simp] theorem cU5 (b:Bool):noD (.bool b)=true:=rfl
@[simp] theorem cU6 (i:Int):noD (.int i)=true:=rfl
@[simp] theorem cU7 (x:Str):noD (.str x)=true:=rfl
@[simp] theorem cU8 (xs:List PyData):noD (.list xs)=true:=rfl
@[simp] theorem cU9 (xs:List PyData):noD (.tuple xs)=true:=rfl
variable (d:Nat) (h:aA)
def bB8 (cs:List One):PyData:=.tuple [.str "deal",.tuple (cs.map One.dat)]
end K61

namespace K61
open PySem PySem.Spec PyProof.Rows L2 DL CI SJ
variable {bm:Bool}
variable (d:Nat) (x:PyData) (h:aA)
@[simp] theorem eJ (hx:nD x=true):aG (TT bm) (d+1) "is_whole" [.d x] h=some (.bool (fU x),h):=by
 cases x<;>simp [wC,isi,fS,fU]<;>cases hx
@[simp] theorem fM (lo hi:Int) (hx:nD x=true):aG (TT bm) (d+2) "is_between" [.d x,.d (.int lo),.d (.int hi)] h=some (.bool (eM x lo hi),h):=by
 have hn:=nD.nd hx;cases x<;>simp [rH,eJ,eM,fU,hx]<;>try (cases hx;done)
 split<;>simp_all;omega
@[simp] theorem dB (n:Int) (hx:nD x=true):aG (TT bm) (d+1) "is_tuple_of" [.d x,.d (.int n)] h=some (.bool (iB x n),h):=by
 cases x<;>simp [pD,isi,fS,iB]<;>cases hx
@[simp] theorem eP (xs:List PyData) (hx:xs.all nD=true):aG (TT bm) (d+2) "are_whole" [.d (.tuple xs)] h=some (.bool (xs.all fU),h):=by
 simp [tN];rw [dW (fun x=>.bool (fU x)) 0 (fun _ _ _=>rfl)]
 ·simp [gU]
 ·intro y hy u;simp [eJ,List.all_eq_true.mp hx y hy]
@[simp] theorem oA (hx:nD x=true):aG (TT bm) (d+3) "is_key" [.d x] h=some (.bool (jM x),h):=by
 simp [aL3,fM,jM,hx]
def tp (a:PyData):(∃ ps,a=.tuple ps)\/((∀ n,iB a n=false)/\isi a "tuple"=false/\eT a=.none/\bX a=false/\eU a=false/\(∀ s,gA (.tuple [.str s,a])=false/\pT (.tuple [.str s,a])=false)/\∀ s,(∀ lo hi,bU (.span lo hi) (.tuple [.str s,a])=false)/\∀ cs,bU (.deal cs) (.tuple [.str s,a])=false):=by
 cases a<;>first | exact .inl ⟨_,rfl⟩ | exact .inr ⟨fun _=>rfl,rfl,rfl,rfl,rfl,fun _=>⟨rfl,rfl⟩,fun _=>⟨fun _ _=>rfl,fun _=>rfl⟩⟩
@[simp] theorem pX (hx:nD x=true):aG (TT bm) (d+1) "word_of" [.d x] h=some (eT x,h):=by
 rcases tp x with ⟨xs,rfl⟩ | hn
 ·cases xs with
  | nil=>simp [gZ,isi,fS,eT]
  | cons y r =>
   cases hs:isi y "str"
   ·have:eT (.tuple (y::r))=.none:=by cases y<;>first | rfl | cases hs
    have hq:noD y=true:=nD.nd (by simp at hx;exact hx.1);simp [gZ,show ∀ xs,isi (.tuple xs) "tuple"=true from fun _=>rfl,hs,this,hq]
   ·obtain ⟨s,rfl⟩:∃ s,y=.str s:=by cases y<;>first | exact ⟨_,rfl⟩ | cases hs
    simp [gZ,isi,fS,eT]
 ·simp [gZ,hn,nD.nd hx]
end K61

namespace K61
open PySem PySem.Spec PyProof.Rows L2 DL CI SJ
variable {bm:Bool}
variable (d:Nat) (x:PyData) (h:aA)
@[simp] theorem gC (s:Str) (n:Int) (hx:nD x=true):aG (TT bm) (d+2) "is_worded" [.d x,.d (.str s),.d (.int n)] h=some (.bool (aS x s n),h):=by
 simp [tO,pX,hx];cases x<;>simp [eT,aS];rename_i xs;cases xs with
 | nil=>simp [eT,aS]
 | cons y r=>cases y<;>simp [eT,aS];rename_i t;cases e:(t==s)<;>simp
def lk (s:Str):List.lookup s [(Str.ofString "read",PyData.int 0),(Str.ofString "write",.int 1),(Str.ofString "add",.int 1),(Str.ofString "swap",.int 2)]=(nb s).map .int:=by
 unfold nb;simp only [List.lookup]
 repeat' split
 all_goals simp_all
def cO3 (a b:PyData) (r:List PyData):cut (a::b::r) (some 2) none=r:=by
 have e1:HT.sIx (a::b::r).length 0 (some 2)=2:=by simp [HT.sIx]
 have e2:HT.sIx (a::b::r).length (a::b::r).length none=r.length+2:=by simp [HT.sIx]
 rw [cut,e1,e2];simp
def cO4 (a:PyData) (r:List PyData):cut (a::r) (some 1) none=r:=by
 have e1:HT.sIx (a::r).length 0 (some 1)=1:=by simp [HT.sIx]
 have e2:HT.sIx (a::r).length (a::r).length none=r.length+1:=by simp [HT.sIx]
 rw [cut,e1,e2];simp
@[simp] theorem lE (hx:nD x=true):aG (TT bm) (d+4) "is_single" [.d x] h=some (.bool (bX x),h):=by
 simp [tP,pX,oA,eP,lk,hx];rcases tp x with ⟨xs,rfl⟩ | hn
 rotate_left
 ·simp [hn]
 cases xs with
 | nil=>simp [eT,bX]
 | cons y r =>
  cases y<;>simp [eT,bX];rename_i t;cases e:nb t with
  | none=>simp
  | some n =>
   have hn:0<=n:=by
    unfold nb at e
    repeat' split at e
    all_goals simp at e
    all_goals omega
   by_cases hl:(r.length:Int)+1=2+n
   ·cases r with
    | nil=>simp at hl;omega
    | cons k vs =>
     have hk:nD k=true:=by simp at hx;exact hx.1
     have hv:vs.all nD=true:=by simp at hx ⊢;exact hx.2
     cases ek:jM k<;>simp_all [oA,cO3,eP,lk]
   ·simp [hl,e,lk]
def fN {x:PyData} {s:Str} (e:aS x s 2=true):∃ a,x=.tuple [.str s,a]:=by
 unfold aS at e;split at e
 ·rename_i t r;simp at e;obtain ⟨rfl,e⟩:=e
  match r,e with
  | [a],_=>exact ⟨a,rfl⟩
  | [],e=>simp at e
  | _::_::_,e=>simp at e;omega
 ·cases e
def aW1 {x:PyData} {s:Str} (e:aS x s 3=true):∃ a b,x=.tuple [.str s,a,b]:=by
 unfold aS at e;split at e
 ·rename_i t r;simp at e;obtain ⟨rfl,e⟩:=e
  match r,e with
  | [a,b],_=>exact ⟨a,b,rfl⟩
  | [],e=>simp at e
  | [_],e=>simp at e
  | _::_::_::_,e=>simp at e;omega
 ·cases e
def aW2 {x:PyData} (e:aS x "span" 3=false):fJ x=false:=by
 unfold fJ;split
 ·simp [aS] at e;simp [e]
 ·rfl
def aW3 {x:PyData} (e:aS x "deal" 2=false):gA x=false:=by
 unfold gA;split
 ·simp [aS] at e;simp [e]
 ·rfl
def aW4 {x:PyData} (e:aS x "look" 2=false):kE x=false:=by
 unfold kE;split
 ·simp [aS] at e;simp [e]
 ·rfl
def bL7 {x:PyData} (e:aS x "lay" 2=false):pT x=false:=by
 unfold pT;split
 ·simp [aS] at e;simp [e]
 ·rfl
@[simp] theorem aC0 (hx:nD x=true):aG (TT bm) (d+3) "is_span" [.d x] h=some (.bool (fJ x),h):=by
 simp [aB4,gC,eP,hx];cases e:aS x (Str.ofString "span") 3
 ·simp [aW2 e]
 ·obtain ⟨a,b,rfl⟩:=aW1 e;have hab:nD a=true/\nD b=true:=by simpa using hx
  simp [cO4,eP,hab.1,hab.2];have wn:∀ {x},fU x=true->∃ i,x=.int i:=fun {x} h=>by cases x<;>first | exact ⟨_,rfl⟩ | cases h
  cases ha:fU a
  ·have:fJ (.tuple [.str (Str.ofString "span"),a,b])=false:=by cases a<;>first | rfl | cases ha
   simp [this]
  obtain ⟨i,rfl⟩:=wn ha;cases hb:fU b
  ·have:fJ (.tuple [.str (Str.ofString "span"),.int i,b])=false:=by cases b<;>first | rfl | cases hb
   simp [fU,this]
  obtain ⟨j,rfl⟩:=wn hb;simp [fU,fJ]
  by_cases h1:0<=i<;>by_cases h2:i < j<;>simp [h1,h2]
@[simp] theorem aC1 (hx:nD x=true):aG (TT bm) (d+5) "is_deal" [.d x] h=some (.bool (gA x),h):=by
 simp [aB5,gC,hx];cases e:aS x (Str.ofString "deal") 2
 ·simp [aW3 e]
 ·obtain ⟨a,rfl⟩:=fN e;have ha:nD a=true:=by simpa using hx
  rcases tp a with ⟨ps,rfl⟩ | hn
  rotate_left
  ·simp [hn,nD.nd ha]
  have hps:∀ y∈ps,nD y=true:=by simpa using ha
  simp [isi,fS,gA]
  by_cases h1:(1:Int)<=ps.length
  ·by_cases h2:(ps.length:Int)<=4
   ·simp [h1,h2];rw [dW (fun x=>.bool (bX x)) 0 (fun _ _ _=>rfl)]
    ·have h3:1<=ps.length:=by omega
     have h4:ps.length<=4:=by omega
     simp [gU,h3,h4]
    ·intro y hy u;simp [lE,hps y hy]
   ·have h4:¬ ps.length<=4:=by omega
    simp [h1,h2,h4]
  ·have h4:¬ 1<=ps.length:=by omega
   simp [h1,h4]
@[simp] theorem pY (hx:nD x=true):aG (TT bm) (d+6) "is_call" [.d x] h=some (.bool (dJ x),h):=by
 simp [aB6,lE,aC0,aC1,dJ,hx];cases e1:bX x<;>cases e2:fJ x<;>cases e3:gA x<;>simp [e1,e2,e3,hx]
@[simp] theorem bR0 (hx:nD x=true):aG (TT bm) (d+7) "is_look" [.d x] h=some (.bool (kE x),h):=by
 simp [aB7,gC,hx];cases e:aS x (Str.ofString "look") 2
 ·simp [aW4 e]
 ·obtain ⟨a,rfl⟩:=fN e;have ha:nD a=true:=by simpa using hx
  simp [pY,kE,ha]
@[simp] theorem aD1 (hx:nD x=true):aG (TT bm) (d+4) "is_value_pair" [.d x] h=some (.bool (eU x),h):=by
 simp [lK,dB,hx];rcases tp x with ⟨xs,rfl⟩ | hn
 rotate_left
 ·simp [hn]
 simp [iB]
 match xs with
 | []=>simp [eU]
 | [a]=>simp [eU]
 | [a,b] =>
  have hab:nD a=true/\nD b=true:=by simpa using hx
  simp [oA,eJ,eU,hab.1,hab.2];cases jM a<;>simp [eJ,hab.2]
 | a::b::c::r =>
  have:¬ ((r.length:Int)+1+1+1=2):=by omega
  simp [eU,this]
def cZ {n:Int} (h0:-5<=n) (h1:n<=100000):dY 0 n=true:=by
 unfold dY;simp;omega
def jQ {ns:List Int} {i:Nat} (hi:i < ns.length):atI (ns.map PyData.int) (i:Int)=some (.int (ns.getD i 0)):=by
 unfold atI;rw [ix_nat (by simpa using hi)];simp [List.getD,hi]
def aW5 (n:Nat):rng 0 n=(List.range n).map fun (i:Nat)=>PyData.int (i:Int):=by
 unfold rng;simp
def bL8 {w:W} {ns:List Int} (hl:ns.length<=1000) (l1:∀ h,bI [w] h=some (.d (.int ns.length),h)) (ix:∀ (i:Int) h,xIx w (.d (.int i)) h=(atI (ns.map .int) i).map fun v=>(.d v,h)):aG T (d+1) "are_rising" [w] h=some (.bool (bX0 ns),h):=by
 simp [rI,l1];rw [if_pos (cZ (by omega) (by omega))];simp only [bds];rw [dW (fun x=>.bool (decide (ns.getD (iS x).toNat 0 < ns.getD ((iS x).toNat+1) 0))) 0 (fun _ _ _=>rfl)]
 ·simp only [List.nil_append,bds,yE,all_map];rw [aW5,List.all_map,aV7];rfl
 ·intro y hy u;rw [aW5] at hy;obtain ⟨k,hk,rfl⟩:=List.mem_map.mp hy;have hk:=List.mem_range.mp hk;have e2:((k:Int)+1)=((k+1:Nat):Int):=rfl;simp [ix,jQ (show k < ns.length by omega),iS];rw [e2,jQ (by omega)];simp
noncomputable def small:PyData->Bool
 | .tuple [_,.tuple ps]=>decide (ps.length<=1000)
 | _=>true
def aL5 (hs:small x=true) (hx:nD x=true):aG T (d+5) "is_lay" [.d x] h=some (.bool (pT x),h):=by
 simp [aL4,hx];cases e:aS x (Str.ofString "lay") 2
 ·simp [bL7 e]
 ·obtain ⟨a,rfl⟩:=fN e;have ha:nD a=true:=by simpa using hx
  rcases tp a with ⟨ps,rfl⟩ | hn
  rotate_left
  ·simp [hn,nD.nd ha]
  have hps:∀ y∈ps,nD y=true:=by simpa using ha
  simp [isi,fS,pT]
  replace hs:ps.length<=1000:=of_decide_eq_true hs
  by_cases hp:ps=[]
  ·subst hp;simp
  ·have hn:¬ ((ps.length:Int)=0):=by
    have:ps.length≠0:=fun z=>hp (List.length_eq_zero_iff.mp z);omega
   simp [hp];rw [dW (fun x=>.bool (eU x)) 0 (fun _ _ _=>rfl)]
   ·simp only [List.nil_append,bds,yE,all_map];generalize ea:ps.all eU=b;cases b
    ·simp
    ·simp;rw [dW (fun x=>.int (iS (pS x))) 0 (fun _ _ _=>rfl)]
     ·have e3:(ps.map fun x=>PyData.int (iS (pS x)))=(ps.map fun p=>iS (pS p)).map PyData.int:=by simp
      simp only [List.nil_append,bds,e3];rw [bL8 _ _ (ns:=ps.map fun p=>iS (pS p)) (by simpa using hs) (fun _=>by simp) fun _ _=>rfl];simp [hp]
     ·intro y hy u;have:=List.all_eq_true.mp ea y hy;unfold eU at this;split at this
      ·rename_i k v;simp [jM,eM] at this;cases k<;>simp at this;simp [pS,iS]
      ·cases this
   ·intro y hy u;simp [hps y hy]
def tV (hx:nD x=true) (e1:dJ x=true):aG (TT bm) (d+8) "is_step" [.d x] h=some (.bool true,h):=by
 simp [pW,hx,e1]
@[simp] theorem bR1 (hs:small x=true) (hx:nD x=true):aG T (d+8) "is_step" [.d x] h=some (.bool (nK x),h):=by
 simp [pW,nK,hx];cases e1:dJ x<;>cases e2:kE x<;>simp [e1,e2,hx,aL5 _ _ _ hs hx]
end K61

namespace K61
open PySem PySem.Spec PyProof.Rows L2 DL CI SJ
variable {bm:Bool}
variable (d:Nat) (t:PyData) (h:aA)
def aL6 {t:PyData} (e:aS t "got" 2=false):cS (.read 0) t=false:=by
 unfold cS;split
 ·split
  ·rename_i s v;cases es:(s==Str.ofString "got")
   ·simp
   ·simp at es;subst es;simp [aS] at e
  ·rfl
 all_goals rename_i e';cases e'
@[simp] theorem bL9 (o:One):nD o.dat=true:=by cases o<;>rfl
def pZ (o:One) (ht:nD t=true):aG (TT bm) (d+3) "is_own_answer" [.d o.dat,.d t] h=some (.bool (cS o t),h):=by
 cases o
 ·simp [bJ,One.dat,PyData.eqv,cS,szl,ht];cases e:aS t (Str.ofString "got") 2
  ·simp;exact aL6 e
  ·obtain ⟨v,rfl⟩:=fN e;have hv:nD v=true:=by simpa using ht
   simp [hv]
 ·simp [bJ,One.dat,PyData.eqv,cS,szl,ht]
 ·simp [bJ,One.dat,PyData.eqv,cS,szl,ht];cases e:aS t (Str.ofString "got") 2
  ·simp;exact aL6 e
  ·obtain ⟨v,rfl⟩:=fN e;have hv:nD v=true:=by simpa using ht
   simp [hv]
 ·simp [bJ,One.dat,PyData.eqv,cS,szl,ht];cases e:aS t (Str.ofString "yes") 1<;>simp [ht]
end K61

namespace K61
open PySem PySem.Spec PyProof.Rows L2 DL CI SJ
variable {bm:Bool}
variable (d:Nat) (t:PyData) (h:aA)
def bM0 {t:PyData} {lo hi:Nat} (e:aS t "all" 2=false):bU (.span lo hi) t=false:=by
 unfold bU;split
 ·rename_i e';cases e'
 ·split
  ·rename_i s xs;cases es:(s==Str.ofString "all")
   ·simp
   ·simp at es;subst es;simp [aS] at e
  ·rfl
 ·rename_i e';cases e'
def aW6 {t:PyData} {cs:List One} (e:aS t "each" 2=false):bU (.deal cs) t=false:=by
 unfold bU;split
 ·rename_i e';cases e'
 ·rename_i e';cases e'
 ·split
  ·rename_i s xs;cases es:(s==Str.ofString "each")
   ·simp
   ·simp at es;subst es;simp [aS] at e
  ·rfl
def zps (cs:List One) (xs:List PyData):List (PyData×PyData):=(cs.zip xs).map fun p=>(.tuple [p.1.dat,p.2],.bool (cS p.1 p.2))
theorem bB9:∀ (cs:List One) (xs:List PyData),jW (cs.map One.dat) xs=(zps cs xs).map (·.1)
 | [],_=>by simp [jW,zps]
 | _::_,[]=>by simp [jW,zps]
 | c::cs,x::xs=>by
  have:=bB9 cs xs;unfold jW zps at this ⊢;simp at this ⊢;exact this
def bY8:∀ (cs:List One) (xs:List PyData),(zps cs xs).map (·.2)=((cs.zip xs).map fun p=>cS p.1 p.2).map PyData.bool:=fun cs xs=>by simp [zps]
theorem yJ:∀ (cs:List One) (xs:List PyData),((cs.zip xs).map fun p=>cS p.1 p.2).all id=eO cs xs
 | [],_=>by simp [eO]
 | _::_,[]=>by simp [eO]
 | c::cs,x::xs=>by
  have:=yJ cs xs;simp [eO] at this ⊢;rw [this]
theorem yK:∀ bs:List Bool,cT (bs.map PyData.bool)=some bs
 | []=>rfl
 | b::r=>by simp [cT,yK r]
@[simp] theorem yL (c:SJ.Call):nD c.dat=true:=by
 cases c with
 | one o=>exact bL9 o
 | span lo hi=>rfl
 | deal cs=>simp [Call.dat]
def wG (lo hi:Nat) (ht:nD t=true):aG (TT bm) (d+4) "is_own_answer" [.d (Call.span lo hi).dat,.d t] h=some (.bool (bU (.span lo hi) t),h):=by
 simp [bJ,Call.dat,PyData.eqv,szl,ht];cases e:aS t (Str.ofString "all") 2
 ·simp;exact bM0 e
 ·obtain ⟨v,rfl⟩:=fN e;have hv:nD v=true:=by simpa using ht
  rcases tp v with ⟨xs,rfl⟩ | hn
  rotate_left
  ·simp [hn,hv]
  have hxs:∀ y∈xs,nD y=true:=by simpa using hv
  have hxa:xs.all nD=true:=by simpa using hv
  simp [iB,bU,hv,hxs,hxa]
  by_cases hl:(xs.length:Int)=(hi:Int) - lo<;>simp [hl,hxs,hxa]
def wH (cs:List One) (ht:nD t=true):aG (TT bm) (d+4) "is_own_answer" [.d (Call.deal cs).dat,.d t] h=some (.bool (bU (.deal cs) t),h):=by
 simp [bJ,Call.dat,PyData.eqv,szl,ht];cases e:aS t (Str.ofString "each") 2
 ·simp;exact aW6 e
 ·obtain ⟨v,rfl⟩:=fN e;have hv:nD v=true:=by simpa using ht
  rcases tp v with ⟨xs,rfl⟩ | hn
  rotate_left
  ·simp [hn,hv]
  have hxs:∀ y∈xs,nD y=true:=by simpa using hv
  have hxa:xs.all nD=true:=by simpa using hv
  simp [iB,bU,hv,hxs,hxa]
  by_cases hl:(xs.length:Int)=cs.length
  ·have hl':xs.length=cs.length:=by omega
   simp [hl,hl'];rw [bB9,nN (fun δ=>∃ a b,δ=[a,b]) _ _ _ ⟨_,_,rfl⟩]
   ·have hz:=yJ cs xs;rw [bY8];generalize ((cs.zip xs).map fun p=>cS p.1 p.2)=L at hz ⊢;simp [yK,hz]
   ·intro p hp δ ⟨a,b,e⟩;subst e;obtain ⟨⟨o,x⟩,hm,rfl⟩:=List.mem_map.mp hp;have hx:nD x=true:=hxs x (List.of_mem_zip hm).2;refine ⟨[some (.d o.dat),some (.d x)],by simp [bH,dX],⟨_,_,rfl⟩,?_⟩;simp [pZ,hx]
  ·have hl':¬ xs.length=cs.length:=by omega
   simp [hl,hl']
def wI (c:SJ.Call) (ht:nD t=true):aG (TT bm) (d+4) "is_own_answer" [.d c.dat,.d t] h=some (.bool (bU c t),h):=by
 cases c with
 | one o=>exact pZ (d+1) t h o ht
 | span lo hi=>exact wG d t h lo hi ht
 | deal cs=>exact wH d t h cs ht
end K61

namespace K61
open PySem PySem.Spec PyProof.Rows L2 DL CI SJ
variable {bm:Bool}
variable (d:Nat) (t:PyData) (h:aA)
def wJ {c:SJ.Call} (hc:c.ok) (ht:nD t=true):aG (TT bm) (d+9) "is_answer" [.d c.dat,.d t] h=some (.bool (aS t "refused" 1||bU c t),h):=by
 simp [tQ,tV (d) c.dat h (yL c) (eX hc).1,ht,(eX hc).2.1,(eX hc).1];cases e:aS t (Str.ofString "refused") 1
 ·simp [wI (d+4),ht]
 ·simp [(eX hc).1]
end K61

namespace K61
open PySem PySem.Spec PyProof.Rows L2 DL CI SJ
variable {bm:Bool}
structure Dd where
 hand:Nat
 beg:Nat
 call:SJ.Call
 fin:Option (Nat×Option SJ.Ans)
noncomputable def tW:PyData:=.tuple [.str "refused"]
def anD:Option SJ.Ans->PyData
 | some a=>a.dat
 | none=>tW
noncomputable def Dd.endD (x:Dd):PyData:=match x.fin with
 | some p=>.int p.1
 | none=>.none
def Dd.ansD (x:Dd):PyData:=match x.fin with
 | some p=>anD p.2
 | none=>.none
def Dd.dat (x:Dd):PyData:=.tuple [.int x.hand,.int x.beg,x.endD,x.call.dat,x.ansD]
structure Dd.ok (x:Dd):Prop where
 hand:x.hand<=5
 call:x.call.ok
 fin:∀ p,x.fin=some p->x.beg < p.1/\∀ a,p.2=some a->Ans.fits x.call a
noncomputable def Dd.tms (x:Dd):List Int:=(x.beg:Int)::(match x.fin with | some p=>[(p.1:Int)] | none=>[])
noncomputable def Dd.below (x:Dd) (n:Nat):Bool:=match x.fin with | some p=>decide (p.1 < n) | none=>false
variable (d:Nat) (h:aA)
def yM {c:SJ.Call} (hc:c.ok):aG (TT bm) (d+6) "is_call" [.d c.dat] h=some (.bool true,h):=by
 rw [pY _ _ _ (yL c)];rw [(eX hc).1]
@[simp] theorem kI (n:Nat):aG (TT bm) (d+2) "is_time" [.d (.int n)] h=some (.bool true,h):=by
 have e:=eJ (bm:=bm) d (.int n) h rfl;simp [aB8,e,fU]
def bM1 (a:SJ.Ans):nD a.dat=true:=by
 cases a with
 | one a=>cases a<;>rfl
 | all ns=>simp [Ans.dat]
 | each as =>
  simp [Ans.dat];intro a _;cases a<;>rfl
def bC0 (a:Option SJ.Ans):nD (anD a)=true:=by
 cases a with
 | none=>rfl
 | some a=>exact bM1 a
def bC1 (x:Dd):nD x.dat=true:=by
 obtain ⟨hand,beg,call,fin⟩:=x;cases fin with
 | none=>simp [Dd.dat,Dd.endD,Dd.ansD]
 | some p=>simp [Dd.dat,Dd.endD,Dd.ansD,bC0]
def bY9 {c:SJ.Call} (hc:c.ok) {a:Option SJ.Ans} (hf:∀ b,a=some b->Ans.fits c b):aG (TT bm) (d+9) "is_answer" [.d c.dat,.d (anD a)] h=some (.bool true,h):=by
 rw [wJ d (anD a) h hc (bC0 a)];cases a with
 | none=>simp [anD,tW,aS]
 | some a=>simp [anD,aB3 (hf a rfl) hc]
def kJ (x:Dd) (hx:x.ok):aG (TT bm) (d+10) "is_deed" [.d x.dat] h=some (.bool true,h):=by
 have hc:=yM (bm:=bm) (d+3) h hx.call;have hh:=hx.hand;have hn:=bC1 x;have e1:=dB (bm:=bm) (d+8) x.dat h 5 hn;have e2:=fM (bm:=bm) (d+7) (.int x.hand) h 0 5 rfl;have e3:=kI (bm:=bm) (d+7) h x.beg;obtain ⟨hand,beg,call,fin⟩:=x;dsimp only at hh hc e2 e3;have hh':¬ (5:Int) < (hand:Int):=by omega
 cases fin with
 | none =>
  dsimp only [Dd.dat,Dd.endD,Dd.ansD] at e1 ⊢;simp [hG,e1,e2,e3,iB,eM,hc,hh,hh']
 | some p =>
  obtain ⟨h1,h3⟩:=hx.fin p rfl;have ha:=bY9 (bm:=bm) d h hx.call h3;have e4:=kI (bm:=bm) (d+7) h p.1;have isn:xIs (.d (.int (p.1:Int))) (.d .none)=some false:=rfl;obtain ⟨t,ht⟩:∃ t,t=anD p.2:=⟨_,rfl⟩;dsimp only [Dd.dat,Dd.endD,Dd.ansD] at e1 ha h1 ⊢;rw [<- ht] at ha e1 ⊢;simp [hG,e1,e2,e3,e4,iB,eM,hc,ha,hh,hh',h1]
def oB (x:Dd):aG (TT bm) (d+1) "times_of" [.d x.dat] h=some (.list (x.tms.map .int),h):=by
 obtain ⟨hand,beg,call,fin⟩:=x;cases fin<;>simp [wD,Dd.dat,Dd.endD,Dd.ansD,Dd.tms,szl]
def dC (x:Dd) (n:Nat):aG (TT bm) (d+1) "ended_below" [.d x.dat,.d (.int n)] h=some (.bool (x.below n),h):=by
 obtain ⟨hand,beg,call,fin⟩:=x;cases fin<;>simp [iD,Dd.dat,Dd.endD,Dd.ansD,Dd.below]
end K61

namespace K61
open PySem PySem.Spec PyProof.Rows L2 DL CI SJ
variable {bm:Bool}
variable (d:Nat) (h:aA)
structure Tog (x y:Dd):Prop where
 ne:∀ t,t∈x.tms->t∈y.tms->False
 hd:x.hand≠y.hand\/x.below y.beg=true\/y.below x.beg=true
theorem Tog.symm {x y:Dd} (t:Tog x y):Tog y x:=⟨fun z a b=>t.ne z b a,by
 rcases t.hd with h | h | h
 ·exact .inl fun e=>h e.symm
 ·exact .inr (.inr h)
 ·exact .inr (.inl h)⟩
theorem cmT {α:Type} {g:XG} {tt:XR Bool} {te:XR W} {all:List PyData} {h:aA} (F:α->PyData) (p:α->Bool) (f:α->PyData) (I:DSt->Prop):∀ (qs:List α) (δ:DSt) (ac:List PyData),I δ ->
  (∀ q∈qs,∀ δ,I δ->∃ δ',g (.d (F q)) δ h=some (δ',h)/\I δ'/\tt δ' h=some (p q,h)/\(p q=true->te δ' h=some (.d (f q),h)))->aZ g tt te none all (qs.map F) δ h ac=some (ac++(qs.filter p).map f,h)
 | [],δ,ac,_,_=>by simp [aZ]
 | q::r,δ,ac,i,hx=>by
  obtain ⟨δ',e1,i',e2,e3⟩:=hx q List.mem_cons_self δ i;have ih:=fun ac=>cmT (all:=all) F p f I r δ' ac i' fun y hy=>hx y (List.mem_cons_of_mem _ hy);rw [List.map_cons,aZ,cV,if_pos rfl,e1];simp only [CI.bs,e2];cases hp:p q with
  | true=>rw [if_pos rfl,e3 hp];simp only [CI.bs];rw [ih];simp [hp]
  | false=>rw [if_neg (by simp)];rw [ih];simp [hp]
def cmM {α:Type} {g:XG} {te:XR W} {all:List PyData} {h:aA} (F:α->PyData) (f:α->PyData) (I:DSt->Prop) (qs:List α) (δ:DSt) (i:I δ)
  (hx:∀ q∈qs,∀ δ,I δ->∃ δ',g (.d (F q)) δ h=some (δ',h)/\I δ'/\te δ' h=some (.d (f q),h)):aZ g (aF true) te none all (qs.map F) δ h []=some (qs.map f,h):=by
 rw [cmT F (fun _=>true) f I qs δ [] i fun q m δ i=>?_]
 ·rw [List.filter_eq_self.mpr (fun _ _=>rfl),List.nil_append]
 ·obtain ⟨δ',a,b,c⟩:=hx q m δ i;exact ⟨δ',a,b,rfl,fun _=>c⟩
theorem rL {α:Type} (b:Bool):∀ xs:List α,cT (xs.map fun _=>PyData.bool b)=some (xs.map fun _=>b)
 | []=>rfl
 | x::r=>by rw [List.map_cons,cT,rL b r];rfl
def bZ0 {α:Type} (xs:List α) (h:aA):rZ [.d (.list (xs.map fun _=>PyData.bool false))] h=some (.d (.bool false),h):=by
 have:rZ [.d (.list (xs.map fun _=>PyData.bool false))] h=(cT (xs.map fun _=>PyData.bool false)).map fun bs=>(.d (.bool (bs.any id)),h):=rfl;rw [this,rL];simp
theorem hO:∀ (ns:List Int) (n:Nat),plainsB n (ns.map .int)=true
 | [],n=>by simp
 | a::r,n=>by simp [hO r]
def yN (ns:List Int) (n:Int) (h:aA):xIn (.d (.int n)) (.d (.list (ns.map .int))) h=some (decide (n∈ns)):=by
 have:xIn (.d (.int n)) (.d (.list (ns.map .int))) h=if (aM 64 (.list (ns.map .int))&&aM 64 (.int n))=true then some ((ns.map PyData.int).any fun z=>PyData.eqv z (.int n)) else none:=rfl
 rw [this];simp only [yG,hO,bL3,Bool.and_self,if_true]
 congr 1
 clear this;induction ns with
 | nil=>rfl
 | cons a r ih =>
  rw [List.map_cons,List.any_cons,ih];simp [PyData.eqv]
  by_cases e:a=n
  ·simp [e]
  ·simp [e,Ne.symm e]
def pF {x y:Dd} (t:Tog x y):aG (TT bm) (d+3) "go_together" [.d x.dat,.d y.dat] h=some (.bool true,h):=by
 have t1:=fun x=>oB (bm:=bm) (d+1) h x;have b1:=fun n=>dC (bm:=bm) (d+1) h x n;have b2:=fun n=>dC (bm:=bm) (d+1) h y n;have y0:∀ k,xIx (.d y.dat) (.d (.int 0)) k=some (.d (.int y.hand),k):=fun k=>by simp [Dd.dat]
 have x0:∀ k,xIx (.d x.dat) (.d (.int 0)) k=some (.d (.int x.hand),k):=fun k=>by simp [Dd.dat]
 have y1:∀ k,xIx (.d y.dat) (.d (.int 1)) k=some (.d (.int y.beg),k):=fun k=>by simp [Dd.dat]
 have x1:∀ k,xIx (.d x.dat) (.d (.int 1)) k=some (.d (.int x.beg),k):=fun k=>by simp [Dd.dat]
 obtain ⟨dx,hdx⟩:∃ v,v=x.dat:=⟨_,rfl⟩;obtain ⟨dy,hdy⟩:∃ v,v=y.dat:=⟨_,rfl⟩;have tx:=t1 x;have ty:=t1 y;rw [<- hdx] at x0 x1 b1 tx ⊢;rw [<- hdy] at y0 y1 b2 ty ⊢;simp [iE,tx];rw [cmM PyData.int (fun _=>.bool false) (fun δ=>∃ u,δ=[u,some (.d dy)]) _ _ ⟨_,rfl⟩ fun t' hm δ hδ=>?_]
 ·simp only [bds,bZ0];have hh:=t.hd
  by_cases e:x.hand=y.hand
  ·cases e1:x.below y.beg
   ·have e2:y.below x.beg=true:=by
     rcases hh with h | h | h
     ·exact absurd e h
     ·rw [e1] at h;cases h
     ·exact h
    simp [x0,y0,x1,y1,e,b1,b2,e1,e2]
   ·simp [x0,y0,x1,y1,e,b1,b2,e1]
  ·have e':¬ ((x.hand:Int)=y.hand):=by omega
   simp [x0,y0,e']
 ·obtain ⟨u,rfl⟩:=hδ;refine ⟨_,rfl,⟨_,rfl⟩,?_⟩;have:t'∉y.tms:=fun z=>t.ne t' hm z;simp [ty,yN,this]
end K61

namespace K61
open PySem PySem.Spec PyProof.Rows L2 DL CI SJ
variable (d:Nat) (h:aA)
noncomputable def wv (st:List Int) (k:Nat) (v:Int):List Int:=st.take k++v::st.drop (k+1)
def wK {st:List Int} {k:Nat} (hk:k < st.length) (v:Int):(wv st k v).length=st.length:=by
 unfold wv;simp;omega
def sd (st:List Int):One->An1×List Int
 | .read k=>(.got (st.getD k 0),st)
 | .write k v=>(.dn,wv st k v)
 | .add k v=>(.got (st.getD k 0+v),wv st k (st.getD k 0+v))
 | .swap k x y=>if st.getD k 0=x then (.yes,wv st k y) else (.no,st)
def dr (st:List Int):List One->List An1×List Int
 | []=>([],st)
 | o::r=>((sd st o).1::(dr (sd st o).2 r).1,(dr (sd st o).2 r).2)
def wL {st:List Int} {o:One} (hk:o.key < st.length):(sd st o).2.length=st.length:=by
 cases o<;>simp only [One.key] at hk<;>simp only [sd]
 ·exact wK hk _
 ·exact wK hk _
 ·split
  ·exact wK hk _
  ·rfl
def yO (st:List Int) (o:One):An1.fits o (sd st o).1:=by
 cases o<;>simp only [sd]<;>first | trivial | (split<;>trivial)
def rM (xs:List PyData) {m:Nat} (hm:m<=xs.length):cut xs none (some (m:Int))=xs.take m:=by
 have e1:HT.sIx xs.length 0 none=0:=by simp [HT.sIx]
 have e2:HT.sIx xs.length xs.length (some (m:Int))=m:=by
  unfold HT.sIx;simp only [];rw [if_neg (by omega)];omega
 rw [cut,e1,e2];simp
def wM (xs:List PyData) {m:Nat} (hm:m<=xs.length):cut xs (some (m:Int)) none=xs.drop m:=by
 have e1:HT.sIx xs.length 0 (some (m:Int))=m:=by
  unfold HT.sIx;simp only [];rw [if_neg (by omega)];omega
 have e2:HT.sIx xs.length xs.length none=xs.length:=by simp [HT.sIx]
 rw [cut,e1,e2];rw [List.take_of_length_le];simp
def yP {st:List Int} {k:Nat} (hk:k < st.length):atI (st.map PyData.int) (k:Int)=some (.int (st.getD k 0)):=gT (by simp [hk])
def aW7 (st:List Int) (k:Nat) (v:Int) (hk:k < 8) (hl:st.length=8):aG T (d+1) "with_value" [.d (.tuple (st.map .int)),.d (.int k),.d (.int v)] h=some (.tuple ((wv st k v).map .int),h):=by
 have c1:=rM (st.map PyData.int) (m:=k) (by simp;omega);have c2:=wM (st.map PyData.int) (m:=k+1) (by simp;omega);have c2':cut (st.map PyData.int) (some ((k:Int)+1)) none=(st.map PyData.int).drop (k+1):=c2;have l1:min k st.length<=16777215:=by omega
 have l2:min k st.length+1+(st.length - (k+1))<=16777216:=by omega
 have l3:min k 8+1+(8 - (k+1))<=16777216:=by omega
 have l4:min k 8<=16777215:=by omega
 have l5:min k 8+1+(7 - k)<=16777216:=by omega
 simp [rJ,c1,c2',szl,wv,l1,hl,l3,l4,l5]
def tX (st:List Int) (o:One) (hk:o.key < 8) (hl:st.length=8):aG T (d+2) "single_done" [.d (.tuple (st.map .int)),.d o.dat] h=some (.tuple [(sd st o).1.dat,.tuple ((sd st o).2.map .int)],h):=by
 cases o with
 | read k =>
  have:=yP (st:=st) (k:=k) (by simp [One.key] at hk;omega);simp [cL,One.dat,An1.dat,this,szl,sd]
 | write k v =>
  simp only [One.key] at hk;have:=yP (st:=st) (k:=k) (by omega);simp [cL,One.dat,An1.dat,this,szl,aW7,hk,hl,sd]
 | add k v =>
  simp only [One.key] at hk;have:=yP (st:=st) (k:=k) (by omega);generalize e:st.getD k 0=w at this;simp only [sd,e];simp [cL,One.dat,An1.dat,this,szl,aW7,hk,hl]
 | swap k x y =>
  simp only [One.key] at hk;have:=yP (st:=st) (k:=k) (by omega);generalize e:st.getD k 0=v at this;simp only [sd,e]
  by_cases e:v=x
  ·subst e;simp [cL,One.dat,An1.dat,this,szl,aW7,hk,hl]
  ·simp [cL,One.dat,An1.dat,this,szl,aW7,hk,hl,e]
theorem yQ:∀ (cs:List One) (st:List Int) (o:One),dr st (cs++[o])=((dr st cs).1++[(sd (dr st cs).2 o).1],(sd (dr st cs).2 o).2)
 | [],st,o=>rfl
 | c::r,st,o=>by simp [dr,yQ r]
theorem wN:∀ (cs:List One) (st:List Int),(∀ o∈cs,o.key < st.length)->(dr st cs).2.length=st.length
 | [],st,_=>rfl
 | o::r,st,hk=>by
  have h1:=hk o List.mem_cons_self;have:=wN r (sd st o).2 fun o' ho=>by rw [wL h1];exact hk o' (List.mem_cons_of_mem _ ho)
  rw [wL h1] at this;exact this
theorem bC2:∀ (cs:List One) (st:List Int),(dr st cs).1.length=cs.length
 | [],st=>rfl
 | o::r,st=>by simp [dr,bC2 r]
theorem aL7:∀ (cs:List One) (st:List Int),Fit2 cs (dr st cs).1
 | [],st=>.nil
 | o::r,st=>.cons (yO st o) (aL7 r _)
def tY (cs:List One) (hk:∀ o∈cs,o.key < 8) (hc:cs.length<=100) (st:List Int) (hl:st.length=8):aG T (d+3) "deal_done" [.d (.tuple (st.map .int)),.d (.tuple (cs.map One.dat))] h=some (.tuple [.tuple [.str "each",.tuple ((dr st cs).1.map An1.dat)],.tuple ((dr st cs).2.map .int)],h):=by
 rw [show d+3=(d+2)+1 from rfl,tT];simp [szl];generalize hr:bY _ _ _ _ _ _ _=r;have kk:∃ δ' h',r=some (.nx δ',h')/\∃ (x1 x3 x4:Option W),δ'=[some (.d (.tuple ((dr st cs).2.map .int))),x1,some (.c h.length),x3,x4]/\h'=h++[.l ((dr st cs).1.map An1.dat)]:=by
  rw [<- hr];clear hr;refine gY (fun m δ' h'=>∃ (x1 x3 x4:Option W),δ'=[some (.d (.tuple ((dr st (cs.take m)).2.map .int))),x1,some (.c h.length),x3,x4]/\h'=h++[.l ((dr st (cs.take m)).1.map An1.dat)]) ⟨_,_,_,rfl,rfl⟩ (fun δ h'=>?_) ?_
  ·rw [List.length_map,List.take_length];exact id
  ·rintro m hm δ h' ⟨x1,x3,x4,rfl,rfl⟩;have hm':m < cs.length:=by simpa using hm
   have l2:(dr st (cs.take m)).2.length=8:=by rw [wN _ _ fun o ho=>by rw [hl];exact hk o (List.mem_of_mem_take ho)];exact hl
   have hs':=fun h=>tX d h (dr st (cs.take m)).2 cs[m] (hk _ (List.getElem_mem _)) l2;have ll:(dr st (cs.take m)).1.length < 16777216:=by rw [bC2,List.length_take];omega
   have e:cs.take (m+1)=cs.take m++[cs[m]]:=by rw [List.take_add_one];simp [hm']
   rw [List.getElem_map,e,yQ];generalize dr st (cs.take m)=q at *;obtain ⟨as,st'⟩:=q;have gl:=CI.get_last h (.l (as.map An1.dat));have mp:=CI.mpre_last h (as.map An1.dat);dsimp only at *;generalize sd st' cs[m]=p at hs';refine ⟨_,_,rfl,[some (.d (.tuple (p.2.map .int))),x1,some (.c h.length),some (.d cs[m].dat),some (.d (.tuple [p.1.dat,.tuple (p.2.map .int)]))],h++[.l ((as++[p.1]).map An1.dat)],?_,_,_,_,rfl,rfl⟩;simp [hs',gl,mp,ll,szl]
 obtain ⟨δ',h',rfl,x1,x3,x4,rfl,rfl⟩:=kk;have tl:cE [.c h.length] (h++[.l ((dr st cs).1.map An1.dat)])=some (.d (.tuple ((dr st cs).1.map An1.dat)),h++[.l ((dr st cs).1.map An1.dat)]):=by
  simp [cE,ref]
 simp [tl,szl]
def aL8 (o:One) (st:List Int) (hk:o.key < 8) (hl:st.length=8):aG T (d+3) "done" [.d (.tuple (st.map .int)),.d o.dat] h=some (.tuple [(sd st o).1.dat,.tuple ((sd st o).2.map .int)],h):=by
 have e:=fun h=>tX d h st o hk hl;rw [show d+3=(d+2)+1 from rfl,wE];generalize sd st o=p at e;cases o<;>simp [One.dat] at e ⊢<;>simp [e]
def aC2 (cs:List One) (hk:∀ o∈cs,o.key < 8) (hc:cs.length<=100) (st:List Int) (hl:st.length=8):aG T (d+4) "done" [.d (.tuple (st.map .int)),.d (bB8 cs)] h=some (.tuple [.tuple [.str "each",.tuple ((dr st cs).1.map An1.dat)],.tuple ((dr st cs).2.map .int)],h):=by
 have e:=fun h=>tY d h cs hk hc st hl;rw [show d+4=(d+3)+1 from rfl,wE];simp [bB8,e]
def bM2 (xs:List PyData) {i j:Nat} (hi:i<=j) (hj:j<=xs.length):cut xs (some (i:Int)) (some (j:Int))=(xs.drop i).take (j - i):=by
 have e1:HT.sIx xs.length 0 (some (i:Int))=i:=by
  unfold HT.sIx;simp only [];rw [if_neg (by omega)];omega
 have e2:HT.sIx xs.length xs.length (some (j:Int))=j:=by
  unfold HT.sIx;simp only [];rw [if_neg (by omega)];omega
 rw [cut,e1,e2]
def aC3 (lo hi:Nat) (h1:lo<=hi) (h2:hi<=8) (st:List Int) (hl:st.length=8):aG T (d+1) "done" [.d (.tuple (st.map .int)),.d (.tuple [.str "span",.int lo,.int hi])] h=some (.tuple [.tuple [.str "all",.tuple (((st.drop lo).take (hi - lo)).map .int)],.tuple (st.map .int)],h):=by
 have c:=bM2 (st.map PyData.int) (i:=lo) (j:=hi) h1 (by simp;omega);rw [<- List.map_drop,<- List.map_take] at c;simp [wE,c,szl]
def dnC (st:List Int):SJ.Call->SJ.Ans×List Int
 | .one o=>(.one (sd st o).1,(sd st o).2)
 | .span lo hi=>(.all ((st.drop lo).take (hi - lo)),st)
 | .deal cs=>(.each (dr st cs).1,(dr st cs).2)
def aW8 {c:SJ.Call} (hc:c.ok) {st:List Int} (hl:st.length=8):(dnC st c).2.length=8:=by
 cases c with
 | one o=>rw [<- hl];exact wL (by rw [hl];exact hc)
 | span lo hi=>exact hl
 | deal cs=>rw [<- hl];exact wN cs st fun o ho=>by rw [hl];exact hc.2.2 o ho
def aL9 {c:SJ.Call} (hc:c.ok) {st:List Int} (hl:st.length=8):Ans.fits c (dnC st c).1:=by
 cases c with
 | one o=>exact yO st o
 | span lo hi =>
  have h1:=hc.1;have h2:=hc.2;show ((st.drop lo).take (hi - lo)).length=hi - lo;simp;omega
 | deal cs=>exact aL7 cs st
def bM3 {st:List Int} (hl:st.length=8) {c:SJ.Call} (hc:c.ok):aG T (d+4) "done" [.d (.tuple (st.map .int)),.d c.dat] h=some (.tuple [(dnC st c).1.dat,.tuple ((dnC st c).2.map .int)],h):=by
 cases c with
 | one o=>exact aL8 (d+1) h o st hc hl
 | span lo hi=>exact aC3 (d+3) h lo hi (Nat.le_of_lt hc.1) hc.2 st hl
 | deal cs=>exact aC2 d h cs hc.2.2 (by have h2:cs.length<=4:=hc.1;omega) st hl
end K61

namespace K61
open PySem PySem.Spec PyProof.Rows L2 DL CI SJ
section
variable {x:Option (Fl×aA)} {k:DSt->Fl×aA->Option (Fl×aA)} (δ:DSt) (h:aA) (e:x=some (.nx δ,h))
include e
def sy {R:Option (Fl×aA)} (kk:k δ (.nx δ,h)=R):YP x (YQ k)=R:=by
 rw [e];exact kk
def sys {P:DSt->aA->Prop} (kk:∃ δ2 h2,k δ (.nx δ,h)=some (.nx δ2,h2)/\P δ2 h2):∃ δ2 h2,YP x (YQ k)=some (.nx δ2,h2)/\P δ2 h2:=by
 rw [e];exact kk
def syP {Q:Option (Fl×aA)->Prop} (kk:Q (k δ (.nx δ,h))):Q (YP x (YQ k)):=by
 rw [e];exact kk
end
theorem oE {α:Type} {x:Option α} {f:α->Option (Fl×aA)} {P:DSt->aA->Prop} (a:α) (e:x=some a) (k:∃ δ2 h2,f a=some (.nx δ2,h2)/\P δ2 h2):∃ δ2 h2,x.bind f=some (.nx δ2,h2)/\P δ2 h2:=by
 rw [e];exact k
def syE {Q:Option (Fl×aA)->Prop} {x:Option (Fl×aA)} {k:DSt->Fl×aA->Option (Fl×aA)} (J:DSt->aA->Prop) (e:∃ δ h,x=some (.nx δ,h)/\J δ h) (kk:∀ δ h,J δ h->Q (k δ (.nx δ,h))):Q (YP x (YQ k)):=by
 obtain ⟨δ,h,e,j⟩:=e;rw [e];exact kk δ h j
def syR {Q:Option (Fl×aA)->Prop} {x:Option (Fl×aA)} {k:DSt->Fl×aA->Option (Fl×aA)} (w:W) (h:aA) (e:x=some (.rt w,h)) (kk:Q (some (.rt w,h))):Q (YP x (YQ k)):=by
 rw [e];exact kk
structure HOk (hs:List Dd):Prop where
 ok:∀ x∈hs,x.ok
 pw:hs.Pairwise Tog
 len:hs.length<=60
def HOk.perm {hs gs:List Dd} (p:gs.Perm hs) (h:HOk hs):HOk gs:=⟨fun x hx=>h.ok x (p.mem_iff.mp hx),(p.pairwise_iff fun h=>h.symm).mpr h.pw,by rw [p.length_eq];exact h.len⟩
noncomputable def dfD:Dd:=⟨0,0,.span 0 1,none⟩
end K61

namespace K61
open PySem PySem.Spec PyProof.Rows L2 DL CI SJ
def gD (hs:List Dd) (i:Nat):Dd:=hs.getD i dfD
def gD_mem {hs:List Dd} {i:Nat} (hi:i < hs.length):gD hs i∈hs:=by
 unfold gD;rw [List.getD_eq_getElem?_getD,List.getElem?_eq_getElem hi];exact List.getElem_mem hi
def kK {hs:List Dd} {i:Nat} (hi:i < hs.length):hs[i]=gD hs i:=by simp [gD,List.getD,hi]
def bM4 {hs:List Dd} (h:hs.Pairwise Tog) {i j:Nat} (hi:i < hs.length) (hj:j < hs.length) (hn:i≠j):Tog (gD hs i) (gD hs j):=by
 rw [<- kK hi,<- kK hj];rcases Nat.lt_or_gt_of_ne hn with z | z
 ·exact List.pairwise_iff_getElem.mp h i j hi hj z
 ·exact (List.pairwise_iff_getElem.mp h j i hj hi z).symm
def nmD (hs:List Dd) (i:Nat):PyData:=.tuple [.int i,(gD hs i).dat]
theorem jR:∀ (xs:List PyData) (k:Nat),hX k xs=(List.range xs.length).map fun i=>.tuple [.int (k+i:Nat),xs.getD i .none]
 | [],k=>rfl
 | x::r,k=>by
  rw [hX,jR r (k+1),List.length_cons,List.range_succ_eq_map,List.map_cons,List.map_map]
  congr 1
  refine List.map_congr_left fun i _=>?_;simp;omega
def rN (hs:List Dd):bK (hs.map Dd.dat)=(List.range hs.length).map (nmD hs):=by
 unfold bK;rw [jR,List.length_map];refine List.map_congr_left fun i hi=>?_;have hi:=List.mem_range.mp hi;simp [nmD,gD,List.getD,hi]
variable (d:Nat) (h:aA)
def ypS {α β:Type} {x:Option α} {f:α->Option β} {R:Option β} (a:α) (e:x=some a) (k:f a=R):YP x f=R:=by
 rw [e];exact k
def ypQ {α β:Type} {Q:Option β->Prop} {x:Option α} {f:α->Option β} (a:α) (e:x=some a) (k:Q (f a)):Q (YP x f):=by
 rw [e];exact k
def QL (h:aA) (x:Option (Fl×aA)):Prop:=x.bind (ends h)=some (.none,h)
def tZ {hs:List Dd} (ok:HOk hs):aG T (d+11) "look_over" [.d (.tuple (hs.map Dd.dat))] h=some (.none,h):=by
 have eS:∀ δ:DSt,ends h (.nx δ,h)=some (.none,h):=fun δ=>by
  rw [bL5,if_pos (dS h),List.take_of_length_le (Nat.le_refl _)]
 obtain ⟨ht,eht⟩:∃ ht,ht=PyData.tuple (hs.map Dd.dat):=⟨_,rfl⟩;have xe:∀ H,iW (.d ht) H=some (((List.range hs.length).map (nmD hs),none),H):=fun H=>by rw [eht,rF,rN]
 have nd:noD ht=true:=by rw [eht];rfl
 have it:isi ht "tuple"=true:=by rw [eht];rfl
 have ln:bI [.d ht] h=some (.d (.int hs.length),h):=by rw [eht];simp
 have n60:¬ (60:Int) < hs.length:=by have:=ok.len;omega
 have cu:∀ i,i < hs.length->xSl (.d ht) none (some (i:Int)) h=some (.d (.tuple ((hs.map Dd.dat).take i)),h):=fun i hi=>by
  have:=rM (hs.map Dd.dat) (m:=i) (by simp;omega);rw [eht];show some (W.d (.tuple (cut (hs.map Dd.dat) none (some (i:Int)))),h)=_;rw [this]
 rw [<- eht,show d+11=(d+10)+1 from rfl,tR];have l1:∃ δ' h',bY (bH [YG 1,YG 2]) (cX false (d+10)) none ((List.range hs.length).map (nmD hs)) ((List.range hs.length).map (nmD hs)) [some (.d ht),none,none,none] h=some (.nx δ',h')/\((∃ x1 x2 x3,δ'=[some (.d ht),x1,x2,x3])/\h'=h):=by
  refine eY (fun δ H=>(∃ x1 x2 x3,δ=[some (.d ht),x1,x2,x3])/\H=h) _ ?_ _ _ ⟨⟨_,_,_,rfl⟩,rfl⟩;rintro x hx δ H ⟨⟨x1,x2,x3,rfl⟩,rfl⟩;obtain ⟨i,hi,rfl⟩:=List.mem_map.mp hx;have hi:=List.mem_range.mp hi;have cd:=kJ (bm:=false) d H (gD hs i) (ok.ok _ (gD_mem hi));refine ⟨[some (.d ht),some (.d (.int i)),some (.d (gD hs i).dat),x3],H,by simp [nmD,bH,dX],[some (.d ht),some (.d (.int i)),some (.d (gD hs i).dat),x3],H,?_,⟨_,_,_,rfl⟩,rfl⟩;simp [cd]
 have l2:∀ x1 x2 x3,∃ δ' h',bY (bH [YG 1,YG 3]) (cW false (d+10)) none ((List.range hs.length).map (nmD hs)) ((List.range hs.length).map (nmD hs)) [some (.d ht),x1,x2,x3] h=some (.nx δ',h')/\((∃ x1 x2 x3,δ'=[some (.d ht),x1,x2,x3])/\h'=h):=fun x1 x2 x3=>by
  refine eY (fun δ H=>(∃ x1 x2 x3,δ=[some (.d ht),x1,x2,x3])/\H=h) _ ?_ _ _ ⟨⟨_,_,_,rfl⟩,rfl⟩;rintro x hx δ H ⟨⟨x1,x2,x3,rfl⟩,rfl⟩;obtain ⟨i,hi,rfl⟩:=List.mem_map.mp hx;have hi:=List.mem_range.mp hi;refine ⟨[some (.d ht),some (.d (.int i)),x2,some (.d (gD hs i).dat)],H,by simp [nmD,bH,dX],[some (.d ht),some (.d (.int i)),x2,some (.d (gD hs i).dat)],H,?_,⟨_,_,_,rfl⟩,rfl⟩;have cu:=cu i hi;obtain ⟨qs,hqs⟩:∃ qs,qs=hs.take i:=⟨_,rfl⟩;have eq:qs.map Dd.dat=(hs.map Dd.dat).take i:=by rw [hqs,List.map_take]
  have cm:aZ (YG 0) (aF true) (xb (Y2 (aE 1) (aE 0)) (YF false (d+10) "go_together")) none (qs.map Dd.dat) (qs.map Dd.dat) [none,some (.d (gD hs i).dat)] H []=some (qs.map fun _=>.bool true,H):=by
   refine cmM Dd.dat (fun _=>.bool true) (fun δ=>∃ u,δ=[u,some (.d (gD hs i).dat)]) _ _ ⟨_,rfl⟩ fun y hy δ hδ=>?_;obtain ⟨u,rfl⟩:=hδ;refine ⟨_,rfl,⟨_,rfl⟩,?_⟩;rw [hqs] at hy;obtain ⟨j,hj,ej⟩:=List.getElem_of_mem hy;rw [List.length_take] at hj;rw [List.getElem_take] at ej;have hj':j < hs.length:=by omega
   rw [kK hj'] at ej;subst ej;have:=pF (bm:=false) (d+7) H (bM4 ok.pw hi hj' (by omega));simp [this]
  simp only [nV,nQ,nU,oX,pB,nW,nX,pC,bY2,bY3,nO,nP,oV,pA,oZ,oW,nR,oY,bdi] at cm;rw [eq] at cm;have bc:=rL true qs;simp [cu,cm,bc]
 show QL h _;refine syP [some (.d ht),none,none,none] h (by simp [nd,it,ln,n60]) ?_;refine syE (fun δ H=>(∃ x1 x2 x3,δ=[some (.d ht),x1,x2,x3])/\H=h) ?_ ?_
 ·exact oE (((List.range hs.length).map (nmD hs),none),h) (by simp [xe]) l1
 rintro _ _ ⟨⟨x1,x2,x3,rfl⟩,rfl⟩;obtain ⟨_,_,e2,⟨y1,y2,y3,rfl⟩,rfl⟩:=l2 x1 x2 x3;refine ypQ _ (ypS (((List.range hs.length).map (nmD hs),none),_) (by simp [xe]) e2) ?_;exact eS _
end K61

namespace L2
open PySem PySem.Spec PyProof.Rows
section
variable {prog:Program} {w:World} {A:Around} {E:Value->Shared->Prop} {h:Heap} {g:Array GenState} {d:Drawn} {t:Nat} {os:OsState} {K:PySem.W.Frag} {x C:Addr} {ox:Obj}
structure XCls (K:PySem.W.Frag) (C:Addr):Prop where
 ga:PySem.W.findIn K (.ref C) "__getattribute__"=some (some (.builtin "BaseException.__getattribute__"))
 gn:PySem.W.findIn K (.ref C) "__getattr__"=some none
 cl:PySem.W.findIn K (.ref C) "__class__"=some (some (.builtin "object.__class__"))
 be:PySem.W.mroIn K C (.type "BaseException")=some true
 ob:PySem.W.mroIn K C (.type "object")=some true
def bM5 {tp:Value} {R:Result->Shared->Prop} (Z:XCls K C) (X:K.In h) (hx:h.get? x=some ox) (hc:ox.cls=.ref C) (hq:R (.ok (.ret (.ref C))) ⟨h,g,d,t,os⟩) :
  codeAny (model prog w) A (.call (.builtin "getset_descriptor.__get__") ⟨[.builtin "object.__class__",.ref x,tp],[]⟩) R ⟨h,g,d,t,os⟩:=by
 have L0:PySem.W.Looks (model prog w) h (typeOf (.ref x)) (.ref C):=hc ▸ (PySem.W.Looks.ld hx).andThen .now;have L1:PySem.W.Looks (model prog w) h (isSubtype (.ref C) (.type "object")) true:=PySem.W.looks_mroIn X Z.ob;have hT5:(⟨h,g,d,t,os⟩:Shared).TypeIs (.builtin "object.__class__") "getset_descriptor":=F.typeOf_object_class;have ow:=F.owner_object_class;refine codeAny_call_builtin F.slot_gs_get.plain F.entry_gs_get ?_;refine F.slot_gs_get.check _ _ _ _ _ _ _ _ hT5 (F.args_gs_get _ _ _) ?_
 repeat (any_goals (first | assumption | (with_reducible refine wpAny_loadPart_at hx ?_;rw [hc]) | (rw [ow];with_reducible refine L1.at ?_) | with_reducible refine L1.at ?_ | wp_step))
 refine ⟨Code.quiet_builtin _ (by decide +kernel),codeAny_builtin F.entry_object_class ?_⟩
 repeat (any_goals (first | assumption | (with_reducible refine wpAny_loadPart_at hx ?_;rw [hc]) | wp_step))
def aM0 {tk:Tok} {Q:Fin->Shared->Prop} (Z:XCls K C) (X:K.In h) (hx:h.get? x=some ox) (hc:ox.cls=.ref C) (hq:Q (.done (.ret (.ref C))) ⟨h,g,d,t,os⟩) :
  wpAny (model prog w) A (Builtin.«object.__getattribute__» ⟨[.ref x,.str "__class__" tk],[]⟩) Q E ⟨h,g,d,t,os⟩:=by
 have L6:PySem.W.Looks (model prog w) h (typeLookup (.ref C) "__class__") (some (.builtin "object.__class__")):=PySem.W.looks_findIn X Z.cl;have hT5:(⟨h,g,d,t,os⟩:Shared).TypeIs (.builtin "object.__class__") "getset_descriptor":=F.typeOf_object_class;have f5:=F.typeOf_object_class;have f6:=F.slot_gs_get.lookup;have f7:=F.slot_gs_set.lookup
 repeat (any_goals (first | assumption | (with_reducible refine wpAny_loadPart_at hx ?_;rw [hc]) | with_reducible refine L6.at ?_ | wp_step))
 refine bM5 Z X hx hc ?_
 repeat (any_goals (first | assumption | wp_step))
def uA {M:Model} {nameV:Value} {Q:Unit->Shared->Prop} (Z:XCls K C) (X:K.In h) (hx:h.get? x=some ox) (hc:ox.cls=.ref C) (hq:Q () ⟨h,g,d,t,os⟩) :
  wpAny M A (checkBuiltinCall "BaseException.__getattribute__" ⟨[.ref x,nameV],[]⟩) Q E ⟨h,g,d,t,os⟩:=by
 have k1:builtinKind "BaseException.__getattribute__"=some .slot:=by decide +kernel
 have k2:splitId "BaseException.__getattribute__"=some ("BaseException","__getattribute__"):=by decide +kernel
 have L3:PySem.W.Looks M h (isSubtype (.ref C) (.type "BaseException")) true:=PySem.W.looks_mroIn X Z.be;have k3:=F.args_bexc_ga (.ref x) nameV;simp only [checkBuiltinCall,k1,k2];unfold isInstance
 repeat (any_goals (first | assumption | (with_reducible refine wpAny_loadPart_at hx ?_;rw [hc]) | with_reducible refine L3.at ?_ | wp_step))
def bZ1 {tk:Tok} {Q:Value->Shared->Prop} (FB:Slot "ValueError" "__getattribute__" "BaseException.__getattribute__") (Z:XCls K C) (X:K.In h) (hx:h.get? x=some ox) (hc:ox.cls=.ref C) (hq:Q (.ref C) ⟨h,g,d,t,os⟩) :
  wpAny (model prog w) A (getAttrBy (.ref x) (.str "__class__" tk) false) Q E ⟨h,g,d,t,os⟩:=by
 have L4:PySem.W.Looks (model prog w) h (typeLookup (.ref C) "__getattribute__") (some (.builtin "BaseException.__getattribute__")):=PySem.W.looks_findIn X Z.ga;have L5:PySem.W.Looks (model prog w) h (typeLookup (.ref C) "__getattr__") none:=PySem.W.looks_findIn X Z.gn;have f3:=FB.bind (.ref x);have y2:(Value.builtin "BaseException.__getattribute__"==Value.builtin "object.__getattribute__")=false:=by decide +kernel
 have y1:(onTheHeap (Value.ref C)&&Value.builtin "BaseException.__getattribute__"==Value.builtin "object.__getattribute__")=false:=by rw [y2];rfl
 repeat (any_goals (first | assumption | (with_reducible refine wpAny_loadPart_at hx ?_;rw [hc]) | with_reducible refine L4.at ?_ | with_reducible refine L5.at ?_ | wp_step))
 refine codeAny_call_builtin FB.plain F.entry_bexc_ga ?_;refine uA Z X hx hc (aM0 Z X hx hc ?_)
 repeat (any_goals (first | assumption | wp_step))
def aW9 {Q:Option Value->Shared->Prop} (FB:Slot "ValueError" "__getattribute__" "BaseException.__getattribute__") (Z:XCls K C) (X:K.In h) (hx:h.get? x=some ox) (hc:ox.cls=.ref C) (hq:Q (some (.ref C)) ⟨h,g,d,t+1,os⟩) :
  wpAny (model prog w) A (getAttr? (.ref x) "__class__") Q E ⟨h,g,d,t,os⟩:=by
 unfold getAttr? getAttrBy?
 repeat (any_goals (first | assumption | with_reducible apply bZ1 FB Z X hx hc | wp_step))
def uB (FB:Slot "ValueError" "__getattribute__" "BaseException.__getattribute__") (Z:XCls K C) (hc:ox.cls=.ref C):PySem.W.KitX K (.ref x) (.ref C) (fun h=>h.get? x=some ox) where
 ty:=fun M h _ hx=>hc ▸ (PySem.W.Looks.ld hx).andThen .now
 it:=fun M h X _=>by
  have z:=Z.ob;unfold PySem.W.mroIn at z;obtain ⟨cd,a,_⟩:=Option.bind_eq_some_iff.mp z;unfold PySem.W.clsIn at a;split at a
  ·rename_i ho;intro A' Q' E' s' k q;unfold isType loadHead;exact wpAny_bind (wpAny_loadPart (k _ _ (X _ _ ho)) (wpAny_pure q))
  ·cases a
 ne:=fun h tp dd its n sl X htp=>by
  refine Bool.eq_false_iff.mpr fun q=>?_;have e:C=tp:=Value.ref.inj (beq_iff_eq.mp q);subst e;have z:=Z.ob;unfold PySem.W.mroIn at z;obtain ⟨cd,a,_⟩:=Option.bind_eq_some_iff.mp z;unfold PySem.W.clsIn at a;split at a
  ·rename_i ho;cases (X _ _ ho).symm.trans htp
  ·cases a
 ca:=fun {_ _ _ _ _ s} X hx q=>by
  obtain ⟨h,g,d,t,os⟩:=s;exact aW9 FB Z X hx hc q
end
end L2
namespace PySem
section
variable {prog:Program} {w:World} {A:Around} {E:Value->Shared->Prop} {h:Heap} {g:Array GenState} {d:Drawn} {t:Nat} {os:OsState}
variable {nm q:Str} {C N:Addr} {bs bm bmB:List Value} {hdct:Bool} {sn:List Str} {sub:List Value} {ab:Bool} {col:Option Bool} {dd:Option Addr} {k0 k1 k2 k3 k5:Option Value} {B newId initId:String}
def uC (F:ExcBaseFacts B newId initId bmB) (T:OwnTail h bmB bm) {mN:Str->Option Value} {us:List Value} {fI:Addr} {oI:Obj} {Q:Fin->Shared->Prop}
  (hC:h.get? C=some (excClassObj nm q C N bs bm hdct sn sub ab col dd k0 k1 k2 k3 k5 newId)) (hn:h.Ns N mN) (hi:mN "__init__"=some (.ref fI)) (hfI:h.get? fI=some oI) (hfc:oI.cls=.type "function")
  (hq:∀ h' e,Heap.MadeExcOf h h' e (.ref C) us->h.objs.size<=e->wpAny (model prog w) A (call (.ref fI) (.ref e::us)) (fun r s'=>r=.none/\Q (.done (.ret (.ref e))) s') E ⟨h',g,d,t,os⟩) (hus:us.length<=sizeLine:=by size_fits) :
  wpAny (model prog w) A (Builtin.«type.__call__» ⟨.ref C::us,[]⟩) Q E ⟨h,g,d,t,os⟩:=by
 let o1:Obj:={ cls:=.type "tuple",data:=.seq us.toArray }
 let o2:Obj:={ cls:=.ref C,data:=.fields #[.ref h.objs.size,.none,.none,.none,.bool false,.none] }
 have up:∀ b o,h.get? b=some o->((h.push o1).push o2).get? b=some o:=fun b o e=>Heap.get?_push_of_some _ (Heap.get?_push_of_some _ e)
 repeat (first | with_reducible refine wpAny_loadPart_at hC ?_ | with_reducible refine wpAny_madeBy_exc hC ?_ | wp_step)
 refine codeAny_call_builtin_code (Code.quiet_builtin _ F.quiet) (wpAny_check_new_subT F T hC (codeAny_exc_new_subT F T hC ?_ hus));show wpAny _ _ _ _ _ _;have kC:=up _ _ hC;have kN:=hn.keeps up;have kf:=up _ _ hfI;have ke:((h.push o1).push o2).get? (h.objs.size+1)=some o2:=by heap_get
 have hcC:(Value.ref C::bm).contains (.ref C)=true:=by simp
 unfold isInstance
 repeat (first | with_reducible refine wpAny_loadPart_at ke ?_ | (with_reducible refine wpAny_isSubtype_exc kC ?_;rw [hcC]) | wp_step)
 show wpAny _ _ (typeLookup (.ref C) _) _ _ _;refine wpAny_typeLookup_tail kC kN (T.keeps up) F.mroIs F.init.lookup ?_;rw [hi];refine wpAny_holding (wpAny_bind ?_);unfold bindSpecial;refine wpAny_bind (wpAny_typeOf (T:="function") ⟨_,kf,hfc⟩ ?_);rw [if_pos (by decide)];refine wpAny_pure (wpAny_bind (wpAny_mono (hq _ (h.objs.size+1) ⟨up,Heap.get?_none_of_le (Nat.le_succ _),h.objs.size,ke,Heap.get?_none_of_le (Nat.le_refl _),?_⟩ (Nat.le_succ _)) (fun r s' hr=>?_) fun _ _ x=>x))
 ·exact Heap.get?_push_of_some _ (Heap.get?_push_at rfl rfl)
 ·obtain ⟨rfl,hQ⟩:=hr
  wp_walk
  exact hQ
def wO (F:ExcBaseFacts B newId initId bmB) (T:OwnTail h bmB bm) {mN:Str->Option Value} {us:List Value} {fI:Addr} {oI:Obj} {Q:Value->Shared->Prop}
  (hC:h.get? C=some (excClassObj nm q C N bs bm hdct sn sub ab col dd k0 k1 k2 k3 k5 newId)) (hn:h.Ns N mN) (hi:mN "__init__"=some (.ref fI)) (hfI:h.get? fI=some oI) (hfc:oI.cls=.type "function")
  (hq:∀ h' e,Heap.MadeExcOf h h' e (.ref C) us->h.objs.size<=e->wpAny (model prog w) (A.under (.builtin "type.__call__" ⟨.ref C::us,[]⟩)) (call (.ref fI) (.ref e::us)) (fun r s'=>r=.none/\Q (.ref e) s') E ⟨h',g,d,t,os⟩) (hus:us.length<=sizeLine:=by size_fits) :
  wpAny (model prog w) A (call (.ref C) us) Q E ⟨h,g,d,t,os⟩:=by
 have f1:=tc_lookup;have f2:=tc_bind (.ref C);have hT:(⟨h,g,d,t,os⟩:Shared).TypeIs (.ref C) "type":=⟨_,hC,rfl⟩;refine wpAny_call (codeAny_of_tree ?_);show wpAny _ _ (callAny (.ref C) _) _ _ _
 repeat (any_goals (first | assumption | with_reducible refine wpAny_loadPart_at hC ?_ | wp_step))
 exact ⟨rfl,codeAny_call_builtin_at (Code.quiet_builtin _ (by decide +kernel)) entry_typeCall (wpAny_check_type_call_sub hC (uC (hus:=hus) F T hC hn hi hfI hfc fun h' e hm hl=>hq h' e hm hl))⟩
end
end PySem
namespace PySem
noncomputable def Kp (P:Obj->Prop) {α:Type}:Sem α->Prop
 | .rule _ k=>Kp P (k ())
 | .at _ k=>Kp P (k ())
 | .load _ _ k=>∀ o,Kp P (k o)
 | .update _ _ f k=>(∀ o,P o->P (f o))/\Kp P (k ())
 | .alloc _ k=>∀ a,Kp P (k a)
 | .loadIfAlive _ k=>∀ o,Kp P (k o)
 | .point _ k=>Kp P (k ())
 | .fresh k=>∀ x,Kp P (k x)
 | .ask k=>∀ x,Kp P (k x)
 | .stack k=>∀ x,Kp P (k x)
 | .pure _=>True
 | .unsupported _=>True
 | .raise _=>True
 | _=>False
def Kp.bind {P:Obj->Prop} {α β:Type} {f:α->Sem β} (hf:∀ a,Kp P (f a)) {x:Sem α} (h:Kp P x):Kp P (x >>= f):=by
 show Kp P (x.bind f);induction x with
 | pure a=>exact hf a
 | raise e=>exact True.intro
 | unsupported u=>exact True.intro
 | rule t k ih=>exact ih () h
 | «at» t k ih=>exact ih () h
 | load a p k ih=>exact fun o=>ih o (h o)
 | update a p g k ih=>exact ⟨h.1,ih () h.2⟩
 | alloc o k ih=>exact fun o=>ih o (h o)
 | loadIfAlive a k ih=>exact fun o=>ih o (h o)
 | point l k ih=>exact ih () h
 | fresh k ih=>exact fun o=>ih o (h o)
 | ask k ih=>exact fun o=>ih o (h o)
 | stack k ih=>exact fun o=>ih o (h o)
 | _=>exact False.elim h
def AtP (P:Obj->Prop) (e:Addr) (h:Heap):Prop:=∃ o,h.get? e=some o/\P o
theorem AtP.upd {P:Obj->Prop} {e a:Addr} {h:Heap} {f:Obj->Obj} (hP:∀ o,P o->o.isFreed=false) (x:AtP P e h) (hf:∀ o,P o->P (f o)):AtP P e (h.update a f):=by
 obtain ⟨o,e1,p⟩:=x
 by_cases q:a=e
 ·subst q;exact ⟨_,Heap.get?_update_self _ e1 (hP _ (hf _ p)),hf _ p⟩
 ·exact ⟨o,(Heap.get?_update_other _ _ q).trans e1,p⟩
def Kp.wp {P:Obj->Prop} (hP:∀ o,P o->o.isFreed=false) {M:Model} {Γ:Ctx} {e:Addr} {α:Type} {Q:α->Pos->Shared->Prop} {E:Value->Pos->Shared->Prop} {t:Sem α} (h:Kp P t):∀ {p:Pos} {s:Shared},AtP P e s.heap->Sem.wp M Γ t Q E p s->Sem.wp M Γ t (fun a p s'=>Q a p s'/\AtP P e s'.heap) E p s:=by
 induction t with
 | pure a=>exact fun x w=>⟨w,x⟩
 | raise e=>exact fun x w=>w
 | unsupported u=>exact fun x w=>w
 | rule t k ih=>exact fun x w=>ih () h x w
 | «at» t k ih=>exact fun x w=>ih () h x w
 | load a p k ih=>exact fun x ⟨o,e1,w⟩=>⟨o,e1,ih o (h o) x w⟩
 | update a p g k ih=>exact fun x ⟨e1,w⟩=>⟨e1,ih () h.2 (x.upd hP h.1) w⟩
 | alloc o k ih=>exact fun x w=>ih _ (h _) (let ⟨o',e1,p1⟩:=x;⟨o',Heap.get?_push_of_some _ e1,p1⟩) w
 | loadIfAlive a k ih=>exact fun x w=>ih _ (h _) x w
 | point l k ih=>exact fun x w=>ih () h x w
 | fresh k ih=>exact fun x w=>ih _ (h _) x w
 | ask k ih=>exact fun x w=>ih _ (h _) x w
 | stack k ih=>exact fun x w=>ih _ (h _) x w
 | _=>exact False.elim h
def Kp.any {P:Obj->Prop} (hP:∀ o,P o->o.isFreed=false) {M:Model} {A:Around} {e:Addr} {α:Type} {Q:α->Shared->Prop} {E:Value->Shared->Prop} {t:Sem α} {s:Shared} (h:Kp P t) (x:AtP P e s.heap) (w:wpAny M A t Q E s):wpAny M A t (fun a s'=>Q a s'/\AtP P e s'.heap) E s :=
 fun Γ p hΓ=>Kp.wp hP h x (w Γ p hΓ)
def ErP (c:Value) (D:Option Addr) (x:Value) (o:Obj):Prop:=o.cls=c/\o.dict=D/\∃ vs,o.data=.fields vs/\vs[2]?=some x
theorem ErP.freed {c:Value} {D:Option Addr} {x:Value} (o:Obj) (h:ErP c D x o):o.isFreed=false:=let ⟨_,_,_,e,_⟩:=h;Obj.isFreed_of_fields e
theorem ErP.map {c:Value} {D:Option Addr} {x v:Value} {i:Nat} (hi:i≠2) (o:Obj) (h:ErP c D x o):ErP c D x (Obj.mapFields (·.setIfInBounds i v) o):=by
 obtain ⟨h1,h2,vs,h3,h4⟩:=h;refine ⟨(Obj.cls_mapFields _ _).trans h1,?_,_,Obj.data_mapFields h3 _,by rw [Array.getElem?_setIfInBounds_ne hi];exact h4⟩;obtain ⟨c1,d1,dt,sl⟩:=o;cases dt<;>exact h2
section
variable {c x:Value} {D:Option Addr}
def aC4 (v:Value):Kp (ErP c D x) (fieldsOf v):=by
 unfold fieldsOf;cases v with
 | ref a=>exact Kp.bind (fun o=>by cases o.data<;>trivial) (x:=load a) (fun _=>trivial)
 | _=>trivial
def jS (v:Value) (i:Nat):Kp (ErP c D x) (field v i):=Kp.bind (fun vs=>by cases vs[i]?<;>trivial) (aC4 v)
def gF (v:Value) (i:Nat) (hi:i≠2) (y:Value):Kp (ErP c D x) (setField v i y):=by
 unfold setField;cases v with
 | ref a =>
  refine Kp.bind (fun o=>?_) (x:=load a) (fun _=>trivial);cases o.data with
  | fields vs =>
   dsimp only;split
   ·exact ⟨ErP.map hi,trivial⟩
   ·trivial
  | _=>trivial
 | _=>trivial
def kM (e:Value) (f:Option Addr):Kp (ErP c D x) (setFlight e f):=Kp.bind (fun tb=>by split<;>first | exact gF _ _ (by decide) _ | trivial) (jS e 1)
def oF:Kp (ErP c D x) stack:=fun _=>True.intro
theorem uD:∀ l:List Env,Kp (ErP c D x) (readyFrames l)
 | []=>trivial
 | env::outer=>by
  have ih:=uD outer;unfold readyFrames;cases env.frame with
  | none=>trivial
  | some f =>
   refine Kp.bind (fun o=>?_) (x:=load f) (fun _=>trivial);split
   ·trivial
   ·refine Kp.bind (fun b=>?_) ?_
    ·refine Kp.bind (fun b'=>?_) ?_
     ·refine Kp.bind (fun _=>ih) ?_;exact ⟨fun o h=>h,True.intro⟩
     ·unfold keptBack;split
      ·split
       ·exact True.intro
       ·refine Kp.bind (fun _=>?_) ?_
        ·exact True.intro
        ·unfold underTheClaimsCaller;refine Kp.bind (fun _=>?_) oF;exact True.intro
      ·exact True.intro
    ·unfold behindIsImport;split
     ·trivial
     ·split
      ·trivial
      ·refine Kp.bind (fun _=>?_) (jS _ _);exact True.intro
def aX0:Kp (ErP c D x) frameEnvs:=by
 unfold frameEnvs;refine Kp.bind (fun _=>?_) oF;exact True.intro
def wP (env:Env):Kp (ErP c D x) (frameOf env):=by
 unfold frameOf;refine Kp.bind (fun l=>Kp.bind (fun o=>by cases o<;>trivial) ?_) aX0;unfold frameObject;cases List.dropWhile (fun x=>x.frame != env.frame) l with
 | nil=>trivial
 | cons a r =>
  refine Kp.bind (fun _=>?_) (uD _);exact True.intro
def yR (e:Value) (env:Env):Kp (ErP c D x) (noteFrame e env):=by
 unfold noteFrame;cases env.frame with
 | none=>trivial
 | some f =>
  have tail:∀ head:Value,Kp (ErP c D x) (do setField e 1 (<- EntryCells.newEntry head (<- frameOf env) .none (rawInt f) .none (<- entryPlaceOf f (head != .none)))):=fun head=>by
   refine Kp.bind (fun fr=>Kp.bind (fun pl=>Kp.bind (fun b=>gF _ _ (by decide) _) ?_) ?_) (wP env)
   ·unfold EntryCells.newEntry newFields newObj;dsimp only;generalize ([head,fr,Value.none,rawInt f,Value.none]++(if pl.isEmpty=true then List.replicate 6 Value.none else pl))=L;split
    ·exact True.intro
    ·unfold newObjAsIs;refine Kp.bind (fun _=>?_) ?_
     ·exact True.intro
     ·exact fun _=>True.intro
   ·unfold entryPlaceOf;exact Kp.bind (fun _=>by split<;>trivial) oF
  refine Kp.bind (fun head=>?_) (jS e 1);dsimp only;split
  ·refine Kp.bind (fun y=>?_) (jS _ _);split
   ·trivial
   ·exact Kp.bind (fun _=>tail _) (gF _ _ (by decide) _)
  ·exact tail _
def oG (e:Value) (env:Env):Kp (ErP c D x) (leaving env e):=Kp.bind (fun _=>kM _ _) (yR e env)
end
end PySem
namespace L2
open PySem PySem.Spec PyProof.Rows
abbrev wQ:List Value:=[.type "ValueError",.type "Exception",.type "BaseException",.type "object"]
structure ECls (K:PySem.W.Frag) (C CJ:Addr):Prop where
 mro:(PySem.W.clsIn K C).any (fun cd=>cd.hasDict&&cd.mro==.ref C::.ref CJ::wQ)=true
 sa:PySem.W.findIn K (.ref C) "__setattr__"=some (some (.builtin "object.__setattr__"))
 nat:PySem.W.findIn K (.ref C) "at"=some none
section
variable {prog:Program} {w:World} {A:Around} {E:Value->Shared->Prop} {s:Shared} {K:PySem.W.Frag} {C CJ ea:Addr} {oe:Obj} {vs:Array Value} {u:Value}
def aX1 {Q:Unit->Shared->Prop} (Z:ECls K C CJ) (X:K.In s.heap) (he:s.heap.get? ea=some oe) (hc:oe.cls=.ref C) (hd:oe.dict=none) (hv:oe.data=.fields vs)
  (h:∀ h',h'.get? ea=some { oe with dict:=some s.heap.objs.size }->h'.Ns1 s.heap.objs.size (fun y=>if y="at" then some u else none)->(∀ b o,b≠ea->s.heap.get? b=some o->h'.get? b=some o)->Q () { s with heap:=h',toks:=s.toks+2 }) :
  wpAny (model prog w) A (setAttr (.ref ea) "at" u) Q E s:=by
 have J:PySem.W.InstAt s.heap ea oe C none:=⟨he,hc,by unfold PySem.W.notCls;rw [hv],by rw [hd];trivial⟩;have SF:=PySem.F.store_object;obtain ⟨cd,hcd,hb⟩:=PySem.W.any_some Z.mro;obtain ⟨hdi,hm⟩:=Bool.and_eq_true_iff.mp hb;have hm:=eq_of_beq hm;refine PySem.W.set_plain X J Z.sa ?_;obtain ⟨hh,g,dr,t,os⟩:=s;dsimp only at X he h J ⊢;have sub:PySem.W.Looks (model prog w) hh (isInstance (.ref ea) (.type "object")) true:=J.type.andThen (PySem.W.looks_mroIn X (by unfold PySem.W.mroIn;rw [hcd,Option.bind_some,hm];rfl));have hmr:PySem.W.Looks (model prog w) hh (mroOf (.ref C)) (.ref C::.ref CJ::wQ):=hm ▸ (PySem.W.looks_clsIn X hcd).andThen .now;refine codeAny_call_builtin SF.slot.plain SF.entry (@PySem.W.check_slot (model prog w) _ _ ⟨hh,g,dr,t+1,os⟩ "object.__setattr__" "object" "__setattr__" (.ref ea) [.str "at" t,u] [] _ SF.kind SF.split sub (SF.args (.ref ea) (.str "at" t) u) ?_);rw [PySem.W.osa_eq,refuse_eq];refine wpAny_bind (wpAny_bind (J.type.here (wpAny_bind (hmr.here ?_))));rw [refuseLoop_ref,refuseLoop_ref,PySem.F.store_ValueError.passes];refine wpAny_pure (wpAny_bind (J.type.here (wpAny_bind ((PySem.W.looks_findIn X Z.nat).here (wpAny_bind (wpAny_pure ?_))))));dsimp only;obtain ⟨oc,od,odt,osl⟩:=oe;dsimp only at hc hd hv h;subst hc;subst hd;subst hv;refine wpAny_bind (wpAny_pure (wpAny_bind (wpAny_bind (wpAny_loadPart he (wpAny_bind ((PySem.W.looks_clsIn X hcd).here ?_))))));rw [hdi];have hx1:(hh.push { cls:=.type "dict",data:=.dict #[] }).get? ea=some ⟨.ref C,none,.fields vs,osl⟩:=Heap.get?_push_of_some _ he;have hxs:ea≠hh.objs.size:=Nat.ne_of_lt (Heap.lt_size he);refine wpAny_bind (wpAny_alloc ?_);refine wpAny_bind (wpAny_update hx1 ?_);refine wpAny_pure ?_;have hgd:((hh.push { cls:=.type "dict",data:=.dict #[] }).update ea fun o=>{ o with dict:=some hh.objs.size }).get? hh.objs.size=some { cls:=.type "dict",data:=.dict #[] } :=
  (Heap.get?_update_ne _ _ _ _ hxs.symm).trans (Heap.get?_push_at rfl rfl)
 have hnd:((hh.push { cls:=.type "dict",data:=.dict #[] }).update ea fun o=>{ o with dict:=some hh.objs.size }).Ns hh.objs.size (fun _=>none):=⟨_,#[],_,hgd,rfl,fun e he=>absurd he (by simp),fun _=>rfl⟩;refine wpAny_bind (wpAny_pure (wpAny_bind (wpAny_nsSet1 (Heap.Ns1.of_empty hnd) fun h' hn' hs=>?_)));obtain ⟨oD,esD,epD,hoD,hdD,hcD⟩:=hn'.count (Within.cons "at" u Within.nil);refine wpAny_bind (wpAny_lookBehind hoD (by rw [hdD];exact pastItsLine_dict (Nat.le_trans hcD (by rw [List.length_cons,List.length_nil,sizeLine_eq];omega))) ?_);refine wpAny_pure (h h' ?_ hn' fun b o hb q=>?_)
 ·exact (hs.2 ea hxs).trans (Heap.get?_update_self _ hx1 rfl)
 ·exact (hs.2 b (Nat.ne_of_lt (Heap.lt_size q))).trans ((Heap.get?_update_ne _ _ _ _ hb).trans (Heap.get?_push_of_some _ q))
end
section
variable {prog:Program} {w:World} {A:Around} {E:Value->Shared->Prop} {h:Heap} {g:Array GenState} {d:Drawn} {t:Nat} {os:OsState} {K:PySem.W.Frag} {C CJ x D:Addr} {ox:Obj} {v:Value} {vs:Array Value} {m:Str->Option Value}
def aM1 {tk:Tok} {Q:Fin->Shared->Prop} (Y:ECls K C CJ) (X:K.In h) (hx:h.get? x=some ox) (hc:ox.cls=.ref C) (hv:ox.data=.fields vs) (hd:ox.dict=some D) (hn:h.Ns1 D m) (hm:m "at"=some v) (hq:Q (.done (.ret v)) ⟨h,g,d,t,os⟩) :
  wpAny (model prog w) A (Builtin.«object.__getattribute__» ⟨[.ref x,.str "at" tk],[]⟩) Q E ⟨h,g,d,t,os⟩:=by
 obtain ⟨cd,hcd,hb⟩:=PySem.W.any_some Y.mro;obtain ⟨hdi,_⟩:=Bool.and_eq_true_iff.mp hb;have L6:PySem.W.Looks (model prog w) h (typeLookup (.ref C) "at") none:=PySem.W.looks_findIn X Y.nat;obtain ⟨od,ho,hl⟩:=zV hn;have J:PySem.W.InstAt h x ox C (some od):=⟨hx,hc,by unfold PySem.W.notCls;rw [hv],by rw [hd];exact ho⟩;have L7:PySem.W.Looks (model prog w) h (Builtin.ObjectAttr.inOwnDict "at" (.ref x)) (some v):=PySem.W.looks_own X J hcd (by unfold PySem.W.ownOf;rw [if_pos hdi];show PySem.W.lookIn "at" od=_;rw [hl,hm]);unfold Builtin.«object.__getattribute__» Builtin.ObjectAttr.find Builtin.ObjectAttr.ownThenClass
 repeat (any_goals (first | assumption | (with_reducible refine wpAny_loadPart_at hx ?_;rw [hc]) | with_reducible refine L6.at ?_ | with_reducible refine L7.at ?_ | wp_step))
def aX2 {b:Bool} {Q:Value->Shared->Prop} (FB:Slot "ValueError" "__getattribute__" "BaseException.__getattribute__") (Z:XCls K C) (Y:ECls K C CJ) (X:K.In h) (hx:h.get? x=some ox) (hc:ox.cls=.ref C) (hv:ox.data=.fields vs) (hd:ox.dict=some D) (hn:h.Ns1 D m) (hm:m "at"=some v) (hh:handedOut v=pure v) (hq:Q v ⟨h,g,d,t+1,os⟩) :
  wpAny (model prog w) A (getAttr (.ref x) "at" b) Q E ⟨h,g,d,t,os⟩:=by
 have L4:PySem.W.Looks (model prog w) h (typeLookup (.ref C) "__getattribute__") (some (.builtin "BaseException.__getattribute__")):=PySem.W.looks_findIn X Z.ga;have L5:PySem.W.Looks (model prog w) h (typeLookup (.ref C) "__getattr__") none:=PySem.W.looks_findIn X Z.gn;have f3:=FB.bind (.ref x);have y2:(Value.builtin "BaseException.__getattribute__"==Value.builtin "object.__getattribute__")=false:=by decide +kernel
 have y1:(onTheHeap (Value.ref C)&&Value.builtin "BaseException.__getattribute__"==Value.builtin "object.__getattribute__")=false:=by rw [y2];rfl
 have y0:(b&&onTheHeap (Value.builtin "BaseException.__getattribute__"))=false:=by cases b<;>rfl
 unfold getAttr
 repeat (any_goals (first | assumption | (with_reducible refine wpAny_loadPart_at hx ?_;rw [hc]) | with_reducible refine L4.at ?_ | with_reducible refine L5.at ?_ | wp_step))
 refine codeAny_call_builtin FB.plain F.entry_bexc_ga ?_;refine uA Z X hx hc (aM1 Y X hx hc hv hd hn hm ?_)
 repeat (any_goals (first | assumption | wp_step))
end
section
variable {prog:Program} {w:World} {A:Around} {E:Value->Shared->Prop} {s:Shared} {K:PySem.W.Frag} {C CJ ea:Addr} {oe:Obj} {vs:Array Value} {us:List Value}
def aM2 {Q:Value->Shared->Prop} (FB:ExcBaseFacts "ValueError" "ValueError.__new__" "ValueError.__init__" wQ) (Y:ECls K C CJ) (X:K.In s.heap) (he:s.heap.get? ea=some oe) (hc:oe.cls=.ref C) (hd:oe.data=.fields vs) {t0:Addr} (h0:vs[0]?=some (.ref t0)) (hz:us.length<=sizeLine)
  (h:Q .none { s with heap:=(s.heap.push { cls:=.type "tuple",data:=.seq us.toArray }).update ea (Obj.mapFields (·.setIfInBounds 0 (.ref s.heap.objs.size))) }) :
  wpAny (model prog w) A (call (.builtin "ValueError.__init__") (.ref ea::us)) Q E s:=by
 obtain ⟨cd,hcd,hb⟩:=PySem.W.any_some Y.mro;have hm:=eq_of_beq (Bool.and_eq_true_iff.mp hb).2;have L3:∀ {M:Model},PySem.W.Looks M s.heap (isSubtype (.ref C) (.type "ValueError")) true:=fun {M}=>PySem.W.looks_mroIn X (by unfold PySem.W.mroIn;rw [hcd,Option.bind_some,hm];rfl);refine wpAny_call (codeAny_call_builtin FB.init.plain FB.initEntry ?_);have hshort:=FB.noStar;obtain ⟨c0,d0,sl,hCo⟩:∃ c0 d0 sl,s.heap.get? C=some ⟨c0,d0,.cls cd,sl⟩:=by
  unfold PySem.W.clsIn at hcd;split at hcd
  ·rename_i c0 d0 c1 sl e;cases hcd;exact ⟨_,_,_,X _ _ e⟩
  ·cases hcd
 obtain ⟨hh,g,dr,t,os⟩:=s;dsimp only at X he h L3 hCo ⊢;simp only [checkBuiltinCall,FB.initKind,FB.initSplit,FB.initRow];unfold isInstance
 repeat (first | (with_reducible refine wpAny_loadPart_at he ?_;rw [hc]) | with_reducible refine L3.at ?_ | with_reducible refine wpAny_load hCo ?_ | with_reducible refine wpAny_loadPart_at hCo ?_ | wp_step)
 refine wpAny_onRaise ?_;rw [show ∀ (a b:String) (n:Nat),Bind.check ⟨.positional,"*","ValueError",.self,[⟨"args",.varPos,false⟩]⟩ a b n (List.map (fun x=>x.fst) ({ pos:=Value.ref ea::us }:Args).kw)=pure () from fun a b n=>check_star_args _ _ _ _ _ _];refine wpAny_pure ?_;unfold Builtin.«BaseException.__init__»;dsimp only;rw [if_neg (by simp)];unfold newTuple Builtin.BaseException.bexcPut;have hsz:0 < vs.size:=(Array.getElem?_eq_some_iff.mp h0).1;have he1:=Heap.get?_push_of_some (h:=hh) { cls:=.type "tuple",data:=.seq us.toArray } he;refine wpAny_bind (wpAny_newObj_type (wpAny_bind (wpAny_bind (wpAny_field he1 hd h0 (wpAny_bind (wpAny_setField he1 hd hsz ?_))))) (by show us.toArray.size<=sizeLine;rw [List.size_toArray];exact hz));exact wpAny_letGo (wpAny_pure h)
end
end L2

namespace DL
open PySem PySem.Spec PyProof.Rows L2 CI
section
variable {S:Sx} {κ:Kp} {M:Mp} {h:aA} {s s':Shared}
def Mem.keepF {fs:List Addr} (R:Mem S κ M h s) (hf:∀ a∈fs,∃ o,κ a=some (false,o)) (k:∀ b o,s.heap.get? b=some o->b∉fs->¬ aU κ M b->s'.heap.get? b=some o) (u:∀ a∈fs,∀ o,s.heap.get? a=some o->(∃ o',κ a=some (false,o'))->∃ sl,s'.heap.get? a=some { o with slots:=sl }) (hg:AllBare s'.gens) (ho:s'.os=s.os):Mem S κ M h s' where
 z:=fun b o e=>k b o (R.z b o e) (fun m=>by obtain ⟨o',q⟩:=hf b m;rw [(R.k b _ _ q).2.2] at e;cases e) fun f=>by rw [f.1] at e;cases e
 k:=fun b t o e=>by
  have nf:¬ aU κ M b:=fun f=>by rw [f.2.1] at e;cases e
  obtain ⟨h1,⟨sl,h2⟩,h3⟩:=R.k b t o e
  by_cases m:b∈fs
  ·obtain ⟨o',q⟩:=hf b m;rw [e] at q;cases q;obtain ⟨sl2,h4⟩:=u b m _ h2 ⟨_,e⟩;exact ⟨fun z=>(by cases z),⟨sl2,h4⟩,h3⟩
  ·exact ⟨fun z=>k b o (h1 z) m nf,⟨sl,k b _ h2 m nf⟩,h3⟩
 len:=R.len
 ap:=R.ap
 off:=fun p hp a ha=>by
  obtain ⟨h1,h2,o,h3⟩:=R.off p hp a ha;refine ⟨h1,h2,o,k a o h3 (fun m=>?_) fun f=>?_⟩
  ·obtain ⟨o',q⟩:=hf a m;rw [h2] at q;cases q
  ·rcases ha with z | z
   ·exact (f.2.2 p hp).1 z.symm
   ·exact (f.2.2 p hp).2 z.symm
 cel:=fun i p c e1 e2=>(R.cel i p c e1 e2).go .refl fun b o hb q=>by
  have hp:=List.mem_of_getElem? e1;refine k b o q (fun m=>?_) fun f=>?_
  ·obtain ⟨o',z⟩:=hf b m;rw [(R.off p hp b hb).2.1] at z;cases z
  ·rcases hb with e | e;exact (f.2.2 p hp).1 e.symm;exact (f.2.2 p hp).2 e.symm
 base:=R.base
 bare:=hg
 os:=ho.trans R.os
noncomputable def frs (l:List Env):List Addr:=l.filterMap fun e=>e.frame
def FrL (κ:Kp) (l:List Env):Prop:=∀ env∈l,env.scope.kind≠.module/\∃ L o,env.frame=some L/\κ L=some (false,o)/\∀ vs,o.data≠.fields vs
def FrL.at {l:List Env} (F:FrL κ l) {a:Addr} (ha:a∈frs l):∃ o,κ a=some (false,o)/\∀ vs,o.data≠.fields vs:=by
 obtain ⟨env,he,e⟩:=List.mem_filterMap.mp ha;obtain ⟨_,L,o,h1,h2,h3⟩:=F env he;rw [h1] at e;cases e;exact ⟨o,h2,h3⟩
theorem FrL.fun (R:Mem S κ M h s) {as:List Addr}:∀ {l:List Env},FrL κ l->(∀ a∈frs l,a∈as)->s.heap.FunFrames (PySem.W.hideAll s.heap as) l
 | [],_,_=>by unfold Heap.FunFrames;trivial
 | env::l,F,ha=>by
  unfold Heap.FunFrames;obtain ⟨h1,L,o,h2,h3,h4⟩:=F env List.mem_cons_self;obtain ⟨_,⟨sl,h5⟩,_⟩:=R.k _ _ _ h3;refine ⟨h1,⟨L,_,h2,PySem.W.hideAll_none as (ha L (List.mem_filterMap.mpr ⟨env,List.mem_cons_self,h2⟩)),h5,h4⟩,FrL.fun R (fun e he=>F e (List.mem_cons_of_mem _ he)) fun a hm=>ha a ?_⟩;obtain ⟨e,he,z⟩:=List.mem_filterMap.mp hm;exact List.mem_filterMap.mpr ⟨e,List.mem_cons_of_mem _ he,z⟩
theorem Mem.there (R:Mem S κ M h s) {b:Addr} (n:¬ aU κ M b):∃ u,s.heap.get? b=some u:=by
 cases q:s.heap.get? b with
 | some u=>exact ⟨u,rfl⟩
 | none=>exact (n (R.new q)).elim
def AtO (D:Addr) (oD:Obj) (j:Int):Prop:=∃ t,∀ h:Heap,h.get? D=some oD->h.Ns1 D fun y=>if y="at" then some (.int j t) else none
def Er1 (hm:Bool) (M:Mp) (C ea:Addr) (n:Option Int) (h:Heap):Prop:=∃ dd x,AtP (ErP (.ref C) dd x) ea h/\(hm=false->x=.none)/\∀ j,n=some j->∃ D oD,dd=some D/\M.Z D=some oD/\AtO D oD j
structure Fly (S:Sx) (κ:Kp) (M:Mp) (h:aA) (l:List Env) (C ea:Addr) (n:Option Int) (s:Shared):Prop where
 mem:Mem S κ M h s
 fl:∃ B t,Heap.FlyingW B l ea (.ref C) (.ref t) s.heap/\∀ b o,s.heap.get? b=some o->b∉frs l->¬ aU κ M b->B.get? b=some o
 er:Er1 S.hm M C ea n s.heap
variable {A:Around} {env:Env} {l:List Env} {L C e:Addr} {vs:Array Value} {κ0:Kp} {Ex:Value->Shared->Prop} {n:Option Int} {oe:Obj} {a0:Addr}
def jT (hf:env.frame=some L):frs (env::l)=L::frs l:=by
 unfold frs;rw [List.filterMap_cons,hf]
def aM3 (R:Mem S κ M h s) (F:FrL κ (env::l)) (hA:A.frames=some (env::l)) (hf:env.frame=some L) (lt:∀ a x,κ0 a=some x->κ a=some x) (h0:κ0 L=none) (fe:aU κ M e) (he:s.heap.get? e=some oe) (hc:oe.cls=.ref C) (hd:oe.data=.fields vs) (v0:vs[0]?=some (.ref a0)) (v1:vs[1]?=some .none) (er:Er1 S.hm M C e n s.heap) :
  wpAny (model S.P S.w) A (leaving env (.ref e)) (fun _ s'=>Fly S κ0 M h l C e n s') Ex s:=by
 obtain ⟨dd,x,x0,xh,xn⟩:=er;have nS:e∉frs (env::l):=fun m=>by obtain ⟨o,q,_⟩:=F.at m;rw [fe.2.1] at q;cases q
 have kB:∀ a o,s.heap.get? a=some o->a∉frs (env::l)->a≠e->(PySem.W.hideAll s.heap (e::frs (env::l))).get? a=some o:=fun a o q n z=>PySem.W.hideAll_get _ q (by simp [z,n]);have hide:(PySem.W.hideAll s.heap (e::frs (env::l))).get? e=none:=PySem.W.hideAll_none _ List.mem_cons_self;refine wpAny_mono (Kp.any ErP.freed (oG (.ref e) env) x0 (wpAny_leaving_firstW (base:=PySem.W.hideAll s.heap (e::frs (env::l))) (env:=env) (outer:=l) (a0:=.ref a0) (Q:=fun _ s''=>∃ h',s''={ s with heap:=h' }/\(PySem.W.hideAll s.heap (e::frs (env::l))).LeftW (env::l) e oe.cls (.ref a0) s.heap h') hA (FrL.fun R F fun a m=>List.mem_cons_of_mem _ m) hf he (fun a o q=>PySem.W.of_hideAll _ q) hide hd v1 v0 fun h' hL=>⟨h',rfl,hL⟩)) (fun _ s'' z=>?_) fun _ _ z=>z;obtain ⟨⟨h',rfl,l1,⟨_,_,l2⟩,l3,up⟩,x1⟩:=z;rw [hc] at l3;have R1:Mem S κ M h { s with heap:=h' }:=R.keepF (fs:=frs (env::l)) (fun a ha=>let ⟨o,h1,_⟩:=F.at ha;⟨o,h1⟩) (fun b o q n nf=>l1 b o (kB b o q n fun z=>nf (z ▸ fe))) (fun a ha o q _=>by
  obtain ⟨o',k1,k2⟩:=F.at ha;obtain ⟨_,⟨sl,k3⟩,_⟩:=R.k _ _ _ k1;rw [q] at k3;cases k3;exact up a _ q k2) R.bare rfl
 have R2:Mem S κ0 M h { s with heap:=h' }:=R1.less lt;refine ⟨R2,⟨_,a0,⟨l1,hide,l2,l3⟩,fun b o q nb nf=>?_⟩,dd,x,x1,xh,xn⟩;have fL:aU κ0 M L:=by
  obtain ⟨o,k1,_⟩:=F.at (a:=L) (by rw [jT hf];exact List.mem_cons_self);exact ⟨(R.k _ _ _ k1).2.2,h0,R.kc k1⟩
 have nb':b∉frs (env::l):=fun m=>by
  rw [jT hf] at m;rcases List.mem_cons.mp m with z | z
  ·rw [z] at nf;exact nf fL
  ·exact nb z
 have ne:b≠e:=fun z=>nf (by
  rw [z];refine ⟨fe.1,?_,fe.2.2⟩;cases q:κ0 e with
  | none=>rfl
  | some y=>have:=lt _ _ q;rw [fe.2.1] at this;cases this)
 obtain ⟨u,hu⟩:=(R.less lt).there nf;have z:=l1 b u (kB b u hu nb' ne);have q:h'.get? b=some o:=q;rw [q] at z;cases z;exact kB b _ hu nb' ne
def bM6 (X:Fly S κ M h (env::l) C e n s) (F:FrL κ (env::l)) (hA:A.frames=some (env::l)) (hf:env.frame=some L) (lt:∀ a x,κ0 a=some x->κ a=some x) (h0:κ0 L=none) :
  wpAny (model S.P S.w) A (leaving env (.ref e)) (fun _ s'=>Fly S κ0 M h l C e n s') Ex s:=by
 obtain ⟨R,⟨B,t,fl,pr⟩,dd,x,x0,xh,xn⟩:=X;refine wpAny_mono (Kp.any ErP.freed (oG (.ref e) env) x0 (wpAny_leaves_onW (env:=env) (outer:=l) (Q:=fun _ s''=>∃ h',s''={ s with heap:=h' }/\Heap.FlyingW B l e (.ref C) (.ref t) h'/\s.heap.UpToSlots h') hA hf fl fun h' fl' up=>⟨h',rfl,fl',up⟩)) (fun _ s'' z=>?_) fun _ _ z=>z;obtain ⟨⟨h',rfl,fl',up⟩,x1⟩:=z;have R1:Mem S κ M h { s with heap:=h' }:=R.keepF (fs:=frs (env::l)) (fun a ha=>let ⟨o,h1,_⟩:=F.at ha;⟨o,h1⟩) (fun b o q n nf=>fl'.1 b o (pr b o q n nf)) (fun a ha o q _=>by
  obtain ⟨o',k1,k2⟩:=F.at ha;obtain ⟨_,⟨sl,k3⟩,_⟩:=R.k _ _ _ k1;rw [q] at k3;cases k3;exact up a _ q k2) R.bare rfl
 have R2:Mem S κ0 M h { s with heap:=h' }:=R1.less lt;refine ⟨R2,⟨B,t,fl',fun b o q nb nf=>?_⟩,dd,x,x1,xh,xn⟩;have fL:aU κ0 M L:=by
  obtain ⟨o,k1,_⟩:=F.at (a:=L) (by rw [jT hf];exact List.mem_cons_self);exact ⟨(R.k _ _ _ k1).2.2,h0,R.kc k1⟩
 have nb':b∉frs (env::l):=fun m=>by
  rw [jT hf] at m;rcases List.mem_cons.mp m with z | z
  ·rw [z] at nf;exact nf fL
  ·exact nb z
 have nf':¬ aU κ M b:=fun f=>by
  refine nf ⟨f.1,?_,f.2.2⟩;cases q:κ0 b with
  | none=>rfl
  | some x =>
   have z:=f.2.1;rw [lt b x q] at z;cases z
 obtain ⟨u,hu⟩:=R.there nf';have z:=fl'.1 b u (pr b u hu nb' nf');have q:h'.get? b=some o:=q;rw [q] at z;cases z;exact pr b _ hu nb' nf'
end
end DL

namespace DL
open PySem PySem.Spec PyProof.Rows L2 CI
structure FnR (S:Sx) (d:Nat) (f:Addr) (fd:FuncData) (ps:List Str) (C:Addr) (n:Option Int) (pre:List W->aA->Prop):Prop where
 len:∀ ws h,pre ws h->ws.length=ps.length
 run:∀ {A:Around} {κ:Kp} {M:Mp} {h:aA} {s:Shared} {args:Args} {us:List Value} {ws:List W} {l:List Env},Room S d A->Hk A M->A.frames=some l->FrL κ l->Mod S->S.base.objs.size<=s.heap.objs.size->Mem S κ M h s->BindsTo s fd args (ps.zip us)->RepWs S M ws us->pre ws h ->
  codeAny (model S.P S.w) A (.call (.ref f) args) (fun r s'=>∃ ea M',r=.error (.ref ea)/\Le M M'/\Fly S κ M' h l C ea n s') s
def Rz (X:Cx) (κ:Kp) (M:Mp) (h:aA) (C:Addr) (n:Option Int) (ex:Value) (s:Shared):Prop:=∃ κ' M' l ea,ex=.ref ea/\Own X κ κ'/\Le M M'/\X.A.frames=some (X.env::l)/\FrL κ' (X.env::l) /\
 ((Mem X.S κ' M' h s/\aU κ' M' ea/\(∃ oe vs t,s.heap.get? ea=some oe/\oe.cls=.ref C/\oe.data=.fields vs/\vs[0]?=some (.ref t)/\vs[1]?=some .none)/\Er1 X.S.hm M' C ea n s.heap)\/Fly X.S κ' M' h (X.env::l) C ea n s)
section
variable {S:Sx} {t:Top} {n q:Str} {nA:Option Int} {st:Stmt} {f C:Addr} {fd:FuncData} {k:Nat} {pre:List W->aA->Prop}
def oH (F:Fun S.K n q st f fd) (hb:fnB st=true) (len:∀ ws h,pre ws h->ws.length=(parsOf st).length)
  (he:∀ {A:Around} {κ:Kp} {M:Mp} {h:aA} {s:Shared} {L:Addr} {cd:Value} {ws:List W} {E:Value->Shared->Prop},Room S (k+1) A->pre ws h->Mem S κ M h s->Fra (cxF S st q L f cd A) κ M (cN (aY st) ws)->PassesOwn (model S.P S.w) (cxF S st q L f cd A).A (cxF S st q L f cd A).env E->(∀ ex s',Rz (cxF S st q L f cd A) κ M h C nA ex s'->E ex s') ->
   Wp S (cxF S st q L f cd A).A (execs (aV st) (cxF S st q L f cd A).env) (fun _ _=>False) E s) :
  FnR S (k+1) f fd (parsOf st) C nA pre:=by
 refine ⟨len,fun {A κ M h s args us ws l} hr hk hA FL md hz R hbd r e=>?_⟩;obtain ⟨oc,od,kV,doc,pm,an,cdv,ct,osl,rfl,lk,hcd⟩:=F.ex;have FS:=aK1 hb;have KX:S.K.In s.heap:=md.kin.keeps R.bk;have lim:s.heap.NoLimit:=md.nolimit.keeps R.bk;have hkind:∀ y∈(parsOf st).zip us,(defScope st).names.lookup y.1=some .local\/((defScope st).names.lookup y.1=some .cell/\((cellsFrom (s.heap.objs.size+1) (defScope st).names []).lookup y.1).isSome=true):=fun ⟨n,v⟩ hy=>by
  rcases FS.par n (zip_fst hy) with q | q
  ·exact .inl q
  ·exact .inr ⟨q,PySem.W.cellsFrom_some _ _ _ (.inl q)⟩
 have hdep:A.depth < recursionLimit:=by have:=hr.dp;omega
 refine codeAny_call_function hdep (KX _ _ lk) rfl FS.co FS.gen rfl (PySem.W.codeRec_of KX hcd) (hbd _ _ _ _ ?_);refine wpAny_newFunctionEnv_cells FS.kind hkind fun env he' s1 ic=>?_;subst he';refine ⟨lim.keeps ic.toInCall.keep,codeAny_func ?_⟩;obtain ⟨κ1,R1,F1,back⟩:=pO (A:=A) FS md hz (len _ _ e) hk ⟨l,hA,FL⟩ R r ic;refine wpAny_mono (he hr e R1 F1 PassesOwn.leaving fun ex s2 ⟨κ',M',l',ea,hex,own,l2,hA',FL',h2⟩=>?_) (fun _ _ z=>z.elim) fun _ _ z=>z;subst hex;have hl:l'=l:=by
  have z:(A.deeper (envOfC q (defScope st) s.heap.objs.size f cdv)).frames=some (envOfC q (defScope st) s.heap.objs.size f cdv::l):=by simp [Around.deeper,hA]
  have z':(A.deeper (envOfC q (defScope st) s.heap.objs.size f cdv)).frames=some (envOfC q (defScope st) s.heap.objs.size f cdv::l'):=hA';rw [z] at z';cases z';rfl
 subst hl;rcases h2 with ⟨R0,fe,⟨oe,vs,t,he,hc,hd,v0,v1⟩,er⟩ | X
 ·exact wpAny_mono (aM3 (Ex:=NE) (L:=s.heap.objs.size) R0 FL' hA' rfl (back κ' own) R.size.2.1 fe he hc hd v0 v1 er) (fun _ s3 z=>⟨ea,M',rfl,l2,z⟩) fun _ _ z=>z.elim
 ·exact wpAny_mono (bM6 (Ex:=NE) (L:=s.heap.objs.size) X FL' hA' rfl (back κ' own) R.size.2.1) (fun _ s3 z=>⟨ea,M',rfl,l2,z⟩) fun _ _ z=>z.elim
end
end DL

namespace DL
open PySem PySem.Spec PyProof.Rows L2 CI
section
variable {X:Cx} {κ:Kp} {M:Mp} {h h':aA} {s:Shared} {δ:DSt} {x:Str} {np pos epos:Pos} {e:Expr} {es:List Expr} {fa:XR (List W)} {ws:List W} {C:Addr} {B newId initId:String} {bmB:List Value} {Q:Flow->Shared->Prop} {nA:Option Int}
def Fra.frl {l:List Env} (F:Fra X κ M δ) (hA:X.A.frames=some l):FrL κ l:=by
 obtain ⟨l',z1,z2⟩:=F.frs;rw [hA] at z1;cases z1;exact z2
def Rt (X:Cx) (κ:Kp) (M:Mp) (h:aA) (C:Addr) (n:Option Int) (ex:Value) (s:Shared):Prop:=∃ M' l ea,ex=.ref ea/\Le M M'/\X.A.frames=some (X.env::l)/\Fly X.S κ M' h (X.env::l) C ea n s
def Rt.rz {ex:Value} {s':Shared} (F:Fra X κ M δ) (z:Rt X κ M h C nA ex s'):Rz X κ M h C nA ex s' :=
 let ⟨M',l,ea,h1,h2,h3,h4⟩:=z;⟨κ,M',l,ea,h1,.refl,h2,h3,F.frl h3,.inr h4⟩
theorem Rt.go {M1:Mp} {ex:Value} (l:Le M M1) (z:Rt X κ M1 h C nA ex s):Rt X κ M h C nA ex s :=
 let ⟨M',l',ea,h1,h2,h3⟩:=z;⟨M',l',ea,h1,l.trans h2,h3⟩
def jU {l:List Env} {d:Nat} {f:Addr} {fd:FuncData} {ps:List Str} {pre:List W->aA->Prop} {p:Pos} {Qv:Value->Shared->Prop} (FF:FnR X.S d f fd ps C nA pre) (rm:Room X.S d X.A) (mg:X.S.mg x=some (.ref f)) (kp:PySem.W.keepIn X.S.K (.ref f)=true) (hb:dM X.S.K fd ps)
  (ha:SA X (e::es) fa) (hn:aW x=true) (hg:Gl X x) (hA:X.A.frames=some (X.env::l)) (hst:(e::es).all aK=true) (R:Mem X.S κ M h s) (F:Fra X κ M δ) (e1:fa δ h=some (ws,h')) (hp:pre ws h') :
  Wp X.S X.A (eval (.Call (.Name x p) (e::es) [] pos) X.env) Qv (Rt X κ M h' C nA) s:=by
 rw [List.all_cons,Bool.and_eq_true] at hst;refine wpAny_Call_Name_kw (fF F R hg mg hn ?_);refine PySem.W.callWith_K (h₀:=X.S.base) F.kin kp (wpAny_mono (ha pos R F e1) (fun us s1 ⟨M1,l1,R1,r1⟩=>⟨F.kin.keeps R1.bk,?_⟩) fun _ _ z=>z.elim) (bE e hst.1) (cK pos es hst.2);have hl:us.length=ps.length:=by rw [<- r1.length];exact FF.len _ _ hp
 refine wpAny_call (codeAny_mono (FF.run (args:=⟨us,[]⟩) rm (F.hk.go l1) hA (F.frl hA) F.ok.mod ((F.go l1).size R1) R1 (hb s1 us (F.ok.mod.kin.keeps R1.bk) hl) r1 hp) fun r s' ⟨ea,M',hq,l2,fl⟩=>?_);subst hq;exact ⟨M',l,ea,rfl,l1.trans l2,hA,fl⟩
theorem Rz.go {M1:Mp} {ex:Value} (l:Le M M1) (z:Rz X κ M1 h C nA ex s):Rz X κ M h C nA ex s :=
 let ⟨κ',M',l',ea,h1,h2,h3,h4⟩:=z;⟨κ',M',l',ea,h1,h2,l.trans h3,h4⟩
variable {E:Value->Shared->Prop} {a c:Expr} {body els:List Stmt} {t:Stmt} {r:List Stmt} {v:Evs} {st:Sta} {d:Nat}
theorem lR (F:Fra X κ M δ) (hs:swapsWith a none pos.line X.env=pure false) (ra:Wp X.S X.A (eval a X.env) (fun _ _=>False) E s):Wp X.S X.A (exec (.Expr a pos) X.env) Q E s :=
 wpAny_Expr_any (wpAny_mono ra (fun _ _ z=>z.elim) fun _ _ z=>z) (quiet F) hs
theorem bB (rt:Wp X.S X.A (exec t X.env) (fun _ _=>False) E s):Wp X.S X.A (execs (t::r) X.env) Q E s :=
 wpAny_execs_cons (wpAny_mono rt (fun _ _ z=>z.elim) fun _ _ z=>z)
def aM4 {h1:aA} {b:Bool} (S:Snd v) (G:Good X st d) (R:Mem X.S κ M h s) (F:Fra X κ M δ) (e1:v.T st c δ h=some (b,h1))
  (rb:∀ {M1:Mp} {s1:Shared},Mem X.S κ M1 h1 s1->Fra X κ M1 δ->Wp X.S X.A (execs (if b=true then body else els) X.env) (fun _ _=>False) (Rz X κ M1 h' C nA) s1):Wp X.S X.A (exec (.If c body els pos) X.env) Q (Rz X κ M h' C nA) s:=by
 refine wpAny_If (wpAny_mono (S.T G c R F e1) (fun t' s1 ⟨et,M1,l1,R1⟩=>?_) fun _ _ z=>z.elim);subst et;have z:=wpAny_mono (rb R1 (F.go l1)) (fun _ _ z=>z.elim) (fun _ _ z=>Rz.go l1 z) (Q':=Q);cases t' with
 | true=>exact z
 | false=>exact z
def uE {h1:aA} {b:Bool} (S:Snd v) (G:Good X st d) (R:Mem X.S κ M h s) (F:Fra X κ M δ) (e1:v.T st c δ h=some (b,h1))
  (rb:∀ {M1:Mp} {s1:Shared},Mem X.S κ M1 h1 s1->Fra X κ M1 δ->Wp X.S X.A (execs (if b=true then body else els) X.env) (fun _ _=>False) (Rt X κ M1 h' C nA) s1):Wp X.S X.A (exec (.If c body els pos) X.env) Q (Rt X κ M h' C nA) s:=by
 refine wpAny_If (wpAny_mono (S.T G c R F e1) (fun t' s1 ⟨et,M1,l1,R1⟩=>?_) fun _ _ z=>z.elim);subst et;have z:=wpAny_mono (rb R1 (F.go l1)) (fun _ _ z=>z.elim) (fun _ _ z=>Rt.go l1 z) (Q':=Q);cases t' with
 | true=>exact z
 | false=>exact z
end
end DL

namespace DL
open PySem PySem.Spec PyProof.Rows L2 CI
section
variable {X:Cx} {κ:Kp} {M:Mp} {h h':aA} {s:Shared} {δ:DSt} {x:Str} {A:Around} {u:Value} {E:Value->Shared->Prop} {pos:Pos}
def Lk (X:Cx) (κ:Kp) (x:Str) (u:Value):Prop:=∃ o m,κ X.env.locals=some (false,o)/\jA o m/\m x=some u
def oJ {Q:Value->Shared->Prop} (F:Fra X κ M δ) (R:Mem X.S κ M h s) (U:Lk X κ x u) (hk:X.env.scope.names.lookup x=some .local) (hn:aW x=true) (q:Q u s):Wp X.S A (eval (.Name x pos) X.env) Q E s:=by
 unfold aW at hn;simp only [Bool.and_eq_true,Bool.not_eq_true'] at hn;obtain ⟨o,m,h1,⟨es,ep,h2,h3,h4⟩,h5⟩:=U;obtain ⟨_,⟨sl,e⟩,_⟩:=R.k _ _ _ h1;exact wpAny_Name (wpAny_loadName_local F.ok.kind hk ⟨_,es,ep,e,h2,h3,h4⟩ h5 q) hn.1
structure InitB (st:Stmt) (J:Str):Prop where
 fn:fnB st=true
 ps:parsOf st=[("self":Str),"at"]
 l1:(defScope st).names.lookup ("self":Str)=some .local
 l2:(defScope st).names.lookup ("at":Str)=some .local
 lJ:(defScope st).names.lookup J=some .globalImplicit
 nJ:aW J=true
 bd:∃ tx kd p1 p2 p3 p4 p5 p6 p7 p8 p9 pa ap cp ep,aV st=[.Expr (.Call (.Attribute (.Name J p1) "__init__" ap) [.Name "self" p2,.JoinedStr [.Constant (.str tx) kd p3,.FormattedValue (.Name "at" p4) (-1) none p5] p6] [] cp) ep,.Assign [.Attribute (.Name "self" p7) "at" p8] (.Name "at" p9) pa]/\tx.length<=100/\∀ env,∃ pl,eval (.Call (.Attribute (.Name J p1) "__init__" ap) [.Name "self" p2,.JoinedStr [.Constant (.str tx) kd p3,.FormattedValue (.Name "at" p4) (-1) none p5] p6] [] cp) env=(do
   let ov <- eval (.Name J p1) env
   standAt ap.atName
   let (f,first) <- holding [ov] (getMethod ov "__init__" pl)
   callWith cp f first (backTo cp (starEach [.Name "self" p2,.JoinedStr [.Constant (.str tx) kd p3,.FormattedValue (.Name "at" p4) (-1) none p5] p6] env)) (backToKw cp (keywordEach [] env)))
structure InitC (S:Sx) (C CJ:Addr) (J:Str):Prop where
 FB:ExcBaseFacts "ValueError" "ValueError.__new__" "ValueError.__init__" wQ
 Y:ECls S.K C CJ
 mJ:S.mg J=some (.ref CJ)
 ga:PySem.W.specialIn S.K (.ref CJ) "__getattribute__"=some (some (.builtin "type.__getattribute__"))
 rd:PySem.W.readsIn S.K CJ (.type "type")=true
 fc:PySem.W.findCls S.K (.ref CJ) (.type "type") "__init__"=some (.val (.builtin "ValueError.__init__"))
def aX3 {i:Int} (hi:-1<=i/\i<=100):(Str.ofString (toString i)).length<=10:=by
 have:∀ k:Nat,k<=101->(Str.ofString (toString ((k:Int) - 1))).length<=10:=by decide +kernel
 have:=this (i+1).toNat (by omega)
 rwa [show (((i+1).toNat:Nat):Int) - 1=i by omega] at this
def aM5 {C CJ ea tt:Addr} {J:Str} {i:Int} {ti:Tok} {p7 p8 p9 pa:Pos} (Z:InitC X.S C CJ J) (F:Fra X κ M δ) (R:Mem X.S κ M h s) (ls:Lk X κ "self" (.ref ea)) (la:Lk X κ "at" (.int i ti))
  (k1:X.env.scope.names.lookup ("self":Str)=some .local) (k2:X.env.scope.names.lookup ("at":Str)=some .local) (fe:aU κ M ea) (he:s.heap.get? ea=some ⟨.ref C,none,.fields #[.ref tt,.none,.none,.none,.bool false,.none],#[]⟩) :
  Wp X.S X.A (execs [.Assign [.Attribute (.Name "self" p7) "at" p8] (.Name "at" p9) pa] X.env)
   (fun fl s'=>fl=.next/\∃ D oD tt,aU κ M D/\Mem X.S κ (M.add D oD) h s'/\aU κ (M.add D oD) ea/\s'.heap.get? ea=some ⟨.ref C,some D,.fields #[.ref tt,.none,.none,.none,.bool false,.none],#[]⟩/\AtO D oD i) NE s:=by
 refine wpAny_execs_cons (plainObj_wpAny_Assign_Attribute (oJ F R la k2 (by decide +kernel) (oJ F R ls k1 (by decide +kernel) ?_)) (by rfl));refine aX1 Z.Y (F.kin.keeps R.bk) he rfl rfl rfl fun h' e1 n1 kk=>?_;obtain ⟨oD,es,ep,eD,q⟩:=n1;have R3:Mem X.S κ M h { s with heap:=h',toks:=s.toks+2 }:=R.keep (fun b o e nf=>kk b o (fun z=>nf (z ▸ fe)) e) R.bare rfl;have ne:ea≠s.heap.objs.size:=Nat.ne_of_lt (Heap.lt_size he);exact wpAny_execs_nil ⟨rfl,s.heap.objs.size,oD,tt,R.size,R3.frz R.size eD,⟨by show (if ea=s.heap.objs.size then some oD else M.Z ea)=none;rw [if_neg ne];exact fe.1,fe.2⟩,e1,ti,fun h hd=>⟨oD,es,ep,hd,q⟩⟩
def aC5 {C CJ ea t0:Addr} {J tx:Str} {i:Int} {ti:Tok} {kd} {p1 p2 p3 p4 p5 p6 p7 p8 p9 pa ap cp ep:Pos} (Z:InitC X.S C CJ J) (hi:-1<=i/\i<=100) (hev:∀ env,∃ pl,eval (.Call (.Attribute (.Name J p1) "__init__" ap) [.Name "self" p2,.JoinedStr [.Constant (.str tx) kd p3,.FormattedValue (.Name "at" p4) (-1) none p5] p6] [] cp) env=(do
   let ov <- eval (.Name J p1) env
   standAt ap.atName
   let (f,first) <- holding [ov] (getMethod ov "__init__" pl)
   callWith cp f first (backTo cp (starEach [.Name "self" p2,.JoinedStr [.Constant (.str tx) kd p3,.FormattedValue (.Name "at" p4) (-1) none p5] p6] env)) (backToKw cp (keywordEach [] env)))) (ht:tx.length<=100) (F:Fra X κ M δ) (R:Mem X.S κ M h s) (ls:Lk X κ "self" (.ref ea)) (la:Lk X κ "at" (.int i ti))
  (k1:X.env.scope.names.lookup ("self":Str)=some .local) (k2:X.env.scope.names.lookup ("at":Str)=some .local) (gJ:Gl X J) (nJ:aW J=true) (fe:aU κ M ea) (he:s.heap.get? ea=some ⟨.ref C,none,.fields #[.ref t0,.none,.none,.none,.bool false,.none],#[]⟩) :
  Wp X.S X.A (execs [.Expr (.Call (.Attribute (.Name J p1) "__init__" ap) [.Name "self" p2,.JoinedStr [.Constant (.str tx) kd p3,.FormattedValue (.Name "at" p4) (-1) none p5] p6] [] cp) ep,.Assign [.Attribute (.Name "self" p7) "at" p8] (.Name "at" p9) pa] X.env)
   (fun fl s'=>fl=.next/\∃ D oD tt,aU κ M D/\Mem X.S κ (M.add D oD) h s'/\aU κ (M.add D oD) ea/\s'.heap.get? ea=some ⟨.ref C,some D,.fields #[.ref tt,.none,.none,.none,.bool false,.none],#[]⟩/\AtO D oD i) NE s:=by
 have n1:aW "self"=true:=by decide +kernel
 have n2:aW "at"=true:=by decide +kernel
 refine wpAny_execs_cons (wpAny_Expr_any ?_ (quiet F) (by rfl));obtain ⟨pl,hev⟩:=hev X.env;refine PySem.W.methodCall_KW (pl:=pl) (fF F R gJ Z.mJ nJ ?_) hev;refine PySem.W.method_cls (F.kin.keeps R.bk) Z.ga (PySem.W.cls_value (F.kin.keeps R.bk) Z.rd Z.fc rfl ?_);refine PyProof.Rows.callWith_builtin1 ?_ (by rfl) (by rfl);rw [bE (.Name "self" p2) rfl];show Wp _ _ (spliced ((false,eval (.Name "self" p2) X.env)::backTo cp (starEach [_] X.env))) _ _ _;refine Calls.spliced_cons (oJ F (R.tok _) ls k1 n1 (jH (by rfl) ?_));refine wpAny_JoinedStr ?_;refine thn (Q:=fun v s1=>∃ t k,v=.str tx t/\s1={ s with toks:=k }) (wpAny_Constant_str ⟨_,_,rfl,rfl⟩) fun v s1 ⟨t1,tk,ev,es⟩=>?_;subst ev es;have z1:(Str.empty++tx).length<=100:=by rw [Str.empty_append];exact ht
 have z2:(Str.empty++tx++Str.ofString (toString i)).length<=sizeLine:=by rw [Str.length_append,sizeLine_eq];have:=aX3 hi;omega
 refine ⟨tx,t1,rfl,by rw [sizeLine_eq];omega,?_⟩;refine wpAny_FormattedValue_plain (oJ F (R.tok _) la k2 n2 ?_);refine wpAny_formatField_int (Nat.lt_of_le_of_lt (Nat.log2_le_self _) (by omega)) ⟨_,_,rfl,z2,z2,?_⟩;refine aM2 (oe:=⟨.ref C,none,.fields #[.ref t0,.none,.none,.none,.bool false,.none],#[]⟩) Z.FB Z.Y (F.kin.keeps R.bk) he rfl rfl rfl (show (1:Nat)<=sizeLine by decide) ?_;have gp:=Heap.get?_push_of_some (h:=s.heap) { cls:=.type "tuple",data:=.seq #[Value.str (Str.empty++tx++Str.ofString (toString i)) (tk+1+1)] } he;refine aM5 Z F (R.keep (s':={ s with heap:=(s.heap.push { cls:=.type "tuple",data:=.seq #[Value.str (Str.empty++tx++Str.ofString (toString i)) (tk+1+1)] }).update ea (Obj.mapFields (·.setIfInBounds 0 (.ref s.heap.objs.size))),toks:=tk+1+1+1 }) (fun b o e nf=>(Heap.get?_update_other _ _ (fun z=>nf (by subst z;exact fe))).trans (Heap.get?_push_of_some _ e)) R.bare rfl) ls la k1 k2 fe (tt:=s.heap.objs.size) ?_;exact Heap.get?_update_self _ gp (Obj.isFreed_of_fields (Obj.data_mapFields rfl _))
def aM6 {S:Sx} {n q:Str} {st:Stmt} {f C CJ ea t0:Addr} {fd:FuncData} {J:Str} {i:Int} {ti:Tok} {k:Nat} (F:Fun S.K n q st f fd) (B:InitB st J) (Z:InitC S C CJ J) (hi:-1<=i/\i<=100) (hr:Room S (k+1) A) (hk:Hk A M) (fo:FrO κ A) (md:Mod S) (hz:S.base.objs.size<=s.heap.objs.size)
  (R:Mem S κ M h s) (hbd:BindsTo s fd ⟨[.ref ea,.int i ti],[]⟩ [("self",.ref ea),("at",.int i ti)]) (fe:aU κ M ea) (he:s.heap.get? ea=some ⟨.ref C,none,.fields #[.ref t0,.none,.none,.none,.bool false,.none],#[]⟩) :
  codeAny (model S.P S.w) A (.call (.ref f) ⟨[.ref ea,.int i ti],[]⟩) (fun r s'=>r=.ok (.ret .none)/\∃ D oD tt,aU κ M D/\Mem S κ (M.add D oD) h s'/\aU κ (M.add D oD) ea/\s'.heap.get? ea=some ⟨.ref C,some D,.fields #[.ref tt,.none,.none,.none,.bool false,.none],#[]⟩/\AtO D oD i) s:=by
 obtain ⟨oc,od,kV,doc,pm,an,cdv,ct,osl,rfl,lk,hcd⟩:=F.ex;have FS:=aK1 B.fn;have KX:S.K.In s.heap:=md.kin.keeps R.bk;have lim:s.heap.NoLimit:=md.nolimit.keeps R.bk;have ez:(parsOf st).zip [Value.ref ea,.int i ti]=[(("self":Str),Value.ref ea),("at",.int i ti)]:=by rw [B.ps];rfl
 have hkind:∀ y∈(parsOf st).zip [Value.ref ea,.int i ti],(defScope st).names.lookup y.1=some .local\/((defScope st).names.lookup y.1=some .cell/\((cellsFrom (s.heap.objs.size+1) (defScope st).names []).lookup y.1).isSome=true):=fun ⟨n,v⟩ hy=>by
  rcases FS.par n (zip_fst hy) with q | q
  ·exact .inl q
  ·exact .inr ⟨q,PySem.W.cellsFrom_some _ _ _ (.inl q)⟩
 have hdep:A.depth < recursionLimit:=by have:=hr.dp;omega
 refine codeAny_call_function hdep (KX _ _ lk) rfl FS.co FS.gen rfl (PySem.W.codeRec_of KX hcd) (hbd _ _ _ _ ?_);rw [<- ez];refine wpAny_newFunctionEnv_cells FS.kind hkind fun env he' s1 ic=>?_;subst he';refine ⟨lim.keeps ic.toInCall.keep,codeAny_func ?_⟩;have he1:s1.heap.get? ea=_:=ic.toInCall.keep _ _ he;obtain ⟨κ1,R1,F1,back,same,o,m,lo,lm,ll⟩:=nG (A:=A) (ws:=[none,some (.d (.int i))]) FS md hz (by rw [B.ps];rfl) hk fo R (fun j w e=>by
  rcases j with _ | _ | j
  ·cases e
  ·cases e;exact ⟨_,rfl,wi.mpr ⟨_,rfl⟩⟩
  ·simp at e) ic
 have fe1:aU κ1 M ea:=⟨fe.1,by rw [same _ (Heap.lt_size he)];exact fe.2.1,fe.2.2⟩;obtain ⟨tx,kd,p1,p2,p3,p4,p5,p6,p7,p8,p9,pa,ap,cp,ep,hbody,htx,hev⟩:=B.bd;have main:=aC5 (X:=cxF S st q s.heap.objs.size f cdv A) (p7:=p7) (p8:=p8) (p9:=p9) (pa:=pa) (ep:=ep) Z hi hev htx F1 R1 ⟨o,m,lo,lm,ll 0 _ _ (by rw [B.ps];rfl) rfl B.l1⟩ ⟨o,m,lo,lm,ll 1 _ _ (by rw [B.ps];rfl) rfl B.l2⟩ B.l1 B.l2 B.lJ B.nJ fe1 he1;rw [<- hbody] at main;refine wpAny_mono main (fun fl s2 ⟨hfl,D,oD,tt,fD,R2,fe2,g,at2⟩=>?_) fun _ _ z=>z.elim;subst hfl;have lt:=back κ1 .refl;have fr:∀ {M':Mp} {a:Addr},aU κ1 M' a->aU κ M' a:=fun {M' a} fa=>by
  refine ⟨fa.1,?_,fa.2.2⟩;cases q:κ a with
  | none=>rfl
  | some y=>have:=lt _ _ q;rw [fa.2.1] at this;cases this
 exact ⟨rfl,D,oD,tt,fr fD,R2.less lt,fr fe2,g,at2⟩
end
end DL

namespace DL
open PySem PySem.Spec PyProof.Rows L2 CI
structure OwnI (x:Str) (C fI:Addr) (mg:Str->Option Value) (h:Heap):Prop where
 bound:mg x=some (.ref C)
 obj:∃ bm N nm q bs hdct sn sub ab col dd k0 k1 k2 k3 k5 mN oI,h.get? C=some (excClassObj nm q C N bs bm hdct sn sub ab col dd k0 k1 k2 k3 k5 "ValueError.__new__")/\h.Ns N mN/\mN "__init__"=some (.ref fI)/\h.get? fI=some oI/\oI.cls=.type "function"/\OwnTail h wQ bm
section
variable {prog:Program} {w:World} {A:Around} {E:Value->Shared->Prop} {env:Env}
variable {nm q:Str} {C N:Addr} {bs bm:List Value} {hdct:Bool} {sn:List Str} {sub:List Value} {ab:Bool} {col:Option Bool} {dd:Option Addr} {k0 k1 k2 k3 k5:Option Value} {newId:String}
def qA {s:Shared} {x:Sem Value} {Q:Flow->Shared->Prop} (hbase:bm.contains (.type "BaseException")=true)
  (h:wpAny (model prog w) A x (fun v s₁=>∃ e t D,v=.ref e/\HkA A s₁.heap/\(∀ b,A.handled=some (.ref b)->b≠e)/\s₁.heap.get? C=some (excClassObj nm q C N bs bm hdct sn sub ab col dd k0 k1 k2 k3 k5 newId) /\
   s₁.heap.get? e=some ⟨.ref C,some D,.fields #[.ref t,.none,.none,.none,.bool false,.none],#[]⟩ /\
   ∀ h' x,(∀ b u,b≠e->s₁.heap.get? b=some u->h'.get? b=some u)->(A.handled=none->x=.none)->h'.get? e=some ⟨.ref C,some D,.fields #[.ref t,.none,x,.none,.bool false,.none],#[]⟩->E (.ref e) { s₁ with heap:=h' }) E s):wpAny (model prog w) A (raiseStmt env (some x) none) Q E s:=by
 have hcB:(Value.ref C::bm).contains (.type "BaseException")=true:=by rw [List.contains_cons,hbase,Bool.or_true]
 unfold raiseStmt;refine wpAny_bind (wpAny_mono h (fun v s₁ h₁=>?_) fun _ _ x=>x);obtain ⟨e,t,D,rfl,H,nb,hC,he,hE⟩:=h₁;obtain ⟨hp,g,d,tk,os⟩:=s₁
 repeat (first | with_reducible refine wpAny_loadPart_at he ?_ | with_reducible refine wpAny_loadPart_at hC ?_ | (with_reducible refine wpAny_isSubtype_exc hC ?_;rw [hcB]) | wp_step)
 refine rX H (fun b o hb e1=>⟨nb b hb,e1⟩) he rfl (by simp) fun h' kk vs' hv ob eo ho=>?_;subst eo;rcases hv with rfl | ⟨b,hb,rfl⟩
 ·exact hE h' .none kk (fun _=>rfl) ho
 ·exact hE h' (.ref b) kk (fun z=>by rw [hb] at z;cases z) ho
end
section
variable {X:Cx} {κ:Kp} {M:Mp} {h h':aA} {s:Shared} {δ:DSt} {x J n q:Str} {np pos epos:Pos} {e:Expr} {fa:XR (List W)} {C CJ fI:Addr} {fd:FuncData} {st:Stmt} {i:Int} {k:Nat} {Q:Flow->Shared->Prop}
def qC {l:List Env} (O:OwnI x C fI X.S.mg X.S.base) (Z:InitC X.S C CJ J) (F0:Fun X.S.K n q st fI fd) (B:InitB st J) (hb:dM X.S.K fd ["self","at"]) (rm:Room X.S (k+2) X.A) (ha:SA X [e] fa) (hn:aW x=true) (hg:Gl X x) (hA:X.A.frames=some (X.env::l)) (hst:aK e=true)
  (R:Mem X.S κ M h s) (F:Fra X κ M δ) (e1:fa δ h=some ([.d (.int i)],h')) (hi:-1<=i/\i<=100):Wp X.S X.A (exec (.Raise (some (.Call (.Name x np) [e] [] pos)) none epos) X.env) Q (Rz X κ M h' C (some i)) s:=by
 obtain ⟨tl,N,nm,qn,bs,hdct,sn,sub,ab,col,dd,k0,k1,k2,k3,k5,mN,oI,hC,hN,hin,hfI,hfc,T⟩:=O.obj;have hes:=bE (X:=X) e hst (es:=[]);have hall:(backTo pos (starEach [e] X.env)).any (·.1)=false:=by rw [hes];rfl
 have FL:FrL κ (X.env::l):=F.frl hA;have main:Wp X.S X.A (eval (.Call (.Name x np) [e] [] pos) X.env) (fun v s₁=>∃ e t D,v=.ref e/\HkA X.A s₁.heap/\(∀ b,X.A.handled=some (.ref b)->b≠e)/\s₁.heap.get? C=some (excClassObj nm qn C N bs tl hdct sn sub ab col dd k0 k1 k2 k3 k5 "ValueError.__new__") /\
   s₁.heap.get? e=some ⟨.ref C,some D,.fields #[.ref t,.none,.none,.none,.bool false,.none],#[]⟩ /\
   ∀ h2 x,(∀ b u,b≠e->s₁.heap.get? b=some u->h2.get? b=some u)->(X.A.handled=none->x=.none)->h2.get? e=some ⟨.ref C,some D,.fields #[.ref t,.none,x,.none,.bool false,.none],#[]⟩->Rz X κ M h' C (some i) (.ref e) { s₁ with heap:=h2 }) (Rz X κ M h' C (some i)) s:=by
  refine wpAny_Call_ofName (fF F R hg O.bound hn ?_);unfold callWith;have hq:=ha pos R F e1;rw [hes] at hq ⊢;refine wpAny_bind (wpAny_holding (Calls.evalArgs_plain (wpAny_mono hq (fun us s2 ⟨M2,l2,R2,r⟩=>wpAny_bind (wpAny_standAt ?_)) fun _ _ z=>z.elim)));obtain ⟨u,rfl,ru⟩:=w1 r;obtain ⟨ti,rfl⟩:=wi.mp ru;have hC2:=R2.bk _ _ hC;rw [hes] at hall;have bk2:=R2.bk;have sz2:=(F.go l2).size R2;have hk2:=F.hk.go l2;obtain ⟨hp,g,d,tk,os⟩:=s2;simp only [hall];refine wpAny_bind (wpAny_keeperOf_exc hC2 ?_);refine wpAny_bind (wO Z.FB (T.keeps bk2) hC2 (hN.keeps bk2) hin (bk2 _ _ hfI) hfc (fun h3 ea hm hle=>?_) (show (1:Nat)<=sizeLine by decide));obtain ⟨t0,g1,_⟩:=hm.there;have R3:Mem X.S κ M2 h' ⟨h3,g,d,tk,os⟩:=R2.kept (t:=tk) hm.keeps;have fe:aU κ M2 ea:=R2.new hm.new;have sz3:X.S.base.objs.size<=h3.objs.size:=Nat.le_of_lt (Nat.lt_of_le_of_lt (Nat.le_trans sz2 hle) (Heap.lt_size g1));refine wpAny_call (codeAny_mono (aM6 F0 B Z hi (rm.make C [.int i ti] []) (hk2.eq (by first | rfl | simp [Around.under])) (F.frs.make C [.int i ti] []) F.ok.mod sz3 R3 (hb ⟨h3,g,d,tk,os⟩ [.ref ea,.int i ti] (F.kin.keeps R3.bk) rfl) fe g1) fun r s' ⟨hr,D,oD,tt,fD,R4,fe4,g4,at4⟩=>?_);subst hr;refine ⟨rfl,wpAny_bind (wpAny_holding (wpAny_point (wpAny_pure ?_)))⟩;have l3:Le M2 (M2.add D oD):=.add fD.1;refine ⟨ea,tt,D,rfl,(hk2.go l3).at R4,fun b hb' z=>?_,R4.bk _ _ hC,g4,fun h2 x kk hx hg2=>?_⟩
  ·rcases hk2.go l3 with q | ⟨b',ob,ws,q1,q2,_⟩
   ·rw [q] at hb';cases hb'
   ·rw [hb'] at q1;cases q1;rw [z,fe4.1] at q2;cases q2
  ·have R5:Mem X.S κ (M2.add D oD) h' { s' with heap:=h2 }:=R4.keep (fun b o e nf=>kk b o (fun z=>nf (by subst z;exact fe4)) e) R4.bare rfl;exact ⟨κ,M2.add D oD,l,ea,rfl,.refl,l2.trans l3,hA,FL,.inl ⟨R5,fe4,⟨_,_,tt,hg2,rfl,rfl,rfl,rfl⟩,some D,x,⟨_,hg2,rfl,rfl,_,rfl,rfl⟩,fun h0=>hx (rm.hd h0),fun j ej=>by cases ej;exact ⟨D,oD,rfl,iT,at4⟩⟩⟩
 rw [arm_exec_Raise]
 first
  | exact wpAny_bind (wpAny_standAt (qA (T.hasType Z.FB.hasBase) (wpAny_bind (wpAny_mono main (fun v s₃ h₃=>wpAny_bind (wpAny_standAt (wpAny_pure h₃))) fun _ _ x=>x))))
  | (simp only [evalOpt,Option.map];exact wpAny_bind (wpAny_standAt (qA (T.hasType Z.FB.hasBase) (wpAny_bind (wpAny_mono main (fun v s₃ h₃=>wpAny_bind (wpAny_standAt (wpAny_pure h₃))) fun _ _ x=>x)))))
end
end DL

namespace DL
open PySem PySem.Spec PyProof.Rows L2 CI
def Fly.less {S:Sx} {κ κ':Kp} {M:Mp} {h:aA} {l:List Env} {C ea:Addr} {n:Option Int} {s:Shared} (X:Fly S κ' M h l C ea n s) (k:∀ a x,κ a=some x->κ' a=some x):Fly S κ M h l C ea n s :=
 ⟨X.mem.less k,let ⟨B,t,f,p⟩:=X.fl;⟨B,t,f,fun b o q nb nf=>p b o q nb fun z=>nf (by
  refine ⟨z.1,?_,z.2.2⟩;cases e:κ b with
  | none=>rfl
  | some x=>have:=k b x e;rw [z.2.1] at this;cases this)⟩,X.er⟩
section
variable {X:Cx} {κ:Kp} {M:Mp} {h h' h1:aA} {s:Shared} {δ:DSt} {C:Addr} {n:Option Int} {tg iter:Expr} {body:List Stmt} {f:XR (List PyData×Cw)} {g:XG} {tb:XS} {pos:Pos} {E:Value->Shared->Prop} {Q:Flow->Shared->Prop}
def Rz.unpin {fp:List Addr} {hp:Heap} {ex:Value} (F:Fra X κ M δ) (hf:∀ b∈fp,aU κ M b) {M1:Mp} (z:Rz X (dQ κ fp hp) M1 h C n ex s):Rz X κ M1 h C n ex s:=by
 obtain ⟨κ',M',l,ea,he,own,lm,hA,FL,q⟩:=z;have kk:∀ a x,unK fp κ' a=some x->κ' a=some x:=fun a x e=>by
  unfold unK at e;split at e
  ·cases e
  ·exact e
 have mine:∀ {env:Env} {L:Addr},env∈X.env::l->env.frame=some L->L∉fp:=fun he hf' hm=>F.mine (.inr (.inr ⟨_,_,hA,he,hf'⟩)) (hf _ hm).2.1;refine ⟨unK fp κ',M',l,ea,he,fun a ha=>?_,lm,hA,fun env henv=>?_,q.imp (fun ⟨a,b,c⟩=>⟨a.less kk,⟨b.1,?_,b.2.2⟩,c⟩) fun z=>z.less kk⟩
 ·have nm:a∉fp:=fun hm=>ha (by unfold unK;rw [if_pos hm,(hf a hm).2.1]);refine own a fun e=>ha ?_;unfold unK;rw [if_neg nm,e];unfold dQ;rw [if_neg nm]
 ·obtain ⟨h1,L,o,h2,h3,h4⟩:=FL env henv;exact ⟨h1,L,o,h2,by unfold unK;rw [if_neg (mine henv h2)];exact h3,h4⟩
 ·unfold unK;split
  ·rfl
  ·exact b.2.1
def Rz.own {κ1:Kp} {ex:Value} (o:Own X κ κ1) (z:Rz X κ1 M h C n ex s):Rz X κ M h C n ex s :=
 let ⟨κ',M',l,ea,h1,h2,h3,h4⟩:=z;⟨κ',M',l,ea,h1,o.trans h2,h3,h4⟩
def aX4 (g:XG) (tb:XS) (c:Cw) (all:List PyData) (P:DSt->Prop) (h:aA):List PyData->DSt->Prop
 | [],_=>False
 | x::r,δ=>condB c all h=true/\∃ δ1,g (.d x) δ h=some (δ1,h)/\(P δ1\/∃ δ2,tb δ1 h=some (.nx δ2,h)/\aX4 g tb c all P h r δ2)
def aM7 {all:List PyData} {c:Cw} {P:DSt->Prop} (hd:X.S.hm=false->X.A.handled=none) (hp:PassesOwn (model X.S.P X.S.w) X.A X.env E) (hi:SI X tg iter f) (hg:SG X tg g) (hb:SSs X body tb) (hs:∀ x,foldedSetIterable iter X.env x=pure x)
  (R:Mem X.S κ M h s) (F:Fra X κ M δ) (e1:f δ h=some ((all,c),h1)) (er:aX4 g tb c all P h1 all δ) (hE:∀ ex s',Rz X κ M h1 C n ex s'->E ex s')
  (hr:∀ {κ1 M1 s1 δ1},Mem X.S κ1 M1 h1 s1->Fra X κ1 M1 δ1->P δ1->Wp X.S X.A (execs body X.env) (fun _ _=>False) (Rz X κ1 M1 h1 C n) s1):Wp X.S X.A (exec (.For tg iter body [] pos) X.env) Q E s:=by
 refine wpAny_For (wpAny_mono (hi R F e1) (fun v s1 q1=>wpAny_mono q1 (fun itv s2 q2=>?_) fun _ _ z=>z.elim) fun _ _ z=>z.elim) hs;obtain ⟨M2,it,fp,tn,l2,R2,rfl,T,t2,f2,_⟩:=q2;dsimp only at T;obtain ⟨I,hI⟩:∃ I:Nat->Shared->Prop,I=fun m s'=>∃ i κ' M' δ',m=all.length - i/\i<=all.length/\Own X κ κ'/\Le M2 M'/\Mem X.S κ' M' h1 s'/\Fra X κ' M' δ'/\tn i s'.heap/\(∀ b∈fp,aU κ' M' b)/\aX4 g tb c all P h1 (all.drop i) δ':=⟨_,rfl⟩;refine codeAny_forLoop_any I ?_ all.length (by rw [hI];exact ⟨0,κ,M2,δ,rfl,Nat.zero_le _,.refl,.refl,R2,F.go l2,t2,f2,er⟩);intro m s3 hn;rw [hI] at hn;obtain ⟨i,κ3,M3,δ3,rfl,hle,o3,l3,R3,F3,t3,f3,e3⟩:=hn;have nE:∀ {α:Type} {t:Sem α} {Q':α->Shared->Prop} {s':Shared},Wp X.S X.A t Q' NE s'->Wp X.S X.A t Q' (notedBy (model X.S.P X.S.w) X.A X.env (cameBackBy (model X.S.P X.S.w) X.A X.env E)) s':=fun q=>wpAny_mono q (fun _ _ z=>z) fun _ _ z=>z.elim;cases q:all[i]? with
 | none =>
  have hl:all.length<=i:=List.getElem?_eq_none_iff.mp q;rw [List.drop_of_length_le hl] at e3;exact e3.elim
 | some x =>
  have hlt:i < all.length:=(List.getElem?_eq_some_iff.mp q).1;rw [qS q] at e3;obtain ⟨co,δ4,e4,e5⟩:=e3;refine nE (thn (T.item hd F3.hk R3 l3 f3 t3 q co) fun r s4 ⟨u,hr',q4⟩=>?_);subst hr';refine nE (thn q4 fun _ s5 ⟨M5,l5,R5,r5,t5,fr5⟩=>?_);have F5:=F3.go l5;refine nE (thn (hg (R5.pin fr5) (F5.pin fr5) (show RepW X.S M5 (.d x) u from r5) e4) fun _ s6 ⟨κ6,M6,o6,l6,R6,F6⟩=>?_);rcases e5 with hP | ⟨δ5,e5,e6⟩
  ·refine wpAny_passesOwn hp (wpAny_mono (hr R6 F6 hP) (fun _ _ z=>z.elim) fun ex s7 z=>hE ex s7 ?_);exact (((z.own o6).unpin F5 fr5).own o3).go (l2.trans (l3.trans (l5.trans l6)))
  ·refine nE (thn (hb R6 F6 e5) fun f s7 ⟨κ7,M7,o7,l7,R7,q7⟩=>?_);obtain ⟨u1,u2,u3,u4,u5⟩:=unpin F5 fr5 (T.obj _ _ t5) (o6.trans o7) R7;have l37:=l5.trans (l6.trans l7);cases f<;>first | exact q7.elim | exact ⟨all.length - (i+1),by omega,by rw [hI];exact ⟨i+1,_,M7,_,rfl,hlt,o3.trans u1,l3.trans l37,u2,u5 _ q7,T.keep _ _ _ t5 u4,u3,e6⟩⟩
end
end DL

namespace DL
open PySem PySem.Spec PyProof.Rows L2 CI
abbrev Sh (S:Sx) (b:Bool):Sx:={ S with hm:=b }
section
variable {S:Sx} {b:Bool} {Z:Zm}
mutual
theorem Rep.sh:∀ {d:PyData} {v:Value},Rep S Z d v->Rep (Sh S b) Z d v
 | .none,_,h=>by rw [Rep] at h ⊢;exact h
 | .bool _,_,h=>by rw [Rep] at h ⊢;exact h
 | .int _,_,h=>by rw [Rep] at h ⊢;exact h
 | .str _,_,h=>by rw [Rep] at h ⊢;exact h
 | .list xs,_,h=>by rw [Rep] at h ⊢;obtain ⟨a,o,us,e,z,q,r⟩:=h;exact ⟨a,o,us,e,z,q,Reps.sh r⟩
 | .tuple xs,_,h=>by rw [Rep] at h ⊢;obtain ⟨a,o,us,e,z,q,r⟩:=h;exact ⟨a,o,us,e,z,q,Reps.sh r⟩
 | .dict xs,_,h=>by rw [Rep] at h ⊢;exact h.elim .inl fun ⟨a,o,us,e,z,q,r⟩=>.inr ⟨a,o,us,e,z,q,RepKs.sh r⟩
theorem Reps.sh:∀ {ds:List PyData} {vs:List Value},Reps S Z ds vs->Reps (Sh S b) Z ds vs
 | [],_,h=>by rw [Reps] at h ⊢;exact h
 | x::xs,_,h=>by rw [Reps] at h ⊢;obtain ⟨v,r,e,h1,h2⟩:=h;exact ⟨v,r,e,Rep.sh h1,Reps.sh h2⟩
theorem RepKs.sh:∀ {ds:List (PyData×PyData)} {vs:List (Key×Value)},RepKs S Z ds vs->RepKs (Sh S b) Z ds vs
 | [],_,h=>by rw [RepKs] at h ⊢;exact h
 | x::xs,_,h=>by rw [RepKs] at h ⊢;obtain ⟨v,r,e,h1,h2⟩:=h;exact ⟨v,r,e,RepP.sh h1,RepKs.sh h2⟩
theorem RepP.sh:∀ {p:PyData×PyData} {q:Key×Value},RepP S Z p q->RepP (Sh S b) Z p q
 | (k,x),q,h=>by rw [RepP] at h ⊢;exact ⟨h.1,Rep.sh h.2⟩
end
variable {M:Mp} {κ:Kp} {h:aA} {s:Shared} {w:W} {u:Value}
end
end DL

namespace DL
open PySem PySem.Spec PyProof.Rows L2 CI
section
variable {X:Cx} {κ:Kp} {M:Mp} {h h':aA} {s:Shared} {δ:DSt} {x n:Str} {C ea:Addr} {A:Around} {E:Value->Shared->Prop} {i:Nat} {u:Value} {o o':Obj} {m:Str->Option Value}
def Fra.at1 {z:Option W} {v:Option Value} (F:Fra X κ M δ) (hi:X.N[i]?=some x) (hk:X.env.scope.names.lookup x=some .local) (h1:κ X.env.locals=some (false,o)) (d:jA o m) (d':jA o' fun y=>if y=x then v else m y) (r:∀ w,z=some w->∃ u,v=some u/\RepW X.S M w u):Fra X (κ.up X.env.locals (false,o')) M (δ.set i z):=by
 have hiδ:i < δ.length:=by rw [F.len];exact (List.getElem?_eq_some_iff.mp hi).1
 obtain ⟨o1,m1,k1,k2,k3⟩:=F.loc;rw [h1] at k1;cases k1;have em:m1=m:=by
  obtain ⟨es,ep,e1,_,e3⟩:=k2;obtain ⟨es',ep',e1',_,e3'⟩:=d;rw [e1] at e1';cases e1';exact funext fun y=>(e3 y).symm.trans (e3' y)
 subst em;refine ⟨F.ok,F.hk,by rw [List.length_set];exact F.len,⟨o',_,eZ,d',fun j y w' e1 e2 e3=>?_⟩,fun y c ec=>?_,F.frs.up fun vs z=>by obtain ⟨_,_,z',_⟩:=d';rw [z'] at z;cases z⟩
 ·by_cases hj:j=i
  ·subst hj;rw [hi] at e1;cases e1;rw [List.getElem?_set_self hiδ] at e2;obtain ⟨u,ev,ru⟩:=r w' (Option.some.inj e2);exact ⟨u,ru,.inl ⟨hk,by simp [ev]⟩⟩
  ·rw [List.getElem?_set_ne (Ne.symm hj)] at e2;obtain ⟨u',r',l⟩:=k3 j y w' e1 e2 e3;refine ⟨u',r',?_⟩;rcases l with ⟨k,e⟩ | ⟨k,c,oc,ec,eo,ed⟩
   ·have:y≠x:=fun e=>hj (mK F.ok.nd e1 (e ▸ hi));exact .inl ⟨k,by simp [this,e]⟩
   ·exact .inr ⟨k,c,oc,ec,by rw [cC fun z=>by rw [z,h1] at eo;cases eo];exact eo,ed⟩
 ·obtain ⟨oc,v,h6,h7⟩:=F.cell y c ec;exact ⟨oc,v,by rw [cC fun z=>by rw [z,h1] at h6;cases h6];exact h6,h7⟩
def aM8 {o':Obj}:Own X κ (κ.up X.env.locals (false,o')):=fun a ha=>by
 by_cases z:a=X.env.locals
 ·exact .inl z
 ·exact (ha (cC z)).elim
def bM7 {Md:Model} {Q:Unit->Shared->Prop} (F:Fra X κ M δ) (R:Mem X.S κ M h s) (hk:X.env.scope.names.lookup x=some .local)
  (q:∀ s' o m o',κ X.env.locals=some (false,o)->jA o m->jA o' (fun y=>if y=x then some u else m y)->Mem X.S (κ.up X.env.locals (false,o')) M h s'->Heap.SameBut X.env.locals s.heap s'.heap->Q () s'):wpAny Md A (storeName X.env x u) Q E s:=by
 have hcls:(X.env.scope.kind==.class||(X.env.scope.kind==.module&&X.env.locals != X.env.globals))=false:=by rw [F.ok.kind];rfl
 obtain ⟨o,m,h1,⟨es,ep,h2,h3,h4⟩,h5⟩:=F.loc;obtain ⟨_,⟨sl,e⟩,_⟩:=R.k _ _ _ h1;have hn:s.heap.Ns X.env.locals m:=⟨_,es,ep,e,h2,h3,h4⟩;refine wpAny_storeName_local hk hn (fun h' hn' hs=>?_) hcls;obtain ⟨o',es',ep',ho',hd',hk',hm'⟩:=hn';exact q _ o m o' h1 ⟨es,ep,h2,h3,h4⟩ ⟨es',ep',hd',hk',hm'⟩ (R.own h1 (fun b ob hb q=>(hs.2 b hb).trans q) ho' R.bare rfl) hs
def bZ2 {Md:Model} {pos:Pos} {Q:Unit->Shared->Prop} (F:Fra X κ M δ) (R:Mem X.S κ M h s) (hi:X.N[i]?=some x) (hk:X.env.scope.names.lookup x=some .local)
  (q:∀ s' κ',Own X κ κ'->Mem X.S κ' M h s'->Fra X κ' M (δ.set i none)->Q () s'):wpAny Md A (do bindName X.env x .none;unbindBehindTheSuite X.env x pos) Q E s:=by
 have hcls:(X.env.scope.kind==.class||(X.env.scope.kind==.module&&X.env.locals != X.env.globals))=false:=by rw [F.ok.kind];rfl
 obtain ⟨o,m,h1,⟨es,ep,h2,h3,h4⟩,h5⟩:=F.loc;obtain ⟨_,⟨sl,e⟩,_⟩:=R.k _ _ _ h1;have hn:s.heap.Ns X.env.locals m:=⟨_,es,ep,e,h2,h3,h4⟩;refine wpAny_nameGoes_keeps (m:=m) hk hn hcls fun h' v hn' hs=>?_;obtain ⟨o',es',ep',ho',hd',hk',hm'⟩:=hn';exact q _ _ aM8 (R.own h1 (fun b ob hb q=>(hs.2 b hb).trans q) ho' R.bare rfl) (F.at1 hi hk h1 ⟨es,ep,h2,h3,h4⟩ ⟨es',ep',hd',hk',hm'⟩ fun w z=>nomatch z)
def uF {A:Around} {u:Value} {p:Pos} {Qv:Value->Shared->Prop} (F:Fra X κ M δ) (R:Mem X.S κ M h s) (hg:Gl X x) (hm:X.S.mg x=some u) (hn:aW x=true) (q:Qv u s):Wp X.S A (eval (.Name x p) X.env) Qv E s:=by
 unfold aW at hn;simp only [Bool.and_eq_true,Bool.not_eq_true'] at hn;exact Calls.Name_function_global F.ok.kind hg (Calls.loadGlobal_global (by rw [F.ok.glob];exact F.ok.mod.glob.keeps R.bk) hm q) hn.1
structure Cau (X:Cx) (κ:Kp) (M:Mp) (h:aA) (δ:DSt) (C:Addr) (nA:Option Int) (ea:Addr) (s:Shared):Prop where
 R:Mem X.S κ M h s
 F:Fra X κ M δ
 fl:∃ l B t,X.A.frames=some (X.env::l)/\Heap.FlyingW B (X.env::l) ea (.ref C) (.ref t) s.heap/\∀ b o,s.heap.get? b=some o->b∉frs (X.env::l)->¬ aU κ M b->B.get? b=some o
 er:Er1 X.S.hm M C ea nA s.heap
variable {nA:Option Int} {J:Str} {jp hpos tpos:Pos} {CJ L:Addr} {b0:Stmt} {su body:List Stmt} {rest:List ExceptHandler} {Q:Flow->Shared->Prop} {h2:aA}
def aM9 {l:List Env} {B:Heap} (R:Mem X.S κ M h s) (FL:FrL κ (X.env::l)) (pr:∀ b o,s.heap.get? b=some o->b∉frs (X.env::l)->¬ aU κ M b->B.get? b=some o) (h2:Heap) (hB:B.StaysIn h2) (up:s.heap.UpToSlots h2):Mem X.S κ M h { s with heap:=h2 }:=R.keepF (fs:=frs (X.env::l)) (fun a ha=>let ⟨o,h1,_⟩:=FL.at ha;⟨o,h1⟩) (fun b o q n nf=>hB b o (pr b o q n nf)) (fun a ha o q _=>by
  obtain ⟨o',k1,k2⟩:=FL.at ha;obtain ⟨_,⟨sl,k3⟩,_⟩:=R.k _ _ _ k1;rw [q] at k3;cases k3;exact up a _ q k2) R.bare rfl
def aX5 (F:Fra X κ M δ) (hb:Wp X.S X.A (execs body X.env) (fun _ _=>False) (Rt X κ M h' C nA) s) (hf:X.env.frame=some L) {h0:ExceptHandler}
  (k:∀ {M1 s1 ea},Le M M1->Cau X κ M1 h' δ C nA ea s1->Wp X.S X.A (handleBy (.ref ea) X.env (h0::rest)) Q NE s1):Wp X.S X.A (exec (.Try body (h0::rest) [] [] tpos) X.env) Q NE s:=by
 refine wpAny_Try_except (wpAny_mono hb (fun _ _ z=>z.elim) fun ex s' ⟨M',l,ea,hex,l1,hA,R,⟨B,t,fl,pr⟩,dd,x,x0,xh,xn⟩=>?_);subst hex;have FL:=F.frl hA;refine wpAny_mono (Kp.any ErP.freed (yR (.ref ea) X.env) x0 (wpAny_looks_onW (env:=X.env) (outer:=l) (Q:=fun _ s4=>∃ h4,s4={ s' with heap:=h4 }/\Heap.HeldW B (X.env::l) ea (.ref C) (.ref t) L h4/\s'.heap.UpToSlots h4) hA hf fl fun h4 held4 up4=>⟨h4,rfl,held4,up4⟩)) (fun _ s4 z=>?_) fun _ _ z=>z;obtain ⟨⟨h4,rfl,held4,up4⟩,x4⟩:=z;refine wpAny_mono (Kp.any ErP.freed (kM (.ref ea) none) x4 (wpAny_landsW (Q:=fun _ s5=>∃ h5,s5={ s' with heap:=h5 }/\Heap.FlyingW B (X.env::l) ea (.ref C) (.ref t) h5/\h4.UpToSlots h5) held4 fun h5 fl5 up5=>⟨h5,rfl,fl5,up5⟩)) (fun _ s5 z=>?_) fun _ _ z=>z;obtain ⟨⟨h5,rfl,fl5,up5⟩,x5⟩:=z;have R5:=aM9 R FL pr h5 fl5.1 (up4.trans up5);refine k l1 ⟨R5,F.go l1,⟨l,B,t,hA,fl5,fun b o q nb nf=>?_⟩,dd,x,x5,xh,xn⟩;obtain ⟨u,hu⟩:=R.there nf;have z:=fl5.1 b u (pr b u hu nb nf);have q:h5.get? b=some o:=q;rw [q] at z;cases z;exact pr b _ hu nb nf
def aN0 {R':Result->Shared->Prop} {ea:Addr} {b:Bool} {A:Around} (Y:Cau X κ M h δ C nA ea s) (hmJ:X.S.mg J=some (.ref CJ)) (hJ:PySem.W.exmOne X.S.K (.ref C) (.ref CJ)=some b) (hnJ:aW J=true) (hgJ:Gl X J) (q:R' (.ok (if b=true then .brk else .next)) s) :
  codeAny (model X.S.P X.S.w) A (.handlers (.ref ea) [.ExceptHandler (some (.Name J jp)) none [] hpos] X.env) R' s:=by
 obtain ⟨l,B,t,hA,fl5,pr⟩:=Y.fl;obtain ⟨oe5,ws5,he5,hc5,hd5,_⟩:=fl5.first
 refine codeAny_handlers_test (uF Y.F Y.R hgJ hmJ hnJ ?_);have LT:PySem.W.Looks (model X.S.P X.S.w) s.heap (typeOf (.ref ea)) (.ref C):=hc5 ▸ (PySem.W.Looks.ld he5).andThen .now;exact (PySem.W.exm_one (K:=X.S.K) (Y.F.kin.keeps Y.R.bk) LT hJ).here q
def aX6 {ea:Addr} (Y:Cau X κ M h δ C nA ea s) (hmJ:X.S.mg J=some (.ref CJ)) (hJ:PySem.W.exmOne X.S.K (.ref C) (.ref CJ)=some true) (hnJ:aW J=true) (hgJ:Gl X J) (hi:X.N[i]?=some n) (hk:X.env.scope.names.lookup n=some .local)
  (hsu:∀ {κ1 M1 s1 oe x},Own X κ κ1->Le M M1->Mem X.S κ1 M1 h s1->Fra X κ1 M1 (δ.set i none)->(∃ o m,κ1 X.env.locals=some (false,o)/\jA o m/\m n=some (.ref ea))->M1.Z ea=some oe->oe.cls=.ref C->(X.S.hm=false->Hk (X.A.mark (some (.ref ea))) M1)->oe.data=.fields x->(∀ j,nA=some j->∃ D oD,oe.dict=some D/\M1.Z D=some oD/\AtO D oD j) ->
   Wp X.S (X.A.mark (some (.ref ea))) (execs (b0::su) X.env) (fun fl s2=>∃ κ2 M2 δ2,Own X κ κ2/\Le M M2/\Mem X.S κ2 M2 h2 s2/\Fra X κ2 M2 δ2/\∀ {κ3 s3},Own X κ κ3->Mem X.S κ3 M2 h2 s3->Fra X κ3 M2 (δ2.set i none)->Q fl s3) NE s1) :
  Wp X.S X.A (handleBy (.ref ea) X.env (.ExceptHandler (some (.Name J jp)) (some n) (b0::su) hpos::rest)) Q NE s:=by
 refine wpAny_handleBy_cons (aN0 Y hmJ hJ hnJ hgJ ?_) (by intro q;cases q);obtain ⟨R,F,⟨l,B,t,hA,fl,pr⟩,dd,x,x0,xh,xn⟩:=Y;have FL:=F.frl hA;refine codeAny_handlers_suite_as ?_;refine wpAny_mono (Kp.any ErP.freed (kM (.ref ea) none) x0 (lands_againW (Q:=fun _ s6=>∃ h6,s6={ s with heap:=h6 }/\Heap.FlyingW B (X.env::l) ea (.ref C) (.ref t) h6/\s.heap.UpToSlots h6) fl fun h6 fl6 up6=>⟨h6,rfl,fl6,up6⟩)) (fun _ s6 z=>?_) fun _ _ z=>z;obtain ⟨⟨h6,rfl,fl6,up6⟩,oe,he6,x1,x2,ws,x3,x4⟩:=z;have R6:=aM9 R FL pr h6 fl6.1 up6;have nS:ea∉frs (X.env::l):=fun m=>by
  obtain ⟨o,k1,k2⟩:=FL.at m;obtain ⟨_,⟨sl,k3⟩,_⟩:=R6.k _ _ _ k1;have k3:h6.get? ea=_:=k3;have he6:h6.get? ea=some oe:=he6;rw [he6] at k3;cases k3;exact k2 _ x3
 have fe:aU κ M ea:=Classical.byContradiction fun nf=>by
  obtain ⟨u,hu⟩:=R.there nf;have:=pr ea u hu nS nf;rw [fl.2.1] at this;cases this
 have R7:=R6.frz fe he6;have l7:Le M (M.add ea oe):=.add fe.1;refine bM7 (F.go l7) R7 hk fun s7 o m o' k1 d d' R8 sb=>?_;have hk1:X.S.hm=false->Hk (X.A.mark (some (.ref ea))) (M.add ea oe):=fun h0=>.inr ⟨ea,oe,ws,by first | rfl | simp [Around.mark],iT,x3,by rw [x4,xh h0]⟩;refine wpAny_mono (hsu aM8 l7 R8 ((F.go l7).at1 hi hk k1 d d' fun w z=>nomatch z) ⟨o',_,eZ,d',by simp⟩ iT x1 hk1 x3 fun j ej=>?_) (fun f8 s8 ⟨κ2,M2,δ2,o2,l2,R9,F9,q9⟩=>?_) fun _ _ z=>z.elim
 ·obtain ⟨D,oD,q1,q2,q3⟩:=xn j ej;exact ⟨D,oD,x2.trans q1,l7.z _ _ q2,q3⟩
 ·cases f8<;>exact bZ2 F9 R9 hi hk fun s9 κ9 o9 R10 F10=>q9 (o2.trans o9) R10 F10
end
end DL

namespace DL
open PySem PySem.Spec PyProof.Rows L2 CI
section
variable {X:Cx} {κ:Kp} {M:Mp} {h h':aA} {s:Shared} {δ:DSt} {x n c:Str} {C CJ ea:Addr} {oe:Obj} {A:Around} {E:Value->Shared->Prop} {i:Nat} {u cu:Value} {b:Bool} {p p1 pc pos:Pos}
def Qs (X:Cx) (κ:Kp) (M:Mp) (h:aA) (b:Bool) (u:Value) (s:Shared):Prop:=u=.bool b/\∃ M',Le M M'/\Mem X.S κ M' h s
def rO {Q:Value->Shared->Prop} (F:Fra X κ M δ) (R:Mem X.S κ M h s) (hg:Gl X x) (hm:X.S.mg x=none) (hv:bootBuiltins x=some u) (hn:aW x=true) (q:Q u s):Wp X.S A (eval (.Name x pos) X.env) Q E s:=by
 unfold aW at hn;simp only [Bool.and_eq_true,Bool.not_eq_true'] at hn;obtain ⟨mb,h1,h2⟩:=F.ok.mod.blt;exact Calls.Name_function_global F.ok.kind hg (Calls.loadGlobal_builtin (by rw [F.ok.glob];exact F.ok.mod.glob.keeps R.bk) hm (by rw [F.ok.blt];exact h1.keeps R.bk) ((h2 x (fun z=>by rw [z] at hn;exact absurd hn.2.2 (by decide))).trans hv) q) hn.1
def bM8 (F:Fra X κ M δ) (R:Mem X.S κ M h s) (U:Lk X κ n (.ref ea)) (zo:M.Z ea=some oe) (hcl:oe.cls=.ref C) (Z:XCls X.S.K C) (hi:Gl X "isinstance") (mi:X.S.mg "isinstance"=none) (hk:X.env.scope.names.lookup n=some .local) (hn:aW n=true) (hc:Gl X c) (nc:aW c=true) (mc:X.S.mg c=some (.ref CJ)) (e:PySem.W.kitOne X.S.K (.ref C) (.ref CJ)=some b) :
  Wp X.S A (eval (.Call (.Name "isinstance" p) [.Name n p1,.Name c pc] [] pos) X.env) (Qs X κ M h b) E s:=by
 refine wpAny_Call_Name_kw (rO (u:=.builtin "isinstance") F R hi mi (by decide +kernel) (by decide +kernel) ?_);refine PyProof.Rows.callWith_builtin1 ?_ (bE (.Name n p1) rfl) (cK pos [.Name c pc] rfl);rw [bE (.Name n p1) rfl];show Wp _ _ (spliced ((false,eval (.Name n p1) X.env)::backTo pos (starEach [.Name c pc] X.env))) _ _ s;refine Calls.spliced_cons (oJ F R U hk hn ?_);rw [bE (X:=X) (es:=[]) (.Name c pc) rfl];show Wp _ _ (spliced ((false,eval (.Name c pc) X.env)::[])) _ _ s;refine Calls.spliced_cons (uF F R hc mc nc (Calls.spliced_nil ?_));exact PySem.W.kia_one (uB PySem.F.excAttr_ValueError.ga Z hcl) (F.kin.keeps R.bk) (R.z _ _ zo) e (fun z=>nomatch z) fun tk=>⟨rfl,M,.refl,R.tok tk⟩
def bZ3 {j:Int} {D:Addr} {oD:Obj} {vs:Array Value} {Q:Value->Shared->Prop} (F:Fra X κ M δ) (R:Mem X.S κ M h s) (U:Lk X κ n (.ref ea)) (zo:M.Z ea=some oe) (hcl:oe.cls=.ref C) (hv:oe.data=.fields vs) (hd:oe.dict=some D) (zD:M.Z D=some oD) (ha:AtO D oD j) (Z:XCls X.S.K C) (Y:ECls X.S.K C CJ) (hk:X.env.scope.names.lookup n=some .local) (hn:aW n=true)
  (q:∀ t k,Q (.int j t) { s with toks:=k }):Wp X.S A (eval (.Attribute (.Name n p1) "at" pos) X.env) Q E s:=by
 obtain ⟨t,hD⟩:=ha;refine Attribute_any_ (oJ F R U hk hn ?_) (by rw [arm_eval_Attribute,lN rfl]);have ho:=R.z _ _ zo;have hN:=hD s.heap (R.z _ _ zD);have kn:=F.kin.keeps R.bk;obtain ⟨hh,g,d,tk,os⟩:=s;exact aX2 PySem.F.excAttr_ValueError.ga Z Y kn ho hcl hv hd hN (by simp) rfl (q t _)
end
section
variable {X:Cx} {t:Stmt} {r:List Stmt} {f1 f2:XS}
end
end DL

namespace K61
open PySem PySem.Spec PyProof.Rows L2 DL CI SJ
noncomputable def hW:Stmt:=.Pass ⟨0,0,0,0⟩
def top (k:Nat):Stmt:=body.getD k hW
abbrev sL:Stmt:=top 44
noncomputable def cI:Stmt->Expr
 | .If c _ _ _=>c
 | _=>.Constant .none 0 ⟨0,0,0,0⟩
noncomputable def fT:Stmt->Expr
 | .For t _ _ _ _=>t
 | _=>.Constant .none 0 ⟨0,0,0,0⟩
noncomputable def fI:Stmt->Expr
 | .For _ i _ _ _=>i
 | _=>.Constant .none 0 ⟨0,0,0,0⟩
noncomputable def fB:Stmt->List Stmt
 | .For _ _ b _ _=>b
 | _=>[]
def sI:Stmt:=match top 35 with
 | .ClassDef _ _ _ b _ _ _ _ _ _ _=>b.getD 0 hW
 | _=>hW
def sLk (k:Nat):Stmt:=(aV sL).getD k hW
def bL:∃ p1 p2 p3 p4 p5 p6 k1 q4 q5 q6 q7 q8 q9 r4 r5 r6 r7 r8 r9,aV sL=[
 .If (cI (sLk 0)) [.Raise (some (.Call (.Name "NoHistory" p1) [.UnaryOp .USub (.Constant (.int 1) k1 p2) p3] [] p4)) none p5] [] p6,
 .For (fT (sLk 1)) (fI (sLk 1)) [.If (cI ((fB (sLk 1)).getD 0 hW)) [.Raise (some (.Call (.Name "NoHistory" q4) [.Name "number" q5] [] q6)) none q7] [] q8] [] q9,
 .For (fT (sLk 2)) (fI (sLk 2)) [.If (cI ((fB (sLk 2)).getD 0 hW)) [.Raise (some (.Call (.Name "NoHistory" r4) [.Name "number" r5] [] r6)) none r7] [] r8] [] r9]:=⟨_,_,_,_,_,_,_,_,_,_,_,_,_,_,_,_,_,_,_,rfl⟩
abbrev stA (b:Bool) (d:Nat) (x:Str) (s:Stmt):Sta:=(TT b).sta (fnT (TT b) fun y=>aG (TT b) d y) (obT (TT b) (fun y=>callW (TT b) d y) (fun y=>callI (TT b) d y) fun y=>callM (TT b) d y) x s
def r0 (b:Bool) (d:Nat) (δ:DSt) (h:aA):(evs 59).T (stA b d "look_over" sL) (cI (sLk 0)) δ h=xb (YNt (xb (xb (aE 0) (YIs "tuple")) YD)) (YOb (xC1 CmpOp.Gt (YK1 bI (aE 0)) (YJ 60))) δ h:=by kernel_rfl
def r1 (b:Bool) (d:Nat) (δ:DSt) (h:aA):(evs 59).T (stA b d "look_over" sL) (cI ((fB (sLk 1)).getD 0 hW)) δ h=YNt (xb (YF1 b d "is_deed" (aE 2)) YD) δ h:=by kernel_rfl
def r1b (b:Bool) (d:Nat) (δ:DSt) (h:aA):xSs (evs 59) (stA b d "look_over" sL) (fB (sLk 1)) δ h=cX b d δ h:=by kernel_rfl
def r2 (b:Bool) (d:Nat) (δ:DSt) (h:aA):(evs 59).T (stA b d "look_over" sL) (cI ((fB (sLk 2)).getD 0 hW)) δ h=YNt (xb (YK1 iG (aN (xb (bC (xb (aE 0) (YSl (aF none) (xb (aE 1) YU)))) (YCp (YG 0) (aF true) (YF2 b d "go_together" (aE 1) (aE 0)) [none,some 3])))) YD) δ h:=by kernel_rfl
def r2b (b:Bool) (d:Nat) (δ:DSt) (h:aA):xSs (evs 59) (stA b d "look_over" sL) (fB (sLk 2)) δ h=cW b d δ h:=by kernel_rfl
def rI1 (b:Bool) (d:Nat):fP (evs 59) (stA b d "look_over" sL) (fT (sLk 1)) (fI (sLk 1))=xb (aE 0) (fun (u:W) (x:DSt) (h:aA)=>iW u h):=by kernel_rfl
def rI2 (b:Bool) (d:Nat):fP (evs 59) (stA b d "look_over" sL) (fT (sLk 2)) (fI (sLk 2))=xb (aE 0) (fun (u:W) (x:DSt) (h:aA)=>iW u h):=by kernel_rfl
def rG1 (b:Bool) (d:Nat):(evs 59).G (stA b d "look_over" sL) (fT (sLk 1))=bH [YG 1,YG 2]:=by kernel_rfl
def rG2 (b:Bool) (d:Nat):(evs 59).G (stA b d "look_over" sL) (fT (sLk 2))=bH [YG 1,YG 3]:=by kernel_rfl
def gtB (x y:Dd):Bool:=!(x.tms.any fun t=>decide (t∈y.tms))&&(!decide (x.hand=y.hand)||(x.below y.beg||y.below x.beg))
def bZ4 {α:Type} (p:α->Bool) (xs:List α) (h:aA):rZ [.d (.list (xs.map fun t=>PyData.bool (p t)))] h=some (.d (.bool (xs.any p)),h):=by
 have e:∀ xs:List α,cT (xs.map fun t=>PyData.bool (p t))=some (xs.map p):=fun xs=>by
  induction xs with
  | nil=>rfl
  | cons x r ih=>rw [List.map_cons,cT,ih];rfl
 have:rZ [.d (.list (xs.map fun t=>PyData.bool (p t)))] h=(cT (xs.map fun t=>PyData.bool (p t))).map fun bs=>(.d (.bool (bs.any id)),h):=rfl;rw [this,e];simp [Function.comp_def]
def bZ5 {α:Type} (p:α->Bool) (xs:List α) (h:aA):iG [.d (.list (xs.map fun t=>PyData.bool (p t)))] h=some (.d (.bool (xs.all p)),h):=by
 have e:∀ xs:List α,cT (xs.map fun t=>PyData.bool (p t))=some (xs.map p):=fun xs=>by
  induction xs with
  | nil=>rfl
  | cons x r ih=>rw [List.map_cons,cT,ih];rfl
 rw [bB7,e];simp [Function.comp_def]
variable {bm:Bool} (d:Nat) (h:aA)
def cO5 (x y:Dd):aG (TT bm) (d+3) "go_together" [.d x.dat,.d y.dat] h=some (.bool (gtB x y),h):=by
 have t1:=fun x=>oB (bm:=bm) (d+1) h x;have b1:=fun n=>dC (bm:=bm) (d+1) h x n;have b2:=fun n=>dC (bm:=bm) (d+1) h y n;have y0:∀ k,xIx (.d y.dat) (.d (.int 0)) k=some (.d (.int y.hand),k):=fun k=>by simp [Dd.dat]
 have x0:∀ k,xIx (.d x.dat) (.d (.int 0)) k=some (.d (.int x.hand),k):=fun k=>by simp [Dd.dat]
 have y1:∀ k,xIx (.d y.dat) (.d (.int 1)) k=some (.d (.int y.beg),k):=fun k=>by simp [Dd.dat]
 have x1:∀ k,xIx (.d x.dat) (.d (.int 1)) k=some (.d (.int x.beg),k):=fun k=>by simp [Dd.dat]
 have tx:=t1 x;have ty:=t1 y;unfold gtB;generalize x.dat=dx at *;generalize y.dat=dy at *;simp [iE,tx];rw [cmM PyData.int (fun t=>.bool (decide (t∈y.tms))) (fun δ=>∃ u,δ=[u,some (.d dy)]) _ _ ⟨_,rfl⟩ fun t' hm δ hδ=>?_]
 ·simp only [bds,bZ4];cases x.tms.any fun t=>decide (t∈y.tms) with
  | true=>simp
  | false =>
   have ee:((x.hand:Int)=y.hand) ↔ x.hand=y.hand:=by omega
   by_cases e:x.hand=y.hand
   ·cases e1:x.below y.beg<;>simp [x0,y0,x1,y1,e,b1,b2,e1]
   ·have e':¬ ((x.hand:Int)=y.hand):=by omega
    simp [x0,y0,e',e]
 ·obtain ⟨u,rfl⟩:=hδ;refine ⟨_,rfl,⟨_,rfl⟩,?_⟩;simp [ty,yN]
end K61

namespace K61
open PySem PySem.Spec PyProof.Rows L2 DL CI SJ
def bC3:InitB sI "JudgeError" where
 fn:=by kernel_rfl
 ps:=by kernel_rfl
 l1:=by kernel_rfl
 l2:=by kernel_rfl
 lJ:=by kernel_rfl
 nJ:=by decide +kernel
 bd:=⟨_,_,_,_,_,_,_,_,_,_,_,_,_,_,_,rfl,by decide +kernel,fun env=>⟨_,rfl⟩⟩
structure Er (S:Sx) (C J fI P:Addr):Prop where
 O:OwnI "NoHistory" C fI S.mg S.base
 Z:InitC S C J "JudgeError"
 XC:XCls S.K C
 mP:S.mg "NoProblem"=some (.ref P)
 mV:S.mg "ValueError"=none
 eH:PySem.W.exmOne S.K (.ref C) (.ref C)=some true
 kP:PySem.W.kitOne S.K (.ref C) (.ref P)=some false
 kV:PySem.W.kitOne S.K (.ref C) (.type "ValueError")=some true
 fn:∃ n q fd,Fun S.K n q (sI:Stmt) fI fd/\dM S.K fd ["self","at"]
def yS {S:Sx} {st:Stmt} {q:Str} {L f:Addr} {cd:Value} {A:Around} {κ:Kp} {M:Mp} {δ:DSt} (F:Fra (cxF S st q L f cd A) κ M δ):∃ l,(cxF S st q L f cd A).A.frames=some ((cxF S st q L f cd A).env::l):=by
 obtain ⟨l,e,_⟩:=F.frs;have e:(A.deeper (cxF S st q L f cd A).env).frames=some l:=e;cases h:A.frames with
 | none=>simp [Around.deeper,h] at e
 | some l'=>exact ⟨l',show (A.deeper (cxF S st q L f cd A).env).frames=_ by simp [Around.deeper,h]⟩
end K61

namespace K61
open PySem PySem.Spec PyProof.Rows L2 DL CI SJ
noncomputable def bZ6:PyData->Bool
 | .none=>true
 | .list _=>true
 | .tuple xs=>decide (60 < xs.length)
 | _=>false
def ND (x:PyData):Prop:=∀ (b:Bool) (d:Nat) (h:aA),aG (TT b) (d+10) "is_deed" [.d x] h=some (.bool false,h)
set_option genInjectivity true in
inductive BadH:Int->PyData->Prop
 | form {x:PyData} (hx:bZ6 x=true):BadH (-1) x
 | deed {hs:List Dd} {x:PyData} (ok:∀ x∈hs,x.ok) (l:hs.length < 60) (hx:ND x):BadH hs.length (.tuple (hs.map Dd.dat++[x]))
 | two {hs:List Dd} {n j:Nat} (ok:∀ x∈hs,x.ok) (l:hs.length<=60) (hn:n < hs.length) (hj:j < n) (bad:gtB (gD hs n) (gD hs j)=false) (fst:∀ i j,i < n->j < i->gtB (gD hs i) (gD hs j)=true):BadH n (.tuple (hs.map Dd.dat))
def rP {X:Cx} {κ:Kp} {M:Mp} {h h1:aA} {s:Shared} {δ δ1:DSt} {v:Evs} {st:Sta} {d:Nat} {t:Stmt} {r:List Stmt} {Q:Flow->Shared->Prop} {E:Value->Shared->Prop} (S:Snd v) (G:Good X st d) (R:Mem X.S κ M h s) (F:Fra X κ M δ) (e1:v.S st t δ h=some (.nx δ1,h1))
  (rb:∀ {κ1 M1 s1},Own X κ κ1->Le M M1->Mem X.S κ1 M1 h1 s1->Fra X κ1 M1 δ1->Wp X.S X.A (execs r X.env) Q E s1):Wp X.S X.A (execs (t::r) X.env) Q E s:=by
 refine wpAny_execs_cons (wpAny_mono (S.S G t R F e1) (fun f s1 ⟨κ1,M1,o1,l1,R1,q⟩=>?_) fun _ _ z=>z.elim);cases f with
 | next=>exact rb o1 l1 R1 q
 | _=>exact q.elim
theorem aN1 {X:Cx} {a c:List Stmt} {f:XS} (e:a=c) (t:SSs X a f):SSs X c f:=e ▸ t
theorem rQ {g:XG} {tb:XS} {all:List PyData} {P:DSt->Prop} {h:aA} (I:Nat->DSt->Prop) (n:Nat) (hn:n < all.length) (step:∀ i (hi:i < n) δ,I i δ->∃ δ1,g (.d (all[i]'(by omega))) δ h=some (δ1,h)/\∃ δ2,tb δ1 h=some (.nx δ2,h)/\I (i+1) δ2) (last:∀ δ,I n δ->∃ δ1,g (.d all[n]) δ h=some (δ1,h)/\P δ1) :
  ∀ (m i:Nat),m+i=n->∀ δ,I i δ->aX4 g tb none all P h (all.drop i) δ
 | 0,i,e,δ,hi=>by
  have e:i=n:=by omega
  subst e;rw [List.drop_eq_getElem_cons hn];obtain ⟨δ1,e1,p⟩:=last δ hi;exact ⟨rfl,δ1,e1,.inl p⟩
 | m+1,i,e,δ,hi=>by
  rw [List.drop_eq_getElem_cons (show i < all.length by omega)];obtain ⟨δ1,e1,δ2,e2,i2⟩:=step i (by omega) δ hi;exact ⟨rfl,δ1,e1,.inr ⟨δ2,e2,rQ I n hn step last m (i+1) (by omega) δ2 i2⟩⟩
def rR (xs:List PyData) (i:Nat) (hi:i < (bK xs).length):(bK xs)[i]=.tuple [.int i,xs.getD i .none]/\(bK xs).length=xs.length:=by
 have e:bK xs=(List.range xs.length).map fun i=>.tuple [.int i,xs.getD i .none]:=by
  unfold bK;rw [jR];refine List.map_congr_left fun i hi=>?_;have hi:=List.mem_range.mp hi;simp [List.getD,hi]
 constructor
 ·simp [e]
 ·rw [e];simp
variable {bm:Bool} (d:Nat) (h:aA)
def bZ7 {w:PyData} {hs:List Dd} {i:Nat} (hw:w=.tuple (hs.map Dd.dat)) (hi:i < hs.length) (x2:Option W):(YNt (xb (YK1 iG (aN (xb (bC (xb (aE 0) (YSl (aF none) (xb (aE 1) YU)))) (YCp (YG 0) (aF true) (YF2 bm (d+10) "go_together" (aE 1) (aE 0)) [none,some 3])))) YD)) [some (.d w),some (.d (.int i)),x2,some (.d (gD hs i).dat)] h=some (!((hs.take i).all fun y=>gtB (gD hs i) y),h):=by
 have cu:xSl (.d w) none (some (i:Int)) h=some (.d (.tuple ((hs.take i).map Dd.dat)),h):=by
  have:=rM (hs.map Dd.dat) (m:=i) (by simp;omega);rw [hw,List.map_take];show some (W.d (.tuple (cut (hs.map Dd.dat) none (some (i:Int)))),h)=_;rw [this]
 generalize hs.take i=qs at *;generalize gD hs i=x at *;have cm:aZ (YG 0) (aF true) (xb (Y2 (aE 1) (aE 0)) (YF bm (d+10) "go_together")) none (qs.map Dd.dat) (qs.map Dd.dat) [none,some (.d x.dat)] h []=some (qs.map fun y=>.bool (gtB x y),h):=by
  refine cmM Dd.dat (fun y=>.bool (gtB x y)) (fun δ=>∃ u,δ=[u,some (.d x.dat)]) _ _ ⟨_,rfl⟩ fun y hy δ hδ=>?_;obtain ⟨u,rfl⟩:=hδ;refine ⟨_,rfl,⟨_,rfl⟩,?_⟩;have:=cO5 (bm:=bm) (d+7) h x y;simp [this]
 simp only [nV,nQ,nU,oX,pB,nW,nX,pC,bY2,bY3,nO,nP,oV,pA,oZ,oW,nR,oY,bdi] at cm;have bc:=bZ5 (fun y=>gtB x y) qs;simp [cu,cm,bc]
def bZ8 (n:Int) (ws:List W) (_:aA):Prop:=∃ w,ws=[.d w]/\BadH n w
variable {S:Sx} {C J gI P:Addr} {b:Bool} {d:Nat} (TO:TopOk (TT b) S) (XE:Er S C J gI P)
include TO XE
def uG {n:Int} {f:Addr} {fd:FuncData} (F:Fun S.K "look_over" "look_over" sL f fd):FnR S (d+12) f fd (parsOf sL) C (some n) (bZ8 n):=by
 refine oH F (by kernel_rfl) (fun ws h ⟨w,e,_⟩=>by subst e;kernel_rfl) fun {A κ M h s L cd ws E} hr hp R Fr hps hE=>?_;obtain ⟨w,rfl,hb⟩:=hp;obtain ⟨l,hA⟩:=yS Fr;have G:=gR (st:=sL) (q:="look_over") (L:=L) (f:=f) (cd:=cd) (x:="look_over") TO (iR TO (d+11)) hr (fun _ z=>nomatch z);obtain ⟨p1,p2,p3,p4,p5,p6,k1,q4,q5,q6,q7,q8,q9,r4,r5,r6,r7,r8,r9,eb⟩:=bL;obtain ⟨ni,qi,fdi,Fi,bi⟩:=XE.fn;have gH:Gl (cxF S sL "look_over" L f cd A) "NoHistory":=show Env.kindOf _ _=_ by kernel_rfl
 have b1:fB (sLk 1)=[.If (cI ((fB (sLk 1)).getD 0 hW)) [.Raise (some (.Call (.Name "NoHistory" q4) [.Name "number" q5] [] q6)) none q7] [] q8]:=by
  show fB ((aV sL).getD 1 hW)=_;rw [eb];rfl
 have b2:fB (sLk 2)=[.If (cI ((fB (sLk 2)).getD 0 hW)) [.Raise (some (.Call (.Name "NoHistory" r4) [.Name "number" r5] [] r6)) none r7] [] r8]:=by
  show fB ((aV sL).getD 2 hW)=_;rw [eb];rfl
 have t1:=jC (aT 59) G (fB (sLk 1));have t2:=jC (aT 59) G (fB (sLk 2));have s1:dZ (fI (sLk 1))=false:=by kernel_rfl
 have s2:dZ (fI (sLk 2))=false:=by kernel_rfl
 have hd:cN (aY sL) [.d w]=[some (.d w),none,none,none]:=by kernel_rfl
 rw [hd] at Fr;have ea:∀ (m:Int) (x2 x3:Option W) (q:Pos),aR (evs 59) (stA b (d+11) "look_over" sL) [.Name "number" q] [some (.d w),some (.d (.int m)),x2,x3] h=some ([.d (.int m)],h):=fun m x2 x3 q=>by kernel_rfl
 -- raise NoHistory(number)
 have raise:∀ {m:Int} {x2 x3:Option W} {κ1:Kp} {M1:Mp} {s1:Shared} {p q r t:Pos},-1<=m/\m<=100->Mem S κ1 M1 h s1->Fra (cxF S sL "look_over" L f cd A) κ1 M1 [some (.d w),some (.d (.int m)),x2,x3]->Wp S (cxF S sL "look_over" L f cd A).A (execs [.Raise (some (.Call (.Name "NoHistory" p) [.Name "number" q] [] r)) none t] (cxF S sL "look_over" L f cd A).env) (fun _ _=>False) (Rz (cxF S sL "look_over" L f cd A) κ1 M1 h C (some m)) s1:=fun {m x2 x3 κ1 M1 s1 p q r t} hm R1 F1 =>
  bB (qC (k:=d+9) XE.O XE.Z Fi bC3 bi G.rm (bR (aT 59) G _) (by decide) gH hA rfl R1 F1 (ea m x2 x3 q) hm)
 rw [eb]
 -- the first condition
 have first:∀ xs:List PyData,w=.tuple xs->xs.length<=60->(evs 60).S (stA b (d+11) "look_over" sL) (.If (cI (sLk 0)) [.Raise (some (.Call (.Name "NoHistory" p1) [.UnaryOp .USub (.Constant (.int 1) k1 p2) p3] [] p4)) none p5] [] p6) [some (.d w),none,none,none] h=some (.nx [some (.d w),none,none,none],h):=fun xs e hl=>by
  show ((evs 59).T (stA b (d+11) "look_over" sL) (cI (sLk 0)) [some (.d w),none,none,none] h).bind _=_;have n60:¬ (60:Int) < xs.length:=by omega
  rw [r0,e];simp [isi,fS,n60];rfl
 cases hb with
 | form hx =>
  have c0:(evs 59).T (stA b (d+11) "look_over" sL) (cI (sLk 0)) [some (.d w),none,none,none] h=some (true,h):=by
   rw [r0];cases w with
   | none=>simp [isi,fS]
   | list xs=>simp [isi,fS]
   | tuple xs =>
    have:(60:Int) < xs.length:=by simp only [bZ6,decide_eq_true_eq] at hx;omega
    simp [isi,fS,this]
   | _=>cases hx
  refine wpAny_mono (bB (aM4 (aT 59) G R Fr c0 fun R1 F1=>bB (qC (k:=d+9) XE.O XE.Z Fi bC3 bi G.rm (bR (aT 59) G _) (by decide) gH hA rfl R1 F1 (show aR (evs 59) (stA b (d+11) "look_over" sL) [.UnaryOp .USub (.Constant (.int 1) k1 p2) p3] [some (.d w),none,none,none] h=some ([.d (.int (-1))],h) by kernel_rfl) (by omega)))) (fun _ _ z=>z) hE
 | deed ok hl hnd =>
  rename_i hs x;obtain ⟨xs,hxs⟩:∃ xs,xs=hs.map Dd.dat++[x]:=⟨_,rfl⟩;rw [<- hxs] at Fr raise first
  have lx:xs.length=hs.length+1:=by rw [hxs];simp
  refine rP (aT 60) G R Fr (first _ rfl (by omega)) fun o1 l1 R1 F1=>?_;have le:(bK xs).length=xs.length:=by have:=rR xs;exact (this 0 (by rw [show (bK xs).length=xs.length from by unfold bK;rw [jR];simp];omega)).2
  refine bB (aM7 (n:=some (hs.length:Int)) (P:=fun δ=>∃ x3,δ=[some (.d (.tuple xs)),some (.d (.int hs.length)),some (.d x),x3]) G.rm.hd hps (iM (aT 59) G _ _) ((aT 59).G G _) (aN1 b1 t1) (fG s1 _) R1 F1 (show fP (evs 59) _ _ _ _ h=some ((bK xs,none),h) by rw [rI1];rfl) ?_ (fun ex s' z=>hE ex s' ((z.own o1).go l1)) fun {κ2 M2 s2 δ2} R2 F2 hP=>?_)
  ·have:=rQ (g:=(evs 59).G (stA b (d+11) "look_over" sL) (fT (sLk 1))) (tb:=xSs (evs 59) (stA b (d+11) "look_over" sL) (fB (sLk 1))) (all:=bK xs) (P:=fun δ=>∃ x3,δ=[some (.d (.tuple xs)),some (.d (.int hs.length)),some (.d x),x3]) (h:=h) (fun i δ=>∃ x1 x2 x3,δ=[some (.d (.tuple xs)),x1,x2,x3]) hs.length (by rw [le];omega) (fun i hi δ hδ=>?_) (fun δ hδ=>?_) hs.length 0 rfl [some (.d (.tuple xs)),none,none,none] ⟨none,none,none,rfl⟩
   ·exact this
   ·obtain ⟨x1,x2,x3,rfl⟩:=hδ;have cd:=kJ (bm:=b) (d+1) h (gD hs i) (ok _ (gD_mem hi));have ex:xs.getD i .none=(gD hs i).dat:=by rw [hxs];unfold List.getD;rw [List.getElem?_append_left (by simpa using hi)];simp [gD,List.getD,hi]
    refine ⟨[some (.d (.tuple xs)),some (.d (.int i)),some (.d (gD hs i).dat),x3],?_,[some (.d (.tuple xs)),some (.d (.int i)),some (.d (gD hs i).dat),x3],?_,_,_,_,rfl⟩
    ·rw [(rR xs i _).1,ex,rG1];simp [bH,dX]
    ·rw [r1b];simp [cd]
   ·obtain ⟨x1,x2,x3,rfl⟩:=hδ;have ex:xs.getD hs.length .none=x:=by rw [hxs];simp [List.getD]
    refine ⟨[some (.d (.tuple xs)),some (.d (.int hs.length)),some (.d x),x3],?_,_,rfl⟩;rw [(rR xs _ _).1,ex,rG1];simp [bH,dX]
  ·obtain ⟨x3,rfl⟩:=hP;have cd:=hnd b (d+1) h;refine bB (aM4 (aT 59) G R2 F2 (b:=true) ?_ fun R3 F3=>raise (by omega) R3 F3);rw [r1];simp [cd]
 | two ok hl hn hj bad fst =>
  rename_i hs n j;obtain ⟨ht,eht⟩:∃ ht,ht=PyData.tuple (hs.map Dd.dat):=⟨_,rfl⟩;rw [<- eht] at Fr raise first hd
  have xe:iW (.d ht) h=some (((List.range hs.length).map (nmD hs),none),h):=by rw [eht,rF,rN]
  refine rP (aT 60) G R Fr (first _ eht (by simpa using hl)) fun o1 l1 R1 F1=>?_;have p1:∃ δ',(evs 60).S (stA b (d+11) "look_over" sL) (.For (fT (sLk 1)) (fI (sLk 1)) [.If (cI ((fB (sLk 1)).getD 0 hW)) [.Raise (some (.Call (.Name "NoHistory" q4) [.Name "number" q5] [] q6)) none q7] [] q8] [] q9) [some (.d ht),none,none,none] h=some (.nx δ',h)/\∃ x1 x2 x3,δ'=[some (.d ht),x1,x2,x3]:=by
   rw [<- b1];show ∃ δ',(if dZ (fI (sLk 1))=true then fun _ _=>none else fun δ h=>(fP (evs 59) (stA b (d+11) "look_over" sL) (fT (sLk 1)) (fI (sLk 1)) δ h).bind fun p=>bY ((evs 59).G (stA b (d+11) "look_over" sL) (fT (sLk 1))) (xSs (evs 59) (stA b (d+11) "look_over" sL) (fB (sLk 1))) p.1.2 p.1.1 p.1.1 δ p.2:XS) [some (.d ht),none,none,none] h=_/\_;rw [if_neg (by rw [s1];decide)];have xi:fP (evs 59) (stA b (d+11) "look_over" sL) (fT (sLk 1)) (fI (sLk 1)) [some (.d ht),none,none,none] h=some (((List.range hs.length).map (nmD hs),none),h):=by rw [rI1];exact xe
   rw [xi,rG1];have:∃ δ' h',bY (bH [YG 1,YG 2]) (xSs (evs 59) (stA b (d+11) "look_over" sL) (fB (sLk 1))) none ((List.range hs.length).map (nmD hs)) ((List.range hs.length).map (nmD hs)) [some (.d ht),none,none,none] h=some (.nx δ',h')/\((∃ x1 x2 x3,δ'=[some (.d ht),x1,x2,x3])/\h'=h):=by
    refine eY (fun δ H=>(∃ x1 x2 x3,δ=[some (.d ht),x1,x2,x3])/\H=h) _ ?_ _ _ ⟨⟨_,_,_,rfl⟩,rfl⟩;rintro x hx δ H ⟨⟨x1,x2,x3,rfl⟩,rfl⟩;obtain ⟨i,hi,rfl⟩:=List.mem_map.mp hx;have hi:=List.mem_range.mp hi;have cd:=kJ (bm:=b) (d+1) H (gD hs i) (ok _ (gD_mem hi));refine ⟨[some (.d ht),some (.d (.int i)),some (.d (gD hs i).dat),x3],H,by simp [nmD,bH,dX],[some (.d ht),some (.d (.int i)),some (.d (gD hs i).dat),x3],H,?_,⟨_,_,_,rfl⟩,rfl⟩;rw [r1b];simp [cd]
   obtain ⟨δ',_,e,q,rfl⟩:=this;exact ⟨δ',e,q⟩
  obtain ⟨_,e1,x1,x2,x3,rfl⟩:=p1;refine rP (aT 60) G R1 F1 e1 fun o2 l2 R2 F2=>?_;have cnd:∀ (i:Nat) (hi:i < hs.length) (x2:Option W),(YNt (xb (YK1 iG (aN (xb (bC (xb (aE 0) (YSl (aF none) (xb (aE 1) YU)))) (YCp (YG 0) (aF true) (YF2 b (d+11) "go_together" (aE 1) (aE 0)) [none,some 3])))) YD)) [some (.d ht),some (.d (.int i)),x2,some (.d (gD hs i).dat)] h=some (!((hs.take i).all fun y=>gtB (gD hs i) y),h):=fun i hi x2=>bZ7 (d+1) h eht hi x2;refine bB (aM7 (n:=some (n:Int)) (P:=fun δ=>∃ x2,δ=[some (.d ht),some (.d (.int n)),x2,some (.d (gD hs n).dat)]) G.rm.hd hps (iM (aT 59) G _ _) ((aT 59).G G _) (aN1 b2 t2) (fG s2 _) R2 F2 (show fP (evs 59) _ _ _ _ h=some (((List.range hs.length).map (nmD hs),none),h) by rw [rI2];exact xe) ?_ (fun ex s' z=>hE ex s' ((z.own (o1.trans o2)).go (l1.trans l2))) fun {κ2 M2 s2 δ2} R3 F3 hP=>?_)
  ·have:=rQ (g:=(evs 59).G (stA b (d+11) "look_over" sL) (fT (sLk 2))) (tb:=xSs (evs 59) (stA b (d+11) "look_over" sL) (fB (sLk 2))) (all:=(List.range hs.length).map (nmD hs)) (P:=fun δ=>∃ x2,δ=[some (.d ht),some (.d (.int n)),x2,some (.d (gD hs n).dat)]) (h:=h) (fun i δ=>∃ x1 x2 x3,δ=[some (.d ht),x1,x2,x3]) n (by simpa using hn) (fun i hi δ hδ=>?_) (fun δ hδ=>?_) n 0 rfl [some (.d ht),x1,x2,x3] ⟨_,_,_,rfl⟩
   ·exact this
   ·obtain ⟨x1,x2,x3,rfl⟩:=hδ;have al:((hs.take i).all fun y=>gtB (gD hs i) y)=true:=List.all_eq_true.mpr fun y hy=>by
     obtain ⟨k,hk,rfl⟩:=List.getElem_of_mem hy;rw [List.length_take] at hk;rw [List.getElem_take];have:=fst i k hi (by omega)
     rwa [kK (show k < hs.length by omega)]
    refine ⟨[some (.d ht),some (.d (.int i)),x2,some (.d (gD hs i).dat)],?_,[some (.d ht),some (.d (.int i)),x2,some (.d (gD hs i).dat)],?_,_,_,_,rfl⟩
    ·rw [rG2];simp [nmD,bH,dX]
    ·rw [r2b];have:=cnd i (by omega) x2;rw [al] at this;show YP (YP (YNt _ _ h) _) YE=_;rw [this];rfl
   ·obtain ⟨x1,x2,x3,rfl⟩:=hδ;refine ⟨[some (.d ht),some (.d (.int n)),x2,some (.d (gD hs n).dat)],?_,_,rfl⟩;rw [rG2];simp [nmD,bH,dX]
  ·obtain ⟨x2,rfl⟩:=hP;have al:((hs.take n).all fun y=>gtB (gD hs n) y)=false:=List.all_eq_false.mpr ⟨gD hs j,by
    rw [<- kK (show j < hs.length by omega)];exact List.mem_take_iff_getElem.mpr ⟨j,by omega,rfl⟩,by rw [bad];decide⟩
   refine bB (aM4 (aT 59) G R3 F3 (b:=true) ?_ fun R4 F4=>raise (by omega) R4 F4);rw [r2];have:=cnd n hn x2;rw [al] at this;exact this
end K61

namespace K61
open PySem PySem.Spec PyProof.Rows L2 DL CI SJ
abbrev sG:Stmt:=top 89
abbrev sP:Stmt:=top 90
abbrev sA:Stmt:=top 104
theorem dLo:T.defs "look_over"=some sL:=by kernel_rfl
theorem dG:T.defs "pieces"=some sG:=by kernel_rfl
theorem dA:T.defs "_law_at"=some sA:=by kernel_rfl
def bG:∃ p1 p2 p3 p4 r,aV sG=.Expr (.Call (.Name "look_over" p1) [.Name "history" p2] [] p3) p4::r:=⟨_,_,_,_,_,rfl⟩
noncomputable def tB:Stmt->List Stmt
 | .Try b _ _ _ _=>b
 | _=>[]
theorem dP:T.defs "in_pieces"=some sP:=by kernel_rfl
variable {S:Sx} {C J gI P:Addr} {d:Nat} (TO:TopOk T S) (XE:Er S C J gI P)
include TO XE
def aN2 {n:Int} {f:Addr} {fd:FuncData} (F:Fun S.K "pieces" "pieces" sG f fd):FnR S (d+13) f fd (parsOf sG) C (some n) (bZ8 n):=by
 refine oH F (by kernel_rfl) (fun ws h ⟨w,e,_⟩=>by subst e;kernel_rfl) fun {A κ M h s L cd ws E} hr hp R Fr hps hE=>?_;obtain ⟨w,rfl,hb⟩:=hp;obtain ⟨l,hA⟩:=yS Fr;have G:=gR (st:=sG) (q:="pieces") (L:=L) (f:=f) (cd:=cd) (x:="pieces") TO (iR TO (d+12)) hr (fun _ z=>nomatch z);obtain ⟨p1,p2,p3,p4,r,eb⟩:=bG;obtain ⟨fc,fdc,Fc,mc,bc⟩:=TO.defs _ _ dLo;have hd:cN (aY sG) [.d w]=[some (.d w),none,none,none,none]:=by kernel_rfl
 rw [hd] at Fr;have gH:Gl (cxF S sG "pieces" L f cd A) "look_over":=show Env.kindOf _ _=_ by kernel_rfl
 rw [eb];exact wpAny_mono (bB (lR Fr (dF rfl _ _ _) (wpAny_mono (jU (uG (d:=d) TO XE Fc) G.rm mc Fc.kp bc (bR (aT 59) G _) (by decide) gH hA (by kernel_rfl) R Fr (show _=some ([.d w],h) by kernel_rfl) ⟨w,rfl,hb⟩) (fun _ _ z=>z) fun ex s' z=>z.rz Fr))) (fun _ _ z=>z) hE
end K61

namespace DL
open PySem PySem.Spec PyProof.Rows L2 CI
section
variable {X:Cx} {κ:Kp} {M:Mp} {h h':aA} {s:Shared} {δ:DSt} {x n c:Str} {C CJ ea:Addr} {oe:Obj} {A:Around} {E:Value->Shared->Prop} {i:Nat} {u cu:Value} {b:Bool} {p p1 pc pos:Pos}
def bM9 (F:Fra X κ M δ) (R:Mem X.S κ M h s) (U:Lk X κ n (.ref ea)) (zo:M.Z ea=some oe) (hcl:oe.cls=.ref C) (Z:XCls X.S.K C) (hi:Gl X "isinstance") (mi:X.S.mg "isinstance"=none) (hk:X.env.scope.names.lookup n=some .local) (hn:aW n=true) (hc:Gl X c) (nc:aW c=true) (mc:X.S.mg c=none) (hv:bootBuiltins c=some u) (e:PySem.W.kitOne X.S.K (.ref C) u=some b) :
  Wp X.S A (eval (.Call (.Name "isinstance" p) [.Name n p1,.Name c pc] [] pos) X.env) (Qs X κ M h b) E s:=by
 refine wpAny_Call_Name_kw (rO (u:=.builtin "isinstance") F R hi mi (by decide +kernel) (by decide +kernel) ?_);refine PyProof.Rows.callWith_builtin1 ?_ (bE (.Name n p1) rfl) (cK pos [.Name c pc] rfl);rw [bE (.Name n p1) rfl];show Wp _ _ (spliced ((false,eval (.Name n p1) X.env)::backTo pos (starEach [.Name c pc] X.env))) _ _ s;refine Calls.spliced_cons (oJ F R U hk hn ?_);rw [bE (X:=X) (es:=[]) (.Name c pc) rfl];show Wp _ _ (spliced ((false,eval (.Name c pc) X.env)::[])) _ _ s;refine Calls.spliced_cons (rO F R hc mc hv nc (Calls.spliced_nil ?_));exact PySem.W.kia_one (uB PySem.F.excAttr_ValueError.ga Z hcl) (F.kin.keeps R.bk) (R.z _ _ zo) e (fun z=>nomatch z) fun tk=>⟨rfl,M,.refl,R.tok tk⟩
def aX7 {a b c:Expr} {k} {Q:Value->Shared->Prop} (ha:aK a=true) (hb:aK b=true) (hc:aK c=true)
  (q:Wp X.S A (eval a X.env) (fun u s1=>Wp X.S A (eval b X.env) (fun v s2=>Wp X.S A (eval c X.env) (fun z s3=>3<=sizeLine/\Q (.ref s3.heap.objs.size) { s3 with heap:=s3.heap.push { cls:=.type "tuple",data:=.seq [u,v,z].toArray } }) E s2) E s1) E s) :
  Wp X.S A (eval (.Tuple [a,b,c] k pos) X.env) Q E s:=by
 refine wpAny_Tuple_spliced ?_;rw [bE a ha];show Wp _ _ (spliced ((false,eval a X.env)::backTo pos (starEach [b,c] X.env))) _ _ s;refine Calls.spliced_cons (wpAny_mono q (fun u s1 q=>?_) fun _ _ z=>z);rw [bE b hb];show Wp _ _ (spliced ((false,_)::backTo pos (starEach [c] X.env))) _ _ s1;refine Calls.spliced_cons (wpAny_mono q (fun v s2 q=>?_) fun _ _ z=>z);rw [bE (X:=X) (es:=[]) c hc];show Wp _ _ (spliced ((false,_)::[])) _ _ s2;exact Calls.spliced_cons (wpAny_mono q (fun z s3 q=>Calls.spliced_nil q) fun _ _ z=>z)
end
end DL
namespace K61
open PySem PySem.Spec PyProof.Rows L2 DL CI SJ
noncomputable def els:Stmt->List Stmt
 | .If _ _ b _=>b
 | _=>[]
def iA:Stmt:=(tB ((aV sA).getD 0 hW)).getD 0 hW
def cA:Expr:=cI iA
def cB:Expr:=cI ((els iA).getD 0 hW)
def bA:∃ i1 i2 i3 i4 k1 k2 k3 k4 k5 k6 j1 j2 j3 j4 q2 q1 h1 h2 a1 a2 b1 b2 b3 b4 c1 c2 c3 c4 k t1 t2 r,aV sA=.Try [.If cA [.Expr (.Call (.Name "pieces" i1) [.Name "_law_thing" i2] [] i3) i4] [.If cB [.Expr (.Call (.Name "in_pieces" k1) [.Name "_law_thing" k2,.Constant (.int 50) k3 k4] [] k5) k6] [.Expr (.Call (.Name "look_over" j1) [.Name "_law_thing" j2] [] j3) j4] q2] q1]
  [.ExceptHandler (some (.Name "NoHistory" h1)) (some "e") [.Return (some (.Tuple [.Attribute (.Name "e" a1) "at" a2,.Call (.Name "isinstance" b1) [.Name "e" b2,.Name "ValueError" b3] [] b4,.Call (.Name "isinstance" c1) [.Name "e" c2,.Name "NoProblem" c3] [] c4] k t1)) t2] h2] [] [] r::(aV sA).drop 1:=⟨_,_,_,_,_,_,_,_,_,_,_,_,_,_,_,_,_,_,_,_,_,_,_,_,_,_,_,_,_,_,_,_,rfl⟩
def rA (d:Nat) (δ:DSt) (h:aA):(evs 59).T (stA false d "_law_at" sA) cA δ h=xC1 CmpOp.Eq (aE 1) (YJ 0) δ h:=by kernel_rfl
def rB (d:Nat) (δ:DSt) (h:aA):(evs 59).T (stA false d "_law_at" sA) cB δ h=xC1 CmpOp.Eq (aE 1) (YJ 1) δ h:=by kernel_rfl
def cO6 (n:Int) (ws:List W) (_:aA):Prop:=∃ w,ws=[.d w,.d (.int 50)]/\BadH n w
def aN3 (S:Sx) (C:Addr) (k:Nat):Prop:=∀ (n:Int) (f:Addr) (fd:FuncData),Fun S.K "in_pieces" "in_pieces" sP f fd->FnR S k f fd (parsOf sP) C (some n) (cO6 n)
noncomputable def aD (n:Int):PyData:=.tuple [.int n,.bool true,.bool false]
def atB (n:Int) (w:PyData):XS:=fun δ h=>match δ with
 | [some (.d x),some (.d (.int a)),_]=>if (CI.peq x w&&(a==0||(a==1||a==2)))=true then some (.rt (.d (aD n)),h) else none
 | _=>none
def bN0 {n:Int} {w:PyData} {δ:DSt} {h h':aA} {fl:Fl} (e:atB n w δ h=some (fl,h')):∃ a y,(a=0\/a=1\/a=2)/\δ=[some (.d w),some (.d (.int a)),y]/\fl=.rt (.d (aD n))/\h'=h:=by
 unfold atB at e;split at e
 ·rename_i x a y;obtain ⟨q,e⟩:=aI e;simp only [Bool.and_eq_true,Bool.or_eq_true,beq_iff_eq] at q;cases e;exact ⟨a,y,q.2,by rw [vB q.1],rfl,rfl⟩
 ·cases e
variable {S:Sx} {C J gI P:Addr} {d:Nat} (TO:TopOk T S) (XE:Er S C J gI P)
include TO XE
def bZ9 (ip:aN3 S C (d+14)) {n:Int} {w:PyData} (hb:BadH n w) {f:Addr} {fd:FuncData} (F:Fun S.K "_law_at" "_law_at" sA f fd):FnS S (d+15) f fd (parsOf sA) (toW (tC sA (atB n w))):=by
 refine aK4 F fun {A L} hr=>?_;intro κ M δ h s fl h' R Fr e;obtain ⟨a,y,ha,rfl,rfl,rfl⟩:=bN0 e;obtain ⟨l,hA⟩:=yS Fr;have G:=gR (st:=sA) (q:="_law_at") (L:=L) (f:=f) (cd:=fd.code) (x:="_law_at") TO (iR TO (d+14)) hr (fun _ z=>nomatch z);obtain ⟨i1,i2,i3,i4,k1,k2,k3,k4,k5,k6,j1,j2,j3,j4,q2,q1,h1,h2,a1,a2,b1,b2,b3,b4,c1,c2,c3,c4,k,t1,t2,r,eb⟩:=bA;obtain ⟨fc,fdc,Fc,mc,bc⟩:=TO.defs _ _ dLo;obtain ⟨fg,fdg,Fg,mg,bg⟩:=TO.defs _ _ dG;obtain ⟨fp,fdp,Fp,mp,bp⟩:=TO.defs _ _ dP;have gL:Gl (cxF S sA "_law_at" L f fd.code A) "look_over":=show Env.kindOf _ _=_ by kernel_rfl
 have gG:Gl (cxF S sA "_law_at" L f fd.code A) "pieces":=show Env.kindOf _ _=_ by kernel_rfl
 have gI:Gl (cxF S sA "_law_at" L f fd.code A) "in_pieces":=show Env.kindOf _ _=_ by kernel_rfl
 have gH:Gl (cxF S sA "_law_at" L f fd.code A) "NoHistory":=show Env.kindOf _ _=_ by kernel_rfl
 have gV:Gl (cxF S sA "_law_at" L f fd.code A) "ValueError":=show Env.kindOf _ _=_ by kernel_rfl
 have gP:Gl (cxF S sA "_law_at" L f fd.code A) "NoProblem":=show Env.kindOf _ _=_ by kernel_rfl
 have gi:Gl (cxF S sA "_law_at" L f fd.code A) "isinstance":=show Env.kindOf _ _=_ by kernel_rfl
 have hi:(cxF S sA "_law_at" L f fd.code A).N[2]?=some ("e":Str):=show (aY sA)[2]?=some ("e":Str) by kernel_rfl
 have hk:(cxF S sA "_law_at" L f fd.code A).env.scope.names.lookup ("e":Str)=some .local:=show (defScope sA).names.lookup _=_ by kernel_rfl
 have mi:S.mg "isinstance"=none:=TO.bl _ (by kernel_rfl);rw [eb];refine wpAny_execs_cons (aX5 (C:=C) (nA:=some n) (h':=h') (L:=L) Fr ?_ rfl fun {M1 s1 ea} l1 Y=>?_)
 ·rcases ha with rfl | rfl | rfl
  ·refine bB (uE (aT 59) G R Fr (h1:=h') (b:=true) (by rw [rA];simp [xEq,ref,PyData.eqv]) fun R1 F1=>?_);exact bB (lR F1 (dF rfl _ _ _) (jU (aN2 (d:=d+1) TO XE Fg) G.rm mg Fg.kp bg (bR (aT 59) G _) (by decide) gG hA (by kernel_rfl) R1 F1 (show _=some ([.d w],h') by kernel_rfl) ⟨w,rfl,hb⟩))
  ·refine bB (uE (aT 59) G R Fr (h1:=h') (b:=false) (by rw [rA];simp [xEq,ref,PyData.eqv]) fun R1 F1=>bB (uE (aT 59) G R1 F1 (h1:=h') (b:=true) (by rw [rB];simp [xEq,ref,PyData.eqv]) fun R2 F2=>?_));exact bB (lR F2 (dF rfl _ _ _) (jU (ip n fp fdp Fp) G.rm mp Fp.kp bp (bR (aT 59) G _) (by decide) gI hA (by kernel_rfl) R2 F2 (show _=some ([.d w,.d (.int 50)],h') by kernel_rfl) ⟨w,rfl,hb⟩))
  ·refine bB (uE (aT 59) G R Fr (h1:=h') (b:=false) (by rw [rA];simp [xEq,ref,PyData.eqv]) fun R1 F1=>bB (uE (aT 59) G R1 F1 (h1:=h') (b:=false) (by rw [rB];simp [xEq,ref,PyData.eqv]) fun R2 F2=>?_));exact bB (lR F2 (dF rfl _ _ _) (jU (uG (d:=d+2) TO XE Fc) G.rm mc Fc.kp bc (bR (aT 59) G _) (by decide) gL hA (by kernel_rfl) R2 F2 (show _=some ([.d w],h') by kernel_rfl) ⟨w,rfl,hb⟩))
 refine aX6 Y XE.O.bound XE.eH (by decide) gH hi hk (h2:=h') fun {κ1 M2 s2 oe vs} o1 l2 R2 F2 lk zo hcl hk1 hv hat=>?_;obtain ⟨D,oD,q1,q2,q3⟩:=hat n rfl;refine wpAny_execs_cons (wpAny_Return_some (aX7 rfl rfl rfl (bZ3 F2 R2 lk zo hcl hv q1 q2 q3 XE.XC XE.Z.Y hk (by decide +kernel) fun t tk=>?_)));refine wpAny_mono (bM9 (h:=h') F2 (R2.tok tk) lk zo hcl XE.XC gi mi hk (by decide +kernel) gV (by decide +kernel) XE.mV (by decide +kernel) XE.kV) (fun v s4 q4=>?_) fun _ _ z=>z;obtain ⟨rfl,M4,l4,R4⟩:=q4;refine wpAny_mono (bM8 (h:=h') (F2.go l4) R4 lk (l4.z _ _ zo) hcl XE.XC gi mi hk (by decide +kernel) gP (by decide +kernel) XE.mP XE.kP) (fun v s5 q5=>?_) fun _ _ z=>z;obtain ⟨rfl,M5,l5,R5⟩:=q5;refine ⟨show 3<=sizeLine by decide,?_⟩;obtain ⟨M6,l6,R6,r6⟩:=R5.tup (xs:=[.int n,.bool true,.bool false]) (us:=[.int n t,.bool true,.bool false]) (t:=s5.toks) (.cons (rep_i.mpr ⟨t,rfl⟩) (.cons (rep_b.mpr rfl) (.cons (rep_b.mpr rfl) .nil))) (show 3<=sizeLine by decide);exact ⟨κ1,M6,_,o1,l2.trans (l4.trans (l5.trans l6)),R6,F2.go (l4.trans (l5.trans l6)),fun {κ3 s3} o3 R3 F3=>⟨κ3,M6,o3,l1.trans (l2.trans (l4.trans (l5.trans l6))),R3,r6⟩⟩
end K61

namespace K61
open PySem PySem.Spec PyProof.Rows L2 DL CI SJ
def yT (S:List Int) (k:Nat):∃ z:Int,∀ (d:Nat) (h:aA),aG T (d+1) "_law_draw" [.d (.list (S.map .int)),.d (.int k)] h=some (.int z,h):=by
 have e1:bS 1009=true:=by decide
 have e2:bS 2003=true:=by decide
 have e3:bS 30=true:=by decide
 have e4:pG 2 32=true:=by decide
 have h0:=gX (i:=7919) (by decide) (by decide) k;have h9:=gX (i:=32) (by decide) (by decide) ((k:Int)%30);have mx:∀ c:Int,∃ x y:Int,x=(c+7919*k+1)*48271%2147483647/\y=x*(x / 1009+69621)%2147483647/\dK (c+7919*k+1) 48271=true/\dK x (x / 1009+69621)=true/\dK y (y / 2003+40692)=true:=fun c=>by
  obtain ⟨x,hx⟩:∃ x,x=(c+7919*k+1)*48271%2147483647:=⟨_,rfl⟩;obtain ⟨y,hy⟩:∃ y,y=x*(x / 1009+69621)%2147483647:=⟨_,rfl⟩;exact ⟨x,y,hx,hy,aV9 (by decide) (by decide) _,gX (by omega) (by omega) _,gX (by rw [hy];have:=Int.emod_nonneg (x*(x / 1009+69621)) (b:=2147483647) (by decide);omega) (by rw [hy];have:=Int.emod_lt_of_pos (x*(x / 1009+69621)) (b:=2147483647) (by decide);omega) _⟩
 have cmp:∀ {a b:PyData},∀ H,aM 64 a=true->aM 64 b=true->xEq (.d a) (.d b) H=some (PyData.eqv a b):=fun {a b} H p q=>by
  simp [xEq,ref,p,q]
 have np:aM 64 (.list [])=true:=rfl;have sp:aM 64 (PyData.list (S.map .int))=true:=by
  show plainsB 63 _=true;exact hO S 63
 cases hS:S with
 | nil =>
  obtain ⟨x,y,hx,hy,m1,m2,m3⟩:=mx 0;refine ⟨y*(y / 2003+40692)%2147483399,fun d h=>?_⟩;have c0:=cmp (a:=.list []) (b:=.list []) h rfl rfl;simp only [List.map_nil];have hx':(7919*(k:Int)+1)*48271%2147483647=x:=by rw [hx];simp
  have m1':dK (7919*(k:Int)+1) 48271=true:=by simpa using m1
  simp [cP,c0,PyData.eqv,PyData.eqvAll,e1,e2,e3,e4,h0,m1',hx',m2,<- hy,m3]
 | cons a r =>
  have hne:PyData.eqv (PyData.list (S.map .int)) (.list [])=false:=by rw [hS];simp [PyData.eqv,PyData.eqvAll]
  have c0:∀ H,xEq (.d (PyData.list (S.map .int))) (.d (.list [])) H=some false:=fun H=>by rw [cmp H sp np,hne]
  have hl:0 < S.length:=by rw [hS];simp
  have a0:atI (S.map PyData.int) 0=some (.int (S.getD 0 0)):=jQ (i:=0) hl;have am:atI (S.map PyData.int) ((k:Int)%(S.length:Int))=some (.int (S.getD (k%S.length) 0)):=by
   have:=jQ (ns:=S) (i:=k%S.length) (Nat.mod_lt _ hl);rw [<- this]
   congr 1
  have pl:(0:Int) < S.length:=by omega
  rw [<- hS];obtain ⟨sd,esd⟩:∃ sd,sd=S.map PyData.int:=⟨_,rfl⟩;have sl:sd.length=S.length:=by rw [esd];simp
  rw [<- esd] at c0 a0 am ⊢;generalize S.getD 0 0=z0 at *;generalize S.getD (k%S.length) 0=zm at *;have tail:∃ x y:Int,x=(zm+7919*k+1)*48271%2147483647/\y=x*(x / 1009+69621)%2147483647/\dK (zm+7919*k+1) 48271=true/\dK x (x / 1009+69621)=true/\dK y (y / 2003+40692)=true:=mx zm;obtain ⟨x,y,hx,hy,m1,m2,m3⟩:=tail
  by_cases c1:z0%2=1
  ·by_cases c2:1+k / 30 < S.length
   ·have ak:atI sd (1+(k:Int) / 30)=some (.int (S.getD (1+k / 30) 0)):=by
     rw [esd];have:=jQ (ns:=S) (i:=1+k / 30) c2;rw [<- this]
     congr 1
    have c2':(1+(k:Int) / 30) < S.length:=by omega
    obtain ⟨g,hg⟩:∃ g,g=S.getD (1+k / 30) 0 / 2^(32*((k:Int)%30)).toNat:=⟨_,rfl⟩;have sh:∀ H,fV .RShift (.d (.int (S.getD (1+k / 30) 0))) (.d (.int (32*((k:Int)%30)))) H=some (.d (.int g),H):=fun H=>by
     have p0:(0:Int)<=32*((k:Int)%30):=by omega
     rw [hg];exact (if_pos p0:(if (0:Int)<=(32*((k:Int)%30)) then some (W.d (.int (S.getD (1+k / 30) 0 / 2^(32*((k:Int)%30)).toNat)),H) else none)=_)
    generalize S.getD (1+k / 30) 0=zk at *
    by_cases c3:g=0
    ·subst c3;exact ⟨y*(y / 2003+40692)%2147483399,fun d h=>by simp [cP,c0,a0,c1,sl,c2',ak,e1,e2,e3,e4,h0,h9,sh,am,pl,hl,m1,<- hx,m2,<- hy,m3]⟩
    ·by_cases c4:g=-1
     ·subst c4;exact ⟨y*(y / 2003+40692)%2147483399,fun d h=>by simp [cP,c0,a0,c1,sl,c2',ak,e1,e2,e3,e4,h0,h9,sh,am,pl,hl,m1,<- hx,m2,<- hy,m3]⟩
     ·exact ⟨g%4294967296,fun d h=>by simp [cP,c0,a0,c1,sl,c2',ak,e1,e2,e3,e4,h0,h9,sh,c3,c4]⟩
   ·have c2':¬ (1+(k:Int) / 30) < S.length:=by omega
    exact ⟨y*(y / 2003+40692)%2147483399,fun d h=>by simp [cP,c0,a0,c1,sl,c2',e1,e2,e3,e4,h0,h9,am,pl,hl,m1,<- hx,m2,<- hy,m3]⟩
  ·exact ⟨y*(y / 2003+40692)%2147483399,fun d h=>by simp [cP,c0,a0,c1,sl,e1,e2,e3,e4,h0,h9,am,pl,hl,m1,<- hx,m2,<- hy,m3]⟩
def drF (S:List Int) (k:Nat):Int:=Classical.choose (yT S k)
def wR (d:Nat) (h:aA) (S:List Int) (k:Nat):aG T (d+1) "_law_draw" [.d (.list (S.map .int)),.d (.int k)] h=some (.int (drF S k),h):=Classical.choose_spec (yT S k) d h
noncomputable def kyF (n:Int):Nat:=(n / 8%3).toNat
def plF (n:Int):One:=if n%4=0 then .read (kyF n) else if n%4=1 then .write (kyF n) (n / 64%3) else if n%4=2 then .add (kyF n) (n / 64%3 - 1) else .swap (kyF n) (n / 64%3) (n / 256%3)
def aN4 (n:Int):kyF n < 8:=by unfold kyF;omega
def bC4 (n:Int):(plF n).ok:=by
 unfold plF;split
 ·exact aN4 n
 split
 ·exact aN4 n
 split<;>exact aN4 n
def cA0 (n:Int):PyData.int (n / 8%3)=.int (kyF n):=by unfold kyF;congr 1;omega
def aX8 (d:Nat) (h:aA) (n:Int):aG T (d+1) "_law_plain_call" [.d (.int n)] h=some ((plF n).dat,h):=by
 have e1:bS 8=true:=by decide
 have e2:bS 64=true:=by decide
 have e3:bS 256=true:=by decide
 have k1:=cA0 n;generalize hk:(PyData.int (kyF n))=kd at k1;unfold plF;have:n%4=0\/n%4=1\/n%4=2\/n%4=3:=by omega
 rcases this with z | z | z | z<;>simp [jO,e1,e2,e3,aN,k1,z,One.dat,szl,hk]
def clF (n:Int):SJ.Call :=
 if n%8 < 6 then .one (plF (n / 8))
 else if n%8=6 then .span (n / 8%3).toNat (n / 8%3+1+n / 64%2).toNat
 else .deal ((List.range (1+n / 8%3).toNat).map fun (j:Nat)=>plF (n / (64+5*j)))
def cA1 (n:Int):(clF n).ok:=by
 unfold clF;split
 ·exact bC4 _
 split
 ·exact ⟨by omega,by omega⟩
 ·refine ⟨by simp;omega,by simp;omega,fun o ho=>?_⟩;obtain ⟨j,_,rfl⟩:=List.mem_map.mp ho;exact bC4 _
def bN1 (d:Nat) (h:aA) (n:Int):aG T (d+2) "_law_call" [.d (.int n)] h=some ((clF n).dat,h):=by
 have e1:bS 8=true:=by decide
 have e2:bS 64=true:=by decide
 have pl:=fun n=>aX8 d h n;rw [show d+2=(d+1)+1 from rfl];unfold clF
 by_cases c1:n%8 < 6
 ·simp [gB,e1,e2,c1,pl,Call.dat]
 by_cases c2:n%8=6
 ·simp only [c1,c2,if_true,if_false,Call.dat];have n1:n / 8%3=(((n / 8%3).toNat:Nat):Int):=by omega
  have n2:n / 8%3+1+n / 64%2=(((n / 8%3+1+n / 64%2).toNat:Nat):Int):=by omega
  generalize (n / 8%3+1+n / 64%2).toNat=hi at n2 ⊢;generalize (n / 8%3).toNat=lo at n1 ⊢;rw [n1] at n2;simp [gB,e1,e2,c1,c2,aN,szl,n1,n2]
 ·have er:dY 0 (1+n / 8%3)=true:=cZ (by omega) (by omega);have dv:∀ j:Nat,j < 4->bS (64+5*(j:Int))=true:=fun j hj=>by
   unfold bS;have h1:(0:Int) < 64+5*j:=by omega
   have h2:(64+5*(j:Int)) < 1073741824:=by omega
   simp [h1,h2]
  have h0:=fun j:Nat=>gX (i:=5) (by decide) (by decide) (j:Int);simp [gB,e1,e2,c1,c2,er];rw [aL1 (fun x=>(plF (n / (64+5*iS x))).dat) (fun δ=>∃ u,δ=[u,some (.d (.int n))]) _ _ ⟨_,rfl⟩ ?_]
  ·have e:(rng 0 (1+n / 8%3).toNat).map (fun x=>(plF (n / (64+5*iS x))).dat)=((List.range (1+n / 8%3).toNat).map fun (j:Nat)=>plF (n / (64+5*j))).map One.dat:=by
    rw [aW5,List.map_map,List.map_map];rfl
   simp [e,Call.dat,szl]
  ·rintro x hx δ ⟨u,rfl⟩;obtain ⟨j,hj,rfl⟩:=rG hx;refine ⟨_,rfl,⟨_,rfl⟩,?_⟩;have hj4:j < 4:=by omega
   simp [dv j hj4,h0,pl,iS]
end K61

namespace K61
open PySem PySem.Spec PyProof.Rows L2 DL CI SJ
def bn1 (r:Int):An1->An1
 | .got _=>.got (r%4 - 1)
 | .yes=>if r%2=0 then .yes else .no
 | .no=>if r%2=0 then .yes else .no
 | .dn=>.dn
def uH {r:Int} {o:One} {a:An1} (hf:An1.fits o a):An1.fits o (bn1 r a):=by
 cases o<;>cases a<;>simp [An1.fits] at hf<;>simp only [bn1]<;>first | trivial | (split<;>trivial)
def yU (d:Nat) (h:aA) (a:An1) (r:Int):aG T (d+1) "_law_bent" [.d a.dat,.d (.int r)] h=some ((bn1 r a).dat,h):=by
 have yn:atI [PyData.tuple [.str (Str.ofString "yes")],.tuple [.str (Str.ofString "no")]] (r%2)=some (if r%2=0 then An1.yes.dat else An1.no.dat):=by
  have:r%2=0\/r%2=1:=by omega
  rcases this with z | z<;>rw [z]<;>rfl
 cases a with
 | got v=>simp [cF,An1.dat,bn1,szl]
 | dn=>simp [cF,An1.dat,bn1,szl,aN]
 | yes=>by_cases c:r%2=0<;>simp [c,An1.dat] at yn<;>simp [cF,An1.dat,bn1,szl,aN,yn,c]
 | no=>by_cases c:r%2=0<;>simp [c,An1.dat] at yn<;>simp [cF,An1.dat,bn1,szl,aN,yn,c]
theorem aN5:∀ {os:List One} {as:List An1},Fit2 os as->∀ (i:Nat) (o:One) (a:An1),os[i]?=some o->as[i]?=some a->An1.fits o a
 | _,_,.nil,i,o,a,e,_=>by simp at e
 | _,_,.cons h t,0,o,a,e1,e2=>by simp at e1 e2;subst e1;subst e2;exact h
 | _,_,.cons h t,i+1,o,a,e1,e2=>aN5 t i o a (by simpa using e1) (by simpa using e2)
theorem aN6:∀ (os:List One) (as:List An1),as.length=os.length->(∀ (i:Nat) (o:One) (a:An1),os[i]?=some o->as[i]?=some a->An1.fits o a)->Fit2 os as
 | [],[],_,_=>.nil
 | o::os,a::as,hl,hf=>.cons (hf 0 o a rfl rfl) (aN6 os as (by simpa using hl) fun i o' a' e1 e2=>hf (i+1) o' a' (by simpa using e1) (by simpa using e2))
 | [],_::_,hl,_=>by simp at hl
 | _::_,[],hl,_=>by simp at hl
def beF (r:Int) (as:List An1):List An1:=(List.range as.length).map fun (i:Nat)=>bn1 (r / (3+(i:Int))) (as.getD i .dn)
def bN2 {r:Int} {os:List One} {as:List An1} (hf:Fit2 os as):Fit2 os (beF r as):=by
 have hl:=hf.length;refine aN6 _ _ (by simp [beF,hl]) fun i o a e1 e2=>?_;unfold beF at e2;rw [List.getElem?_map] at e2;obtain ⟨j,ej,rfl⟩:=Option.map_eq_some_iff.mp e2;obtain ⟨hi,rfl⟩:=List.getElem?_eq_some_iff.mp ej;have hi':i < as.length:=by simpa using hi
 simp only [List.getElem_range];exact uH (aN5 hf i o _ e1 (by simp [List.getD,hi']))
def aX9 (as:List An1):bK (as.map An1.dat)=(List.range as.length).map fun (i:Nat)=>.tuple [.int (i:Nat),(as.getD i .dn).dat]:=by
 unfold bK;rw [jR,List.length_map];refine List.map_congr_left fun i hi=>?_;have hi:=List.mem_range.mp hi;simp [List.getD,hi]
def bN3 (d:Nat) {c:SJ.Call} (hc:c.ok) {a:SJ.Ans} (hf:Ans.fits c a) (r:Int):∃ b,Ans.fits c b/\∀ h:aA,aG T (d+2) "_law_bent" [.d a.dat,.d (.int r)] h=some (b.dat,h):=by
 have dv:∀ j:Nat,j < 1000->bS (3+(j:Int))=true:=fun j hj=>by
  unfold bS;have h1:(0:Int) < 3+j:=by omega
  have h2:(3+(j:Int)) < 1073741824:=by omega
  simp [h1,h2]
 have dv':∀ j:Nat,j < 1000->bS ((j:Int)+3)=true:=fun j hj=>by rw [Int.add_comm];exact dv j hj
 cases a with
 | one a =>
  refine ⟨.one (bn1 r a),?_,fun h=>yU (d+1) h a r⟩;cases c<;>first | exact uH hf | exact hf
 | all ns =>
  cases c with
  | one o=>exact hf.elim
  | deal cs=>exact hf.elim
  | span lo hi =>
  have hn:ns.length=hi - lo:=hf;have h1:=hc.1;have h2:=hc.2;refine ⟨.all ((List.range ns.length).map fun (i:Nat)=>r / ((i:Int)+3)%3),by show _=hi - lo;simp [hn],fun h=>?_⟩;rw [show d+2=(d+1)+1 from rfl];have er:dY 0 (ns.length:Int)=true:=cZ (by omega) (by omega);simp [cF,Ans.dat,er];rw [aL1 (fun x=>.int (r / (iS x+3)%3)) (fun δ=>∃ u,δ=[u,some (.d (.int r))]) _ _ ⟨_,rfl⟩ ?_]
  ·have e:(rng 0 (ns.length:Int).toNat).map (fun x=>PyData.int (r / (iS x+3)%3))=((List.range ns.length).map fun (i:Nat)=>r / ((i:Int)+3)%3).map PyData.int:=by
    rw [aW5,List.map_map,List.map_map];rfl
   simp at e;simp [e,szl]
  ·rintro x hx δ ⟨u,rfl⟩;obtain ⟨j,hj,rfl⟩:=rG hx;refine ⟨_,rfl,⟨_,rfl⟩,?_⟩;have hjn:j < ns.length:=by simpa using hj
   have hj4:j < 1000:=by omega
   simp [dv' j hj4,iS]
 | each as =>
  cases c with
  | one o=>exact hf.elim
  | span lo hi=>exact hf.elim
  | deal cs =>
  have hf':Fit2 cs as:=hf;have hn:=hf'.length;have h1:=hc.1;refine ⟨.each (beF r as),bN2 hf',fun h=>?_⟩;have bt:=fun a r=>yU d h a r;rw [show d+2=(d+1)+1 from rfl];have cm:aZ (bH [YG 0,YG 1]) (aF true) (YF2 false (d+1) "_law_bent" (aE 1) (xb (aE 2) (YOx .FloorDiv (xb (YJ 3) (YOx .Add (aE 0)))))) none ((List.range as.length).map fun (i:Nat)=>.tuple [.int (i:Nat),(as.getD i .dn).dat]) ((List.range as.length).map fun (i:Nat)=>.tuple [.int (i:Nat),(as.getD i .dn).dat]) [none,none,some (.d (.int r))] h []=some ((List.range as.length).map fun (i:Nat)=>(bn1 (r / (3+(i:Int))) (as.getD i .dn)).dat,h):=by
   refine cmM (fun (i:Nat)=>.tuple [.int (i:Nat),(as.getD i .dn).dat]) (fun (i:Nat)=>(bn1 (r / (3+(i:Int))) (as.getD i .dn)).dat) (fun δ=>∃ u v,δ=[u,v,some (.d (.int r))]) _ _ ⟨_,_,rfl⟩ fun i hi δ hδ=>?_;obtain ⟨u,v,rfl⟩:=hδ;have hi:=List.mem_range.mp hi;refine ⟨[some (.d (.int i)),some (.d (as.getD i .dn).dat),some (.d (.int r))],by simp [bH,dX],⟨_,_,rfl⟩,?_⟩;generalize as.getD i .dn=a at *;have hi4:i < 1000:=by omega
   simp [bt,dv i hi4]
  have em:(beF r as).map An1.dat=(List.range as.length).map fun (i:Nat)=>(bn1 (r / (3+(i:Int))) (as.getD i .dn)).dat:=by simp [beF,Function.comp_def]
  rw [<- em] at cm;have en:=aX9 as;simp only [nV,nQ,jN,bY5,nU,nW,nX,nO,nP,nR,List.getD_eq_getElem?_getD,bdi] at cm;simp [cF,Ans.dat,rF,en,cm,szl]
end K61

namespace K61
open PySem PySem.Spec PyProof.Rows L2 DL CI SJ
@[simp] theorem cO7 (j:Nat) (y:PyData) (i:Nat) (δ:DSt) (h:aA):zP j y i δ h=match h[j]?,y with
   | some (.l xs),.int k=>(ixN xs.length k).map fun n=>(δ,h.set j (.r ((xs.map .d).set n (.c i))))
   | some (.r ws),.int k=>(ixN ws.length k).map fun n=>(δ,h.set j (.r (ws.set n (.c i))))
   | some (.k kvs),.int _=>if kvs.length < sizeLine then some (δ,h.set j (.k (lY kvs y (.c i)))) else none
   | _,_=>none:=rfl
@[simp] theorem cO8 (a b:XR W) (w:W) (δ:DSt) (h:aA):sC a b w δ h=(a δ h).bind fun p=>(b δ p.2).bind fun q=>(match p.1,q.1,w with
  | .c j,.d y,.d x=>zO j y x δ q.2
  | .c j,.d y,.c i=>zP j y i δ q.2
  | _,_,_=>none):=rfl
@[simp] theorem cO9 (x:XR W) (y:XR (List W)):xD x y=xb x fun w=>fun δ h=>match w with
 | .c j=>(match h[j]? with
  | some (.k _)=>(y δ h).bind fun p=>zN j p.1 p.2
  | _=>none)
 | _=>none:=rfl
def uI {H:aA} {j:Nat} {xs:List PyData} (e:H[j]?=some (.l xs)) (k:Int):xIx (.c j) (.d (.int k)) H=(atI xs k).map fun v=>(.d v,H):=by
 simp [xIx,ref,e]
structure Rw where
 b:Nat
 c:SJ.Call
 t:Option (Option SJ.Ans)
def tD:Option (Option SJ.Ans)->PyData
 | none=>.none
 | some a=>anD a
def Rw.dat (w:Rw):List PyData:=[.int w.b,w.c.dat,tD w.t]
abbrev En:=Nat×Nat×Rw
def kvF (as:List En):List (PyData×W):=as.map fun p=>(.int p.1,.c p.2.1)
def aN7 {as:List En} {q:Nat} (h:∀ p∈as,p.1≠q):qF (.inl (q:Int)) (kvF as)=false:=by
 unfold qF kvF;rw [List.any_map,List.any_eq_false];intro p hp;have:=h p hp;simp [cQ];omega
def aY0 {as:List En} {p:En} (h:p∈as):qF (.inl (p.1:Int)) (kvF as)=true:=by
 unfold qF kvF;rw [List.any_map,List.any_eq_true];exact ⟨p,h,by simp [cQ]⟩
theorem wS:∀ {as:List En} {p:En},(as.map fun p=>p.1).Nodup->p∈as->qG (.inl (p.1:Int)) (kvF as)=some (.c p.2.1)
 | a::as,p,nd,h=>by
  rw [List.map_cons,List.nodup_cons] at nd;unfold qG kvF;rw [List.map_cons,List.find?_cons];rcases List.mem_cons.mp h with rfl | h
  ·simp [cQ]
  ·have ne:a.1≠p.1:=fun z=>nd.1 (z ▸ List.mem_map.mpr ⟨p,h,rfl⟩);have:decide (cQ (PyData.int (a.1:Int))=some (Sum.inl (p.1:Int)))=false:=by simp [cQ];omega
   rw [this];exact wS nd.2 h
def aY1 {as:List En} {q:Nat} (h:∀ p∈as,p.1≠q) (i:Nat) (w:Rw):lY (kvF as) (.int q) (W.c i)=kvF (as++[(q,i,w)]):=by
 have:=aN7 h;unfold qF at this;unfold lY;rw [show cQ (.int (q:Int))=some (.inl (q:Int)) from rfl,this];simp [kvF]
def bN4 (as:List En) (q:Nat):uS (.inl (q:Int)) (kvF as)=kvF (as.filter fun p=>decide (p.1≠q)):=by
 unfold uS kvF;rw [List.filter_map]
 congr 1
 refine List.filter_congr fun p _=>?_;simp [cQ];omega
structure Hs (n:Nat) (as:List En) (ds:List Dd) (H:aA):Prop where
 k:H[n]?=some (.k (kvF as))
 d:H[n+1]?=some (.l (ds.map Dd.dat))
 own:∀ p∈as,n+2<=p.2.1/\H[p.2.1]?=some (.l p.2.2.dat)
 nc:(as.map fun p=>p.2.1).Nodup
 nh:(as.map fun p=>p.1).Nodup
section
variable {n:Nat} {as:List En} {ds:List Dd} {H:aA}
theorem fO {i:Nat} {c:Cell} (e:H[i]?=some c):i < H.length:=(List.getElem?_eq_some_iff.mp e).1
def Hs.opn (S:Hs n as ds H) {q:Nat} (hq:∀ p∈as,p.1≠q) (w:Rw):Hs n (as++[(q,H.length,w)]) ds ((H++[Cell.l w.dat]).set n (.k (kvF (as++[(q,H.length,w)])))):=by
 have hn:=fO S.k;have hn1:=fO S.d;refine ⟨by rw [List.getElem?_set_self (by simp;omega)],by rw [List.getElem?_set_ne (by omega),List.getElem?_append_left hn1];exact S.d,fun p hp=>?_,?_,?_⟩
 ·rcases List.mem_append.mp hp with hp | hp
  ·obtain ⟨a,b⟩:=S.own p hp;exact ⟨a,by rw [List.getElem?_set_ne (by omega),List.getElem?_append_left (fO b)];exact b⟩
  ·rw [List.mem_singleton.mp hp];exact ⟨by show n+2<=H.length;omega,by rw [List.getElem?_set_ne (by show n≠H.length;omega)];simp⟩
 ·rw [List.map_append,List.nodup_append];refine ⟨S.nc,by simp,fun a ha b hb=>?_⟩;obtain ⟨p,hp,rfl⟩:=List.mem_map.mp ha;have:=fO (S.own p hp).2;simp at hb;omega
 ·rw [List.map_append,List.nodup_append];refine ⟨S.nh,by simp,fun a ha b hb=>?_⟩;obtain ⟨p,hp,rfl⟩:=List.mem_map.mp ha;have:=hq p hp;simp at hb;omega
def anF (q:Nat) (t:Option (Option SJ.Ans)) (as:List En):List En:=as.map fun p=>if p.1=q then (p.1,p.2.1,{ p.2.2 with t:=t }) else p
def an1 (q:Nat) (t) (as:List En):(anF q t as).map (fun p=>p.1)=as.map fun p=>p.1:=by
 unfold anF;rw [List.map_map];refine List.map_congr_left fun p _=>?_;show (if p.1=q then _ else p:En).1=p.1;split<;>rfl
def an2 (q:Nat) (t) (as:List En):(anF q t as).map (fun p=>p.2.1)=as.map fun p=>p.2.1:=by
 unfold anF;rw [List.map_map];refine List.map_congr_left fun p _=>?_;show (if p.1=q then _ else p:En).2.1=p.2.1;split<;>rfl
def wT {q:Nat} {t} {as:List En} {p:En} (h:p∈anF q t as):∃ p0∈as,p.1=p0.1/\p.2.1=p0.2.1/\p.2.2.b=p0.2.2.b/\p.2.2.c=p0.2.2.c/\(p.2.2=p0.2.2/\p.1≠q\/p.1=q/\p.2.2={ p0.2.2 with t:=t }):=by
 obtain ⟨p0,h0,rfl⟩:=List.mem_map.mp h;refine ⟨p0,h0,?_⟩;dsimp only;split
 ·rename_i c;exact ⟨rfl,rfl,rfl,rfl,.inr ⟨c,rfl⟩⟩
 ·rename_i c;exact ⟨rfl,rfl,rfl,rfl,.inl ⟨rfl,c⟩⟩
theorem rS {α β:Type} {f:α->β}:∀ {l:List α},(l.map f).Nodup->∀ {a b:α},a∈l->b∈l->f a=f b->a=b
 | x::l,nd,a,b,ha,hb,e=>by
  rw [List.map_cons,List.nodup_cons] at nd;rcases List.mem_cons.mp ha with e1 | h1<;>rcases List.mem_cons.mp hb with e2 | h2
  ·rw [e1,e2]
  ·exact (nd.1 (List.mem_map.mpr ⟨b,h2,by rw [<- e,e1]⟩)).elim
  ·exact (nd.1 (List.mem_map.mpr ⟨a,h1,by rw [e,e2]⟩)).elim
  ·exact rS nd.2 h1 h2 e
def Hs.ans (S:Hs n as ds H) {p:En} (hp:p∈as) (t:Option (Option SJ.Ans)):Hs n (anF p.1 t as) ds (H.set p.2.1 (.l { p.2.2 with t:=t }.dat)):=by
 obtain ⟨h1,h2⟩:=S.own p hp;have hl:=fO h2;refine ⟨?_,by rw [List.getElem?_set_ne (by omega)];exact S.d,fun r hr=>?_,by rw [an2];exact S.nc,by rw [an1];exact S.nh⟩
 ·rw [List.getElem?_set_ne (by omega),S.k];unfold kvF anF;rw [List.map_map]
  congr 2
  refine List.map_congr_left fun r _=>?_;show _=(PyData.int ((if r.1=p.1 then _ else r:En).1:Int),W.c (if r.1=p.1 then _ else r:En).2.1);split<;>rfl
 ·obtain ⟨r0,h0,e1,e2,_,_,e3⟩:=wT hr;obtain ⟨a,b⟩:=S.own r0 h0;rw [e2];refine ⟨a,?_⟩;rcases e3 with ⟨e3,ne⟩ | ⟨e3,e4⟩
  ·have nc:p.2.1≠r0.2.1:=fun z=>ne (by rw [e1,rS (f:=fun p:En=>p.2.1) S.nc hp h0 z]);rw [List.getElem?_set_ne nc,e3];exact b
  ·have:r0=p:=rS (f:=fun p:En=>p.1) S.nh h0 hp (by rw [<- e1,e3]);subst this;rw [List.getElem?_set_self hl,e4]
def Hs.del (S:Hs n as ds H) (q:Nat):Hs n (as.filter fun p=>decide (p.1≠q)) ds (H.set n (.k (kvF (as.filter fun p=>decide (p.1≠q))))):=by
 have hn:=fO S.k;refine ⟨by rw [List.getElem?_set_self hn],by rw [List.getElem?_set_ne (by omega)];exact S.d,fun p hp=>?_,?_,?_⟩
 ·obtain ⟨a,b⟩:=S.own p (List.mem_filter.mp hp).1;exact ⟨a,by rw [List.getElem?_set_ne (by omega)];exact b⟩
 ·exact S.nc.sublist (List.filter_sublist.map _)
 ·exact S.nh.sublist (List.filter_sublist.map _)
def Hs.app (S:Hs n as ds H) (x:Dd):Hs n as (ds++[x]) (H.set (n+1) (.l (ds.map Dd.dat++[x.dat]))):=by
 have hn:=fO S.d;refine ⟨by rw [List.getElem?_set_ne (by omega)];exact S.k,by rw [List.getElem?_set_self hn];simp,fun p hp=>?_,S.nc,S.nh⟩;obtain ⟨a,b⟩:=S.own p hp;exact ⟨a,by rw [List.getElem?_set_ne (by omega)];exact b⟩
def Hs.len (S:Hs n as ds H):bI [.c n] H=some (.d (.int as.length),H):=by
 simp [bI,ref,S.k,bE0,kvF]
def Hs.lend (S:Hs n as ds H):bI [.c (n+1)] H=some (.d (.int ds.length),H):=by
 simp [bI,ref,S.d]
def Hs.inn (S:Hs n as ds H) (q:Int):xIn (.d (.int q)) (.c n) H=some (qF (.inl q) (kvF as)):=by
 simp [xIn,ref,S.k,bR5,uR,cQ]
def Hs.ix (S:Hs n as ds H) {p:En} (hp:p∈as):xIx (.c n) (.d (.int p.1)) H=some (.c p.2.1,H):=by
 simp [xIx,ref,S.k,xIr,wS S.nh hp]
def Hs.pop (S:Hs n as ds H) {p:En} (hp:p∈as):zN n [.d (.int p.1)] H=some (.c p.2.1,H.set n (.k (kvF (as.filter fun r=>decide (r.1≠p.1))))):=by
 simp [zN,S.k,wS S.nh hp,bN4]
end
end K61

namespace K61
open PySem PySem.Spec PyProof.Rows L2 DL CI SJ
structure Tm (τ hands:Nat) (as:List En) (ds:List Dd):Prop where
 ok:∀ x∈ds,x.ok
 pw:ds.Pairwise Tog
 tl:∀ x∈ds,∀ z∈x.tms,z<=(τ:Int)
 bl:∀ x∈ds,∀ m,τ < m->x.below m=true
 hd:∀ p∈as,p.1 < hands
 ro:∀ p∈as,p.2.2.c.ok/\∀ a,p.2.2.t=some (some a)->Ans.fits p.2.2.c a
 rt:∀ p∈as,p.2.2.b<=τ
 rd:∀ p∈as,∀ x∈ds,(p.2.2.b:Int)∉x.tms/\(x.hand=p.1->x.below p.2.2.b=true)
 rr:∀ p∈as,∀ r∈as,p.2.2.b=r.2.2.b->p.1=r.1
section
variable {τ τ' hands:Nat} {as:List En} {ds:List Dd}
def Tm.up (t:Tm τ hands as ds) (h:τ<=τ'):Tm τ' hands as ds :=
 ⟨t.ok,t.pw,fun x hx z hz=>by have:=t.tl x hx z hz;omega,fun x hx m hm=>t.bl x hx m (by omega),t.hd,t.ro,fun p hp=>by have:=t.rt p hp;omega,t.rd,t.rr⟩
def Tm.opn (t:Tm τ hands as ds) (h:τ < τ') {q:Nat} (hq:q < hands) {c:SJ.Call} (hc:c.ok) (i:Nat):Tm τ' hands (as++[(q,i,⟨τ',c,none⟩)]) ds:=by
 have t2:=t.up (Nat.le_of_lt h);have cs:∀ {P:En->Prop},(∀ p∈as,P p)->P (q,i,⟨τ',c,none⟩)->∀ p∈as++[(q,i,⟨τ',c,none⟩)],P p:=fun {P} a b p hp=>by
  rcases List.mem_append.mp hp with z | z
  ·exact a p z
  ·rw [List.mem_singleton.mp z];exact b
 refine ⟨t2.ok,t2.pw,t2.tl,t2.bl,cs t2.hd hq,cs t2.ro ⟨hc,fun a z=>nomatch z⟩,cs t2.rt (Nat.le_refl _),cs t2.rd fun x hx=>⟨fun z=>?_,fun _=>t.bl x hx _ h⟩,cs (fun p hp=>cs (fun r hr=>t.rr p hp r hr) fun e=>?_) (cs (fun r hr e=>?_) fun _=>rfl)⟩
 ·have:=t.tl x hx _ z;dsimp only at this;omega
 ·have:=t.rt p hp;dsimp only at e;omega
 ·have:=t.rt r hr;dsimp only at e;omega
def Tm.ans (t:Tm τ hands as ds) (q:Nat) (a:Option SJ.Ans) (ha:∀ p∈as,p.1=q->∀ b,a=some b->Ans.fits p.2.2.c b):Tm τ hands (anF q (some a) as) ds:=by
 refine ⟨t.ok,t.pw,t.tl,t.bl,fun p hp=>?_,fun p hp=>?_,fun p hp=>?_,fun p hp=>?_,fun p hp r hr e=>?_⟩<;>obtain ⟨p0,h0,e1,_,e2,e3,e4⟩:=wT hp
 ·rw [e1];exact t.hd p0 h0
 ·rw [e3];refine ⟨(t.ro p0 h0).1,fun b hb=>?_⟩;rcases e4 with ⟨e4,_⟩ | ⟨e4,e5⟩
  ·exact (t.ro p0 h0).2 b (by rw [<- e4];exact hb)
  ·rw [e5] at hb;exact ha p0 h0 (by rw [<- e1,e4]) b (by simpa using hb)
 ·rw [e2];exact t.rt p0 h0
 ·rw [e1,e2];exact t.rd p0 h0
 ·obtain ⟨r0,g0,f1,_,f2,_⟩:=wT hr;rw [e1,f1];exact t.rr p0 h0 r0 g0 (by rw [<- e2,<- f2,e])
theorem yV {α:Type} {R:α->α->Prop} {l:List α} {x:α} (h:l.Pairwise R) (k:∀ y∈l,R y x):(l++[x]).Pairwise R:=by
 rw [List.pairwise_append];exact ⟨h,List.pairwise_singleton _ _,fun a ha b hb=>by rw [List.mem_singleton.mp hb];exact k a ha⟩
def Tm.fin (t:Tm τ hands as ds) (h6:hands<=6) (h:τ < τ') {p:En} (hp:p∈as) (a:Option SJ.Ans) (ha:∀ b,a=some b->Ans.fits p.2.2.c b):Tm τ' hands (as.filter fun r=>decide (r.1≠p.1)) (ds++[⟨p.1,p.2.2.b,p.2.2.c,some (τ',a)⟩]):=by
 have pt:=t.rt p hp;have ph:=t.hd p hp;have cs:∀ {P:Dd->Prop},(∀ x∈ds,P x)->P ⟨p.1,p.2.2.b,p.2.2.c,some (τ',a)⟩->∀ x∈ds++[⟨p.1,p.2.2.b,p.2.2.c,some (τ',a)⟩],P x:=fun {P} a b x hx=>by
  rcases List.mem_append.mp hx with z | z
  ·exact a x z
  ·rw [List.mem_singleton.mp z];exact b
 have t2:=t.up (Nat.le_of_lt h);have sub:∀ r∈as.filter (fun r=>decide (r.1≠p.1)),r∈as/\r.1≠p.1:=fun r hr=>by
  have:=List.mem_filter.mp hr;exact ⟨this.1,by simpa using this.2⟩
 refine ⟨cs t.ok ⟨by dsimp only;omega,(t.ro p hp).1,fun q hq=>?_⟩,yV t.pw fun x hx=>?_,cs t2.tl fun z hz=>?_,cs t2.bl fun m hm=>?_,fun r hr=>t.hd r (sub r hr).1,fun r hr=>t.ro r (sub r hr).1,fun r hr=>t2.rt r (sub r hr).1,fun r hr=>cs (t.rd r (sub r hr).1) ⟨fun z=>?_,fun e=>((sub r hr).2 e.symm).elim⟩,fun r hr r' hr'=>t.rr r (sub r hr).1 r' (sub r' hr').1⟩
 ·cases hq;exact ⟨by dsimp only;omega,ha⟩
 ·obtain ⟨b1,b2⟩:=t.rd p hp x hx;refine ⟨fun z z1 z2=>?_,?_⟩
  ·simp only [Dd.tms,List.mem_cons,List.not_mem_nil,or_false] at z2;rcases z2 with z2 | z2
   ·subst z2;exact b1 z1
   ·have:=t.tl x hx z z1;omega
  ·by_cases c:x.hand=p.1
   ·exact .inr (.inl (b2 c))
   ·exact .inl c
 ·simp only [Dd.tms,List.mem_cons,List.not_mem_nil,or_false] at hz;omega
 ·show decide (τ' < m)=true;exact decide_eq_true hm
 ·simp only [Dd.tms,List.mem_cons,List.not_mem_nil,or_false] at z;rcases z with z | z
  ·exact (sub r hr).2 (t.rr r (sub r hr).1 p hp (by omega))
  ·have:=t.rt r (sub r hr).1;omega
def aY2 {as:List En} {p:En} (nd:(as.map fun p=>p.1).Nodup) (hp:p∈as):(as.filter fun r=>decide (r.1≠p.1)).length+1<=as.length:=by
 have h1:(as.filter fun r=>decide (r.1≠p.1)).length < as.length:=by
  rw [List.length_filter_lt_length_iff_exists];exact ⟨p,hp,by simp⟩
 omega
end
def wU (d:Nat) (h:aA) (r:Int):aG T (d+2) "_law_bent" [.d tW,.d (.int r)] h=some (tW,h):=by
 simp [cF,tW]
def aY3 (d:Nat) {c:SJ.Call} (hc:c.ok) (a:Option SJ.Ans) (hf:∀ b,a=some b->Ans.fits c b) (r:Int):∃ a':Option SJ.Ans,(∀ b,a'=some b->Ans.fits c b)/\∀ h,aG T (d+2) "_law_bent" [.d (anD a),.d (.int r)] h=some (anD a',h):=by
 cases a with
 | none=>exact ⟨none,(fun b z=>nomatch z),fun h=>wU d h r⟩
 | some a =>
  obtain ⟨b,hb,e⟩:=bN3 d hc (hf a rfl) r;exact ⟨some b,fun b' z=>by cases z;exact hb,e⟩
end K61

namespace K61
open PySem PySem.Spec PyProof.Rows L2 DL CI SJ
def dL (S:List Int) (hands most:Nat) (st:List Int) (n τ:Nat) (x7 x8 x9 x10 x11 x12 x13:Option W):DSt:=[some (.d (.list (S.map .int))),some (.d (.int hands)),some (.d (.int most)),some (.d (.tuple (st.map .int))),some (.c n),some (.c (n+1)),some (.d (.int τ)),x7,x8,x9,x10,x11,x12,x13,none]
def IL (S:List Int) (hands most:Nat) (h:aA) (δ:DSt) (H:aA):Prop:=∃ st τ as ds,st.length=8/\Hs h.length as ds H/\Tm τ hands as ds/\ds.length+as.length<=most/\(∀ i,i < h.length->H[i]?=h[i]?)/\∃ x7 x8 x9 x10 x11 x12 x13,δ=dL S hands most st h.length τ x7 x8 x9 x10 x11 x12 x13
@[simp] theorem is_tn:xIs (.d .none) (.d .none)=some true:=rfl
def cA2 (a:Option SJ.Ans):xIs (.d (anD a)) (.d .none)=some false:=by
 rcases a with _ | a
 ·rfl
 ·cases a with
  | one o=>cases o<;>rfl
  | all ns=>rfl
  | each as=>rfl
def bN5 (d:Nat) (S:List Int) {hands most:Nat} (h:aA) (h0:0 < hands) (h6:hands<=6) (hm:most<=100) (k:Nat) {δ:DSt} {H:aA} (I:IL S hands most h δ H) :
  ∃ δ1 h1,YG 7 (.d (.int k)) δ H=some (δ1,h1)/\∃ δ2 h2,bO (d+5) δ1 h1=some (.nx δ2,h2)/\IL S hands most h δ2 h2:=by
 obtain ⟨st,τ,as,ds,sl,hs,tm,hc,hb,x7,x8,x9,x10,x11,x12,x13,rfl⟩:=I;refine ⟨_,_,rfl,?_⟩;have e1:bS 8=true:=by decide
 have e2:bS 16=true:=by decide
 have e3:bS 64=true:=by decide
 have e4:bS 1024=true:=by decide
 obtain ⟨z,hz⟩:∃ z,z=drF S (100+k):=⟨_,rfl⟩;obtain ⟨sd,esd⟩:∃ sd,sd=PyData.list (S.map .int):=⟨_,rfl⟩;have dr:∀ H,aG T (d+5) "_law_draw" [.d sd,.d (.int (100+(k:Int)))] H=some (.int z,H):=fun H=>by
  have:=wR (d+4) H S (100+k);rw [hz,esd,<- this]
  congr 3
 have p0:(0:Int) < hands:=by omega
 obtain ⟨q,hq,eq⟩:∃ q:Nat,q < hands/\z%(hands:Int)=q:=by
  have a1:=Int.emod_nonneg z (b:=(hands:Int)) (by omega);have a2:=Int.emod_lt_of_pos z (b:=(hands:Int)) (by omega);exact ⟨(z%(hands:Int)).toNat,by omega,by omega⟩
 obtain ⟨g,eg⟩:∃ g:Nat,atI [PyData.int 0,.int 0,.int 0,.int 1000000000000000000000000000000] (z / 4096%4)=some (.int g):=by
  have:z / 4096%4=0\/z / 4096%4=1\/z / 4096%4=2\/z / 4096%4=3:=by omega
  rcases this with q | q | q | q<;>rw [q]
  ·exact ⟨0,rfl⟩
  ·exact ⟨0,rfl⟩
  ·exact ⟨0,rfl⟩
  ·exact ⟨1000000000000000000000000000000,rfl⟩
 have e5:bS 4096=true:=by decide
 have e6:pG 10 30=true:=by decide
 obtain ⟨τ',ht,et⟩:∃ τ':Nat,τ < τ'/\(τ:Int)+1+z / 8%2+g=τ':=⟨(τ+1+z / 8%2+g).toNat,by omega,by omega⟩;have eD:∀ st τ x7 x8 x9 x10 x11 x12 x13,dL S hands most st h.length τ x7 x8 x9 x10 x11 x12 x13=[some (.d sd),some (.d (.int hands)),some (.d (.int most)),some (.d (.tuple (st.map .int))),some (.c h.length),some (.c (h.length+1)),some (.d (.int τ)),x7,x8,x9,x10,x11,x12,x13,none]:=fun st τ x7 x8 x9 x10 x11 x12 x13=>by rw [esd];rfl
 have inn:=hs.inn q;have hk:=hs.k;have hl1:=hs.len;have hl2:=hs.lend;unfold bO
 by_cases c0:∃ p∈as,p.1=q
 ·obtain ⟨p,hp,rfl⟩:=c0;rw [aY0 hp] at inn;obtain ⟨hi,hrow⟩:=hs.own p hp;have ix:=hs.ix hp;have r1:xIx (.c p.2.1) (.d (.int 1)) H=some (.d p.2.2.c.dat,H):=by rw [uI hrow];simp [Rw.dat]
  have r2:xIx (.c p.2.1) (.d (.int 2)) H=some (.d (tD p.2.2.t),H):=by rw [uI hrow];simp [Rw.dat]
  obtain ⟨pc,pf⟩:=tm.ro p hp;cases ept:p.2.2.t with
  | none =>
   rw [ept] at r2;have cd:=fun H=>bM3 (d+1) H sl pc;have sl':=aW8 pc sl;have df:=aL9 pc sl;generalize dnC st p.2.2.c=r at cd sl' df
   by_cases c1:z / 16%12=0
   ·refine ⟨_,_,?_,st,τ',anF p.1 (some none) as,ds,sl,hs.ans hp (some none),(tm.up (Nat.le_of_lt ht)).ans p.1 none (fun _ _ _ b z=>nomatch z),by simpa [anF] using hc,fun i hi'=>?_,some (.d (.int k)),some (.d (.int z)),some (.d (.int p.1)),some (.d tW),some (.d (.tuple (r.2.map .int))),x12,x13,rfl⟩
    ·simp [eD,dr,e1,e2,e3,e4,e5,e6,eg,p0,h0,eq,et,szl,aN,inn,ix,r1,r2,tD,cd,c1,szl,hrow,tW,Rw.dat,anD]
    ·rw [List.getElem?_set_ne (by omega)];exact hb i hi'
   ·refine ⟨_,_,?_,r.2,τ',anF p.1 (some (some r.1)) as,ds,sl',hs.ans hp (some (some r.1)),(tm.up (Nat.le_of_lt ht)).ans p.1 (some r.1) (fun p' hp' e b z=>?_),by simpa [anF] using hc,fun i hi'=>?_,some (.d (.int k)),some (.d (.int z)),some (.d (.int p.1)),some (.d r.1.dat),some (.d (.tuple (r.2.map .int))),x12,x13,rfl⟩
    ·simp [eD,dr,e1,e2,e3,e4,e5,e6,eg,p0,h0,eq,et,szl,aN,inn,ix,r1,r2,tD,cd,c1,szl,hrow,Rw.dat,anD]
    ·cases z;rw [rS (f:=fun p:En=>p.1) hs.nh hp' hp e];exact df
    ·rw [List.getElem?_set_ne (by omega)];exact hb i hi'
  | some a =>
   rw [ept] at r2;have ia:=cA2 a;obtain ⟨a',fa',bt⟩:=aY3 (d+3) pc a (fun b hb=>pf b (by rw [ept,hb])) (z / 1024);have pop:=hs.pop hp;have hs2:=hs.del p.1;have ni:h.length≠p.2.1:=by omega
   have row2:(H.set h.length (.k (kvF (as.filter fun r=>decide (r.1≠p.1)))))[p.2.1]?=some (.l p.2.2.dat):=by rw [List.getElem?_set_ne ni];exact hrow
   have dl:=aY2 hs.nh hp;obtain ⟨H1,eH⟩:∃ H1,H1=H.set h.length (.k (kvF (as.filter fun r=>decide (r.1≠p.1)))):=⟨_,rfl⟩;have hb1:∀ i,i < h.length->H1[i]?=h[i]?:=fun i hi'=>by rw [eH,List.getElem?_set_ne (by omega)];exact hb i hi'
   rw [<- eH] at pop row2 hs2;have go:∀ (b:Option SJ.Ans),(∀ c,b=some c->Ans.fits p.2.2.c c)->∃ H2,sB (.c (h.length+1)) [.d (.tuple [.int p.1,.int p.2.2.b,.int τ',p.2.2.c.dat,anD b])] H1=some (.d .none,H2)/\mD "append" (.c (h.length+1)) H1=true/\IL S hands most h (dL S hands most st h.length τ' (some (.d (.int k))) (some (.d (.int z))) (some (.d (.int p.1))) (some (.d (anD b))) x11 (some (.d (.int p.2.2.b))) (some (.d p.2.2.c.dat))) H2:=fun b hb'=>by
    have hd:=hs2.d;have lz:ds.length < 16777216:=by omega
    refine ⟨H1.set (h.length+1) (.l (ds.map Dd.dat++[(Dd.mk p.1 p.2.2.b p.2.2.c (some (τ',b))).dat])),by simp [hd,szl,lz,Dd.dat,Dd.endD,Dd.ansD],by simp [mD,hd],st,τ',_,ds++[⟨p.1,p.2.2.b,p.2.2.c,some (τ',b)⟩],sl,hs2.app ⟨p.1,p.2.2.b,p.2.2.c,some (τ',b)⟩,tm.fin h6 ht hp b hb',by simp only [List.length_append,List.length_cons,List.length_nil];omega,fun i hi'=>?_,_,_,_,_,_,_,_,rfl⟩;rw [List.getElem?_set_ne (by omega)];exact hb1 i hi'
   by_cases c1:z / 16%8=1
   ·obtain ⟨H2,g1,g2,g3⟩:=go a' fa';refine ⟨_,_,?_,g3⟩;simp [eD,dr,e1,e2,e3,e4,e5,e6,eg,p0,h0,eq,et,szl,aN,inn,ix,r1,r2,tD,ia,c1,szl,hk,pop,row2,bH,dX,Rw.dat,tD,ept,bt,g1,g2]
   ·obtain ⟨H2,g1,g2,g3⟩:=go a (fun b hb=>pf b (by rw [ept,hb]));refine ⟨_,_,?_,g3⟩;simp [eD,dr,e1,e2,e3,e4,e5,e6,eg,p0,h0,eq,et,szl,aN,inn,ix,r1,r2,tD,ia,c1,szl,hk,pop,row2,bH,dX,Rw.dat,tD,ept,g1,g2]
 ·have no:∀ p∈as,p.1≠q:=fun p hp e=>c0 ⟨p,hp,e⟩;rw [aN7 no] at inn
  by_cases c1:ds.length+as.length < most
  ·have c1':(ds.length:Int)+as.length < most:=by omega
   have cl:=fun H=>bN1 (d+3) H (z / 64);have ck:=cA1 (z / 64);generalize clF (z / 64)=c at cl ck;have hn:=fO hs.k;have hk2:(H++[Cell.l [.int τ',c.dat,.none]])[h.length]?=some (.k (kvF as)):=by rw [List.getElem?_append_left hn];exact hk
   have lz:as.length < 16777216:=by omega
   have pn:=aY1 no H.length ⟨τ',c,none⟩;have op:=hs.opn no ⟨τ',c,none⟩;have rd:Rw.dat ⟨τ',c,none⟩=[.int τ',c.dat,.none]:=rfl;rw [rd] at op;refine ⟨_,_,?_,st,τ',as++[(q,H.length,⟨τ',c,none⟩)],ds,sl,op,tm.opn ht hq ck H.length,by simp only [List.length_append,List.length_cons,List.length_nil];omega,fun i hi'=>?_,some (.d (.int k)),some (.d (.int z)),some (.d (.int q)),x10,x11,x12,x13,rfl⟩
   ·have kl:(kvF as).length=as.length:=by simp [kvF]
    simp [eD,dr,e1,e2,e3,e4,e5,e6,eg,p0,h0,eq,et,szl,aN,inn,hl1,hl2,c1',cl,szl,hk2,kl,lz,pn]
   ·rw [List.getElem?_set_ne (by omega),List.getElem?_append_left (by omega)];exact hb i hi'
  ·have c1':¬ (ds.length:Int)+as.length < most:=by omega
   refine ⟨_,_,?_,st,τ',as,ds,sl,hs,tm.up (Nat.le_of_lt ht),hc,hb,some (.d (.int k)),some (.d (.int z)),some (.d (.int q)),x10,x11,x12,x13,rfl⟩;simp [eD,dr,e1,e2,e3,e4,e5,e6,eg,p0,h0,eq,et,szl,aN,inn,hl1,hl2,c1']
end K61

namespace K61
open PySem PySem.Spec PyProof.Rows L2 DL CI SJ
def aC6 {h H:aA} {z:PyData} (hb:∀ i,i < h.length->H[i]?=h[i]?) (hl:h.length<=H.length):ends h (.rt (.d z),H)=some (z,h):=by
 have ok:okP h H:=fun i c hi e=>.inr (by rw [<- hb i hi];exact e);have tk:H.take h.length=h:=by
  apply List.ext_getElem?;intro i;rw [List.getElem?_take];split
  ·rename_i z;exact hb i z
  ·rename_i z;rw [List.getElem?_eq_none (by omega)]
 rw [aL2,if_pos ok,tk]
def IE (S:List Int) (hands most:Nat) (h:aA) (st:List Int) (τ:Nat) (as:List En) (L:List Int) (m:Nat) (δ:DSt) (H:aA):Prop:=∃ ds:List Dd,Hs h.length as ds H/\(∀ x∈ds,x.ok)/\ds.Pairwise Tog/\ds.length+(L.length - m)<=most /\
 (∀ p∈as,(p.1:Int)∉L.take m->∀ x∈ds,(p.2.2.b:Int)∉x.tms/\(x.hand=p.1->x.below p.2.2.b=true))/\(∀ i,i < h.length->H[i]?=h[i]?)/\∃ x7 x8 x9 x10 x11 x12 x13,δ=dL S hands most st h.length τ x7 x8 x9 x10 x11 x12 x13
def bN6 (d:Nat) (S:List Int) {hands most:Nat} (h:aA) (h6:hands<=6) (hm:most<=100) {st:List Int} {τ:Nat} {as:List En} {ds0:List Dd} (tm:Tm τ hands as ds0) {L:List Int} (hL:L.Perm (as.map fun p=>(p.1:Int))) (nd:L.Nodup) {m:Nat} (hml:m < L.length) {δ:DSt} {H:aA} (I:IE S hands most h st τ as L m δ H) :
  ∃ δ1 h1,YG 9 (.d (.int L[m])) δ H=some (δ1,h1)/\∃ δ2 h2,bN d δ1 h1=some (.nx δ2,h2)/\IE S hands most h st τ as L (m+1) δ2 h2:=by
 obtain ⟨ds,hs,ok,pw,hc,rb,hb,x7,x8,x9,x10,x11,x12,x13,rfl⟩:=I;refine ⟨_,_,rfl,?_⟩;obtain ⟨p,hp,ep⟩:∃ p∈as,(p.1:Int)=L[m]:=List.mem_map.mp (hL.mem_iff.mp (List.getElem_mem hml));have ntk:(p.1:Int)∉L.take m:=fun z=>by
  rw [ep] at z;obtain ⟨j,hj,ej⟩:=List.getElem_of_mem z;rw [List.length_take] at hj;rw [List.getElem_take] at ej;have:=(List.getElem_inj nd).mp ej;omega
 obtain ⟨sd,esd⟩:∃ sd,sd=PyData.list (S.map .int):=⟨_,rfl⟩;have eD:∀ x7 x8 x9 x10 x11 x12 x13,dL S hands most st h.length τ x7 x8 x9 x10 x11 x12 x13=[some (.d sd),some (.d (.int hands)),some (.d (.int most)),some (.d (.tuple (st.map .int))),some (.c h.length),some (.c (h.length+1)),some (.d (.int τ)),x7,x8,x9,x10,x11,x12,x13,none]:=fun x7 x8 x9 x10 x11 x12 x13=>by rw [esd];rfl
 have ix:=hs.ix hp;obtain ⟨hi,hrow⟩:=hs.own p hp;have r0:xIx (.c p.2.1) (.d (.int 0)) H=some (.d (.int p.2.2.b),H):=by rw [uI hrow];simp [Rw.dat]
 have r1:xIx (.c p.2.1) (.d (.int 1)) H=some (.d p.2.2.c.dat,H):=by rw [uI hrow];simp [Rw.dat]
 have hd:=hs.d;have lz:ds.length < 16777216:=by omega
 rw [<- ep];have eR:(Dd.mk p.1 p.2.2.b p.2.2.c none).dat=.tuple [.int p.1,.int p.2.2.b,.none,p.2.2.c.dat,.none]:=rfl;unfold bN;refine ⟨dL S hands most st h.length τ x7 x8 (some (.d (.int p.1))) x10 x11 x12 x13,H.set (h.length+1) (.l (ds.map Dd.dat++[(Dd.mk p.1 p.2.2.b p.2.2.c none).dat])),?_,ds++[Dd.mk p.1 p.2.2.b p.2.2.c none],hs.app _,fun x hx=>?_,yV pw fun x hx=>?_,?_,fun r hr ntr x hx=>?_,fun i hi'=>?_,_,_,_,_,_,_,_,rfl⟩
 ·rw [eR];simp [eD,ix,r0,r1,mD,hd,szl,lz]
 ·rcases List.mem_append.mp hx with hx | hx
  ·exact ok x hx
  ·rw [List.mem_singleton.mp hx];exact ⟨by have:=tm.hd p hp;dsimp only;omega,(tm.ro p hp).1,fun _ z=>nomatch z⟩
 ·obtain ⟨b1,b2⟩:=rb p hp ntk x hx;refine ⟨fun z z1 z2=>?_,?_⟩
  ·simp only [Dd.tms,List.mem_cons,List.not_mem_nil,or_false] at z2;subst z2;exact b1 z1
  ·by_cases c:x.hand=p.1
   ·exact .inr (.inl (b2 c))
   ·exact .inl c
 ·simp only [List.length_append,List.length_cons,List.length_nil];omega
 ·have etk:L.take (m+1)=L.take m++[L[m]]:=by rw [List.take_add_one];simp [hml]
  rw [etk] at ntr;have n1:(r.1:Int)∉L.take m:=fun z=>ntr (List.mem_append_left _ z);have n2:r.1≠p.1:=fun z=>ntr (List.mem_append_right _ (by rw [<- ep,z];exact List.mem_singleton.mpr rfl));rcases List.mem_append.mp hx with hx | hx
  ·exact rb r hr n1 x hx
  ·rw [List.mem_singleton.mp hx];refine ⟨fun z=>?_,fun e=>(n2 e.symm).elim⟩;simp only [Dd.tms,List.mem_cons,List.not_mem_nil,or_false] at z;exact n2 (tm.rr r hr p hp (by omega))
 ·rw [List.getElem?_set_ne (by omega)];exact hb i hi'
def RH (most:Nat) (h:aA) (x:Option (Fl×aA)):Prop:=∃ hs:List Dd,HOk hs/\hs.length<=most/\x.bind (ends h)=some (.tuple (hs.map Dd.dat),h)
def aN8 (as:List En):bZ ((kvF as).map fun p=>p.1)=some (as.map fun p=>(p.1:Int)):=by
 induction as with
 | nil=>rfl
 | cons p r ih =>
  show (bZ ((kvF r).map fun p=>p.1)).map _=_;rw [ih];rfl
def aC7 (d:Nat) (h:aA) (S:List Int) {hands most:Nat} (h0:0 < hands) (h6:hands<=6) (hm:most<=60):∃ hs:List Dd,HOk hs/\hs.length<=most/\aG T (d+6) "_law_history" [.d (.list (S.map .int)),.d (.int hands),.d (.int most)] h=some (.tuple (hs.map Dd.dat),h):=by
 rw [show d+6=(d+5)+1 from rfl,nY];show RH most h _;obtain ⟨sd,esd⟩:∃ sd,sd=PyData.list (S.map .int):=⟨_,rfl⟩;have eD:∀ st n τ x7 x8 x9 x10 x11 x12 x13,dL S hands most st n τ x7 x8 x9 x10 x11 x12 x13=[some (.d sd),some (.d (.int hands)),some (.d (.int most)),some (.d (.tuple (st.map .int))),some (.c n),some (.c (n+1)),some (.d (.int τ)),x7,x8,x9,x10,x11,x12,x13,none]:=fun st n τ x7 x8 x9 x10 x11 x12 x13=>by rw [esd];rfl
 have dr:∀ (k:Nat) H,aG T (d+5) "_law_draw" [.d sd,.d (.int k)] H=some (.int (drF S k),H):=fun k H=>by rw [esd];exact wR (d+4) H S k
 have dr90:=dr 90;have dr4:=dr 4;have dr91:=dr 91;simp only [show ((90:Nat):Int)=90 from rfl,show ((4:Nat):Int)=4 from rfl,show ((91:Nat):Int)=91 from rfl] at dr90 dr4 dr91;rw [<- esd];obtain ⟨τ0,et0⟩:∃ τ0:Nat,drF S 90%3=τ0:=⟨(drF S 90%3).toNat,by omega⟩;obtain ⟨c,hc,ec⟩:∃ c:Nat,c<=5/\atI [PyData.int 2,.int 3,.int 5] (drF S 4%3)=some (.int c):=by
  have:drF S 4%3=0\/drF S 4%3=1\/drF S 4%3=2:=by omega
  rcases this with z | z | z<;>rw [z]
  ·exact ⟨2,by omega,rfl⟩
  ·exact ⟨3,by omega,rfl⟩
  ·exact ⟨5,by omega,rfl⟩
 have hcm:c*most<=300:=Nat.le_trans (Nat.mul_le_mul hc hm) (by decide);obtain ⟨top,htop⟩:∃ top,top=c*most:=⟨_,rfl⟩;have ecm:(c:Int)*(most:Int)=(top:Nat):=by rw [htop];simp
 have er:dY 0 (top:Int)=true:=cZ (by omega) (by omega);have ml:dK (c:Int) (most:Int)=true:=gX (by omega) (by omega) _;obtain ⟨st0,es0⟩:∃ st0:List Int,st0=[0,0,0,0,0,0,0,0]:=⟨_,rfl⟩;have es0':PyData.tuple [.int 0,.int 0,.int 0,.int 0,.int 0,.int 0,.int 0,.int 0]=.tuple (st0.map .int):=by rw [es0];rfl
 refine syP [some (.d sd),some (.d (.int hands)),some (.d (.int most)),some (.d (.tuple (st0.map .int))),none,none,none,none,none,none,none,none,none,none,none] h (by simp [es0]) ?_;refine syP [some (.d sd),some (.d (.int hands)),some (.d (.int most)),some (.d (.tuple (st0.map .int))),some (.c h.length),none,none,none,none,none,none,none,none,none,none] (h++[.k []]) (by simp [xG]) ?_;obtain ⟨H0,hH0⟩:∃ H0,H0=h++[Cell.k [],.l []]:=⟨_,rfl⟩;refine syP [some (.d sd),some (.d (.int hands)),some (.d (.int most)),some (.d (.tuple (st0.map .int))),some (.c h.length),some (.c (h.length+1)),none,none,none,none,none,none,none,none,none] H0 (by simp [hH0]) ?_;refine syP (dL S hands most st0 h.length τ0 none none none none none none none) H0 (by simp [eD,dr90,et0]) ?_;have hs0:Hs h.length [] [] H0:=⟨by rw [hH0];simp [kvF],by rw [hH0];simp,(fun _ z=>nomatch z),.nil,.nil⟩;have tm0:Tm τ0 hands [] []:=⟨(fun _ z=>nomatch z),.nil,(fun _ z=>nomatch z),(fun _ z=>nomatch z),(fun _ z=>nomatch z),(fun _ z=>nomatch z),(fun _ z=>nomatch z),(fun _ z=>nomatch z),(fun _ z=>nomatch z)⟩;have b0:∀ i,i < h.length->H0[i]?=h[i]?:=fun i hi=>by rw [hH0,List.getElem?_append_left hi]
 refine syE (IL S hands most h) ?_ ?_
 ·refine oE ((rng 0 top,none),H0) (by simp [eD,dr4,ec,ecm,ml,er,szl,aN]) ?_;show ∃ δ2 h2,bY (YG 7) (bO (d+5)) none (rng 0 top) (rng 0 top) _ _=some (.nx δ2,h2)/\_;refine eY (IL S hands most h) _ (fun x hx δ H I=>?_) _ _ ⟨st0,τ0,[],[],by rw [es0];rfl,hs0,tm0,by simp,b0,_,_,_,_,_,_,_,rfl⟩;obtain ⟨k,hk,rfl⟩:=rG hx;rw [Int.zero_add];exact bN5 d S h h0 h6 (by omega) k I
 rintro _ H1 ⟨st,τ,as,ds,sl,hs,tm,hcn,hb,x7,x8,x9,x10,x11,x12,x13,rfl⟩
 -- what never ended
 obtain ⟨L,eL⟩:∃ L,L=ST.srt (as.map fun p=>(p.1:Int)):=⟨_,rfl⟩;have hL:L.Perm (as.map fun p=>(p.1:Int)):=by rw [eL];exact ST.srt_perm _
 have ndL:L.Nodup:=hL.nodup_iff.mpr (by
  have:=hs.nh;rw [show (as.map fun p=>(p.1:Int))=(as.map fun p=>p.1).map (fun n:Nat=>(n:Int)) by rw [List.map_map];rfl];exact List.Pairwise.map _ (fun a b hab e=>hab (by omega)) this)
 have lL:L.length=as.length:=by rw [hL.length_eq,List.length_map]
 have hk:=hs.k;have srt:iZ [.c h.length] H1=some (L.map .int,H1):=by
  have i1:=aN8 as;have:as.length < 64:=by omega
  rw [eL];simp [iZ,ref,hk,uR,i1,this]
 refine syE (IE S hands most h st τ as L L.length) ?_ ?_
 ·refine oE ((L.map .int,none),H1) (by simp [eD,srt,aN]) ?_;show ∃ δ2 h2,bY (YG 9) (bN (d+5)) none (L.map .int) (L.map .int) _ _=some (.nx δ2,h2)/\_;refine gY (fun m δ H=>IE S hands most h st τ as L m δ H) ⟨ds,hs,tm.ok,tm.pw,by omega,fun p hp _=>tm.rd p hp,hb,_,_,_,_,_,_,_,rfl⟩ (fun δ H=>by rw [List.length_map];exact id) fun m hm' δ H I=>?_;rw [List.getElem_map];exact bN6 (d+5) S h h6 (by omega) tm hL ndL (by simpa using hm') I
 rintro _ H2 ⟨ds2,hs2,ok,pw,hc2,_,hb2,y7,y8,y9,y10,y11,y12,y13,rfl⟩;have hd:=hs2.d;have hln:ds2.length<=most:=by omega
 obtain ⟨cp,hcp,ecp⟩:∃ cp:Nat,cp<=ds2.length/\drF S 91%((ds2.length:Int)+1)=cp:=by
  have a1:=Int.emod_nonneg (drF S 91) (b:=(ds2.length:Int)+1) (by omega);have a2:=Int.emod_lt_of_pos (drF S 91) (b:=(ds2.length:Int)+1) (by omega);exact ⟨(drF S 91%((ds2.length:Int)+1)).toNat,by omega,by omega⟩
 have lD:=hs2.lend;have p1:(0:Int) < (ds2.length:Int)+1:=by omega
 refine syP ((dL S hands most st h.length τ y7 y8 y9 y10 y11 y12 y13).set 14 (some (.d (.int cp)))) H2 (by simp [eD,dr91,lD,p1,ecp]) ?_;have c1:=rM (ds2.map Dd.dat) (m:=cp) (by simpa using hcp);have c2:=wM (ds2.map Dd.dat) (m:=cp) (by simpa using hcp);have s1:xSl (.c (h.length+1)) none (some (cp:Int)) H2=some (.d (.list ((ds2.map Dd.dat).take cp)),H2):=by simp [xSl,ref,hd,c1]
 have s2:xSl (.c (h.length+1)) (some (cp:Int)) none H2=some (.d (.list ((ds2.map Dd.dat).drop cp)),H2):=by simp [xSl,ref,hd,c2]
 rw [<- List.map_take] at s1;rw [<- List.map_drop] at s2;have pm:(ds2.drop cp++ds2.take cp).Perm ds2:=by
  have:=List.perm_append_comm (l₁:=ds2.drop cp) (l₂:=ds2.take cp)
  rwa [List.take_append_drop] at this
 refine ⟨ds2.drop cp++ds2.take cp,HOk.perm pm ⟨ok,pw,by omega⟩,by rw [pm.length_eq];exact hln,?_⟩;have ek:=fun z=>aC6 (z:=z) hb2 (by have:=fO hd;omega);have hz:ds2.length - cp+min cp ds2.length<=16777216:=by omega
 rw [List.map_append];generalize hA:(ds2.drop cp).map Dd.dat=A at *;generalize hB:(ds2.take cp).map Dd.dat=B at *;have lz:A.length+B.length<=16777216:=by rw [<- hA,<- hB];simp;omega
 simp [eD,s1,s2,lz,szl,ek]
end K61

namespace K61
open PySem PySem.Spec PyProof.Rows L2 DL CI SJ
def wV {l:List Int} (h:l.Nodup):(ST.srt l).Pairwise (· < ·):=by
 have h1:=ST.srt_le l;have h2:(ST.srt l).Nodup:=(ST.srt_perm l).nodup_iff.mpr h;exact (h1.and h2).imp fun {a b} ⟨x,y⟩=>by omega
def aN9 {a b:List Int} (ha:a.Pairwise (· < ·)) (hb:b.Pairwise (· < ·)) (h:∀ x,x∈a ↔ x∈b):a=b:=by
 have na:a.Nodup:=ha.imp fun {x y} h e=>by omega
 have nb:b.Nodup:=hb.imp fun {x y} h e=>by omega
 have p:a.Perm b:=(List.perm_ext_iff_of_nodup na nb).mpr h;exact p.eq_of_pairwise (fun x y _ _ h1 h2=>by omega) ha hb
def bN7 (ns:List Int):bZ (ns.map .int)=some ns:=by
 induction ns with
 | nil=>rfl
 | cons n r ih=>rw [List.map_cons,bZ,ih];rfl
def bN8 {w:W} {H:aA} {ns:List Int} (e:ref H w=some (.list (ns.map .int))) (h1:ns.length < 64):iZ [w] H=some ((ST.srt ns).map .int,H):=by
 unfold iZ aE6;simp only [e,bN7];rw [if_pos h1];rfl
theorem uJ:∀ l:List Int,PyData.eqvAll (l.map .int) (l.map .int)=true
 | []=>by simp [PyData.eqvAll]
 | a::r=>by simp [PyData.eqvAll,PyData.eqv,uJ r]
def yW (l:List Int) (H:aA):xEq (.d (.list (l.map .int))) (.d (.list (l.map .int))) H=some true:=by
 rw [lB];simp [PyData.eqv,uJ,hO]
def aO0 (a:An1) (n:Nat):aM (n+1) a.dat=true:=by cases a<;>simp [An1.dat]
theorem yX:∀ (as:List An1) (n:Nat),plainsB (n+1) (as.map An1.dat)=true
 | [],n=>by simp
 | a::r,n=>by simp [aO0,yX r]
def cA3 {ds:List Dd} {i:Nat} (hi:i < ds.length):atI (ds.map Dd.dat) (i:Int)=some (ds.getD i dfD).dat:=gT (by simp [List.getD,hi])
def cA4 {hs:List Dd} {i:Nat} (hi:i < hs.length) (H:aA):xIx (.d (.tuple (hs.map Dd.dat))) (.d (.int i)) H=some (.d (gD hs i).dat,H):=by
 rw [CI.ix_t,cA3 hi];rfl
def aC8 {g:XG} {tb:XS} {c:Cw} {all:List PyData} {P:DSt->aA->Prop} (I:Nat->DSt->aA->Prop) (hc:∀ n δ h,I n δ h->condB c all h=true) {rest:List PyData} {δ:DSt} {h:aA} (hi:I 0 δ h) (hP:∀ δ h,I rest.length δ h->P δ h)
  (ht:∀ n (hn:n < rest.length) δ h,I n δ h->∃ δ1 h1,g (.d rest[n]) δ h=some (δ1,h1)/\∃ δ2 h2,tb δ1 h1=some (.nx δ2,h2)/\I (n+1) δ2 h2):∃ δ' h',bY g tb c all rest δ h=some (.nx δ',h')/\P δ' h':=by
 suffices Q:∀ (m n:Nat) (δ:DSt) (h:aA),m+n=rest.length->I n δ h->∃ δ' h',bY g tb c all (rest.drop n) δ h=some (.nx δ',h')/\P δ' h' by
  have:=Q rest.length 0 δ h (by omega) hi
  rwa [List.drop_zero] at this
 intro m;induction m with
 | zero =>
  intro n δ h e i;rw [List.drop_of_length_le (by omega),bY,if_pos (hc n δ h i)];exact ⟨δ,h,rfl,hP δ h (by rw [show rest.length=n by omega];exact i)⟩
 | succ m ih =>
  intro n δ h e i;have hn:n < rest.length:=by omega
  obtain ⟨δ1,h1,e1,δ2,h2,e2,i2⟩:=ht n hn δ h i;obtain ⟨δ3,h3,e3,p⟩:=ih (n+1) δ2 h2 (by omega) i2;refine ⟨δ3,h3,?_,p⟩;rw [List.drop_eq_getElem_cons hn,bY,if_pos (hc n δ h i),e1];simp only [CI.bs,e2];exact e3
def bC5 (n:Nat):rng 0 n=(List.range n).map fun (i:Nat)=>PyData.int i:=by simp [rng]
variable (d:Nat) (h:aA)
def QP (h:aA) (z:PyData) (x:Option (Fl×aA)):Prop:=x.bind (ends h)=some (z,h)
def QG (v:W) (H:aA) (x:Option (Fl×aA)):Prop:=x.bind kW=some (v,H)
end K61

namespace K61
open PySem PySem.Spec PyProof.Rows L2 DL CI SJ
def Dd.bel (x:Dd) (t:Int):Bool:=match x.fin with
 | some p=>decide ((p.1:Int) < t)
 | none=>false
noncomputable def Dd.aft (x:Dd) (t:Int):Bool:=decide (t<=(x.beg:Int))
def Dd.endI (x:Dd):Int:=match x.fin with
 | some p=>(p.1:Int)+1
 | none=>0
def qB (hs:List Dd) (t:Int):Bool:=decide (0 < (hs.filter fun x=>x.bel t).length)&&(decide (0 < (hs.filter fun x=>x.aft t).length)&&decide ((hs.filter fun x=>x.bel t).length+(hs.filter fun x=>x.aft t).length=hs.length))
def tS (hs:List Dd):List Int:=ST.srt ((hs.filter fun x=>x.fin.isSome).map Dd.endI)
def qT (hs:List Dd):List Int:=(tS hs).filter fun t=>qB hs t
theorem cA5 {α:Type} (p q:α->Bool):∀ l:List α,(∀ x∈l,p x=true->q x=true->False)->(l.filter p).length+(l.filter q).length<=l.length/\((l.filter p).length+(l.filter q).length=l.length ↔ ∀ x∈l,p x=true\/q x=true)
 | [],_=>by simp
 | x::l,h=>by
  obtain ⟨h1,h2⟩:=cA5 p q l fun y hy=>h y (List.mem_cons_of_mem _ hy);have hx:=h x List.mem_cons_self;simp only [List.filter_cons,List.length_cons,List.forall_mem_cons];rw [<- h2];cases hp:p x<;>cases hq:q x
  ·simp;omega
  ·simp;omega
  ·simp;omega
  ·exact (hx hp hq).elim
def aY4 {x:Dd} (ok:x.ok) {t:Int} (h:x.bel t=true) (g:x.aft t=true):False:=by
 unfold Dd.bel at h;unfold Dd.aft at g;split at h
 ·rename_i p e;have:=(ok.fin p e).1;simp at h g;omega
 ·cases h
structure Qt (hs:List Dd) (t:Int):Prop where
 e:∃ x∈hs,x.bel t=true
 l:∃ x∈hs,x.aft t=true
 a:∀ x∈hs,x.bel t=true\/x.aft t=true
def bN9 {hs:List Dd} (ok:∀ x∈hs,x.ok) {t:Int}:qB hs t=true ↔ Qt hs t:=by
 have f:=(cA5 (fun x:Dd=>x.bel t) (fun x=>x.aft t) hs fun x hx=>aY4 (ok x hx)).2;unfold qB;simp only [Bool.and_eq_true,decide_eq_true_eq];rw [f,List.length_pos_iff_exists_mem,List.length_pos_iff_exists_mem];constructor
 ·rintro ⟨⟨x,hx⟩,⟨y,hy⟩,h⟩;exact ⟨⟨x,List.mem_filter.mp hx⟩,⟨y,List.mem_filter.mp hy⟩,h⟩
 ·rintro ⟨⟨x,hx⟩,⟨y,hy⟩,h⟩;exact ⟨⟨x,List.mem_filter.mpr hx⟩,⟨y,List.mem_filter.mpr hy⟩,h⟩
def cA6 {hs:List Dd} (ok:HOk hs):(tS hs).Pairwise (· < ·):=by
 refine wV (List.pairwise_map.mpr (List.Pairwise.imp_of_mem (fun {a b} ha hb t e=>?_) (ok.pw.sublist List.filter_sublist)));have fa:=(List.mem_filter.mp ha).2;have fb:=(List.mem_filter.mp hb).2;obtain ⟨p,hp⟩:=Option.isSome_iff_exists.mp fa;obtain ⟨q,hq⟩:=Option.isSome_iff_exists.mp fb;refine t.ne p.1 (by unfold Dd.tms;rw [hp];simp) ?_;have:p.1=q.1:=by
  unfold Dd.endI at e;rw [hp,hq] at e;dsimp only at e;omega
 unfold Dd.tms;rw [hq,this];simp
def lF {hs:List Dd} (ok:HOk hs):(qT hs).Pairwise (· < ·):=(cA6 ok).sublist List.filter_sublist
def aO1 {hs:List Dd} (ok:HOk hs) {t:Int}:t∈qT hs ↔ (∃ x∈hs,∃ p,x.fin=some p/\t=p.1+1)/\Qt hs t:=by
 unfold qT tS;rw [List.mem_filter,(ST.srt_perm _).mem_iff,bN9 ok.ok,List.mem_map];constructor
 ·rintro ⟨⟨x,hx,rfl⟩,q⟩;obtain ⟨h1,h2⟩:=List.mem_filter.mp hx;obtain ⟨p,hp⟩:=Option.isSome_iff_exists.mp h2;refine ⟨⟨x,h1,p,hp,?_⟩,q⟩;unfold Dd.endI;rw [hp]
 ·rintro ⟨⟨x,hx,p,hp,rfl⟩,q⟩;refine ⟨⟨x,List.mem_filter.mpr ⟨hx,by rw [hp];rfl⟩,?_⟩,q⟩;unfold Dd.endI;rw [hp]
noncomputable def cnt (T:List Int) (b:Int):Nat:=(T.filter fun t=>decide (t<=b)).length
theorem gK:∀ {T:List Int} (b:Int),T.Pairwise (· < ·)->∀ k (hk:k < T.length),k < cnt T b ↔ T[k]<=b
 | a::r,b,h,k,hk=>by
  rw [List.pairwise_cons] at h;have ih:=gK b h.2;unfold cnt at ih ⊢;rw [List.filter_cons]
  by_cases c:a<=b
  ·rw [if_pos (by simpa using c),List.length_cons];cases k with
   | zero=>simp [c]
   | succ k =>
    have:=ih k (by simpa using hk);rw [List.getElem_cons_succ,<- this];omega
  ·rw [if_neg (by simpa using c)];have z:r.filter (fun t=>decide (t<=b))=[]:=List.filter_eq_nil_iff.mpr fun t ht=>by
    have:=h.1 t ht;simp;omega
   rw [z];cases k with
   | zero=>simp;omega
   | succ k =>
    have:=h.1 _ (List.getElem_mem (show k < r.length by simpa using hk));simp only [List.length_nil,Nat.not_lt_zero,false_iff,List.getElem_cons_succ];omega
def kO (T:List Int) (b:Int):cnt T b<=T.length:=List.length_filter_le _ _
def ix (hs:List Dd) (i:Nat):Nat:=cnt (qT hs) (gD hs i).beg
def lot (hs:List Dd) (j n:Nat):List Nat:=(List.range n).filter fun i=>decide (ix hs i=j)
def mem_lot {hs:List Dd} {j n i:Nat}:i∈lot hs j n ↔ i < n/\ix hs i=j:=by
 unfold lot;rw [List.mem_filter,List.mem_range];simp
def aO2 (hs:List Dd) (j n:Nat):(lot hs j n).Pairwise (· < ·):=List.pairwise_lt_range.sublist List.filter_sublist
def rT {hs:List Dd} {x:Dd} (hx:x∈hs):∃ i,i < hs.length/\gD hs i=x:=by
 obtain ⟨i,hi,e⟩:=List.getElem_of_mem hx;exact ⟨i,hi,by rw [<- kK hi,e]⟩
section
variable {hs:List Dd} (ok:HOk hs)
include ok
def cA7 {i j:Nat} (hj:j < (qT hs).length) (h:ix hs i<=j):((gD hs i).beg:Int) < (qT hs)[j]:=by
 have:=gK (gD hs i).beg (lF ok) j hj;unfold ix at h;omega
def cA8 {i j:Nat} (hj:j < (qT hs).length) (h:j < ix hs i):(qT hs)[j]<=((gD hs i).beg:Int):=(gK (gD hs i).beg (lF ok) j hj).mp h
def qt_at {j:Nat} (hj:j < (qT hs).length):(∃ x∈hs,∃ p,x.fin=some p/\(qT hs)[j]=p.1+1)/\Qt hs (qT hs)[j]:=(aO1 ok).mp (List.getElem_mem hj)
def aO3 {i j:Nat} (hi:i < hs.length) (hj:j < (qT hs).length) (h:ix hs i<=j):(gD hs i).bel (qT hs)[j]=true:=by
 rcases (qt_at ok hj).2.a _ (gD_mem hi) with z | z
 ·exact z
 ·have:=cA7 ok hj h;unfold Dd.aft at z;simp at z;omega
def bO0 (n0:0 < hs.length) {j:Nat} (hj:j<=(qT hs).length):∃ i,i∈lot hs j hs.length:=by
 have beg_lt:∀ x∈hs,∀ t,x.bel t=true->(x.beg:Int) < t:=fun x hx t h=>by
  unfold Dd.bel at h;split at h
  ·rename_i p e;have:=((ok.ok x hx).fin p e).1;simp at h;omega
  ·cases h
 have up:∀ i,i < hs.length->∀ k (hk:k < (qT hs).length),(gD hs i).bel (qT hs)[k]=true->ix hs i<=k:=fun i hi k hk h=>by
  have:=beg_lt _ (gD_mem hi) _ h;have c:=gK (gD hs i).beg (lF ok) k hk;unfold ix;omega
 by_cases c:j < (qT hs).length
 ·obtain ⟨⟨x,hx,p,hp,ep⟩,q⟩:=qt_at ok c;cases j with
  | zero =>
   obtain ⟨y,hy,hb⟩:=q.e;obtain ⟨i,hi,rfl⟩:=rT hy;exact ⟨i,mem_lot.mpr ⟨hi,by have:=up i hi 0 c hb;omega⟩⟩
  | succ k =>
   obtain ⟨i,hi,rfl⟩:=rT hx;have c':k < (qT hs).length:=by omega
   have lt:(qT hs)[k] < (qT hs)[k+1]:=List.pairwise_iff_getElem.mp (lF ok) k (k+1) c' c (by omega);have nb:¬ (gD hs i).bel (qT hs)[k]=true:=by
    unfold Dd.bel;rw [hp];simp;omega
   have a:=((qt_at ok c').2.a _ (gD_mem hi)).resolve_left nb;have b:(gD hs i).bel (qT hs)[k+1]=true:=by
    unfold Dd.bel;rw [hp,ep];simp;omega
   refine ⟨i,mem_lot.mpr ⟨hi,?_⟩⟩;have h1:=up i hi (k+1) c b;have h2:=(gK (gD hs i).beg (lF ok) k c').mpr (by unfold Dd.aft at a;simpa using a);unfold ix at h1 ⊢;omega
 ·have e:j=(qT hs).length:=by omega
  cases z:(qT hs).length with
  | zero =>
   refine ⟨0,mem_lot.mpr ⟨n0,?_⟩⟩;have:=kO (qT hs) (gD hs 0).beg;unfold ix;omega
  | succ m =>
   have hm:m < (qT hs).length:=by omega
   obtain ⟨y,hy,ha⟩:=(qt_at ok hm).2.l;obtain ⟨i,hi,rfl⟩:=rT hy;refine ⟨i,mem_lot.mpr ⟨hi,?_⟩⟩;have h2:=(gK (gD hs i).beg (lF ok) m hm).mpr (by unfold Dd.aft at ha;simpa using ha);have:=kO (qT hs) (gD hs i).beg;unfold ix;omega
def oK {i k:Nat} (hi:i < hs.length) (hk:k < hs.length) (h:ix hs i < ix hs k):(gD hs i).below (gD hs k).beg=true:=by
 have hj:ix hs i < (qT hs).length:=Nat.lt_of_lt_of_le h (kO _ _);have e:=aO3 ok hi hj (Nat.le_refl _);have g:=cA8 ok hj h;unfold Dd.bel at e;unfold Dd.below;split at e
 ·rename_i p q;simp at e;try rw [q]
  show decide (p.1 < (gD hs k).beg)=true;exact decide_eq_true (by omega)
 ·cases e
def bO1 {j i:Nat} (hi:i∈lot hs j hs.length) (a:Nat) (ha:a∈lot hs j hs.length) (hab:(gD hs a).beg < (gD hs i).beg):∃ x∈lot hs j hs.length,(gD hs x).beg < (gD hs i).beg/\∃ y∈lot hs j hs.length,(gD hs i).beg<=(gD hs y).beg/\(gD hs x).below (gD hs y).beg=false:=by
 apply Classical.byContradiction;intro no;have al:∀ x∈lot hs j hs.length,(gD hs x).beg < (gD hs i).beg->∀ y∈lot hs j hs.length,(gD hs i).beg<=(gD hs y).beg->(gD hs x).below (gD hs y).beg=true:=fun x hx h1 y hy h2=>by
  cases z:(gD hs x).below (gD hs y).beg with
  | true=>rfl
  | false=>exact (no ⟨x,hx,h1,y,hy,h2,z⟩).elim
 obtain ⟨hi1,hi2⟩:=mem_lot.mp hi
 -- the early ones' last end
 have fin:∀ x∈lot hs j hs.length,(gD hs x).beg < (gD hs i).beg->∃ p,(gD hs x).fin=some p/\∀ y∈lot hs j hs.length,(gD hs i).beg<=(gD hs y).beg->p.1 < (gD hs y).beg:=fun x hx h1=>by
  have:=al x hx h1;cases q:(gD hs x).fin with
  | none =>
   have:=this i hi (Nat.le_refl _);unfold Dd.below at this;rw [q] at this;cases this
  | some p =>
   refine ⟨p,rfl,fun y hy h2=>?_⟩;have:=this y hy h2;unfold Dd.below at this;rw [q] at this;exact of_decide_eq_true this
 obtain ⟨E,eE⟩:∃ E,E=(lot hs j hs.length).filter fun x=>decide ((gD hs x).beg < (gD hs i).beg):=⟨_,rfl⟩;have mE:∀ x,x∈E ↔ x∈lot hs j hs.length/\(gD hs x).beg < (gD hs i).beg:=fun x=>by rw [eE,List.mem_filter];simp
 have mx:∀ l:List Nat,l≠[]->∃ x∈l,∀ y∈l,(gD hs y).endI<=(gD hs x).endI:=by
  intro l;induction l with
  | nil=>intro h;exact (h rfl).elim
  | cons b r ih =>
   intro _
   by_cases e:r=[]
   ·subst e;exact ⟨b,List.mem_cons_self,fun y hy=>by rw [List.mem_singleton.mp hy];exact Int.le_refl _⟩
   ·obtain ⟨x,hx,hm⟩:=ih e
    by_cases c:(gD hs x).endI<=(gD hs b).endI
    ·refine ⟨b,List.mem_cons_self,fun y hy=>?_⟩;rcases List.mem_cons.mp hy with rfl | hy
     ·exact Int.le_refl _
     ·have:=hm y hy;omega
    ·refine ⟨x,List.mem_cons_of_mem _ hx,fun y hy=>?_⟩;rcases List.mem_cons.mp hy with rfl | hy
     ·omega
     ·exact hm y hy
 obtain ⟨x,hx,hm⟩:=mx E (fun z=>by have:=(mE a).mpr ⟨ha,hab⟩;rw [z] at this;cases this);obtain ⟨x1,x2⟩:=(mE x).mp hx;obtain ⟨p,hp,lp⟩:=fin x x1 x2;obtain ⟨x3,x4⟩:=mem_lot.mp x1;have t:((p.1:Int)+1)∈qT hs:=by
  refine (aO1 ok).mpr ⟨⟨_,gD_mem x3,p,hp,rfl⟩,⟨⟨_,gD_mem x3,by unfold Dd.bel;rw [hp];simp;omega⟩,⟨_,gD_mem hi1,by have:=lp i hi (Nat.le_refl _);unfold Dd.aft;simp;omega⟩,fun y hy=>?_⟩⟩;obtain ⟨k,hk,rfl⟩:=rT hy;rcases Nat.lt_trichotomy (ix hs k) j with c | c | c
  ·left;have b:=oK ok hk x3 (by omega);have:=((ok.ok _ (gD_mem x3)).fin p hp).1;unfold Dd.below at b;unfold Dd.bel;split at b
   ·rename_i q hq;have b:=of_decide_eq_true b;try rw [hq]
    show decide ((q.1:Int) < (p.1:Int)+1)=true;exact decide_eq_true (by omega)
   ·cases b
  ·have kl:k∈lot hs j hs.length:=mem_lot.mpr ⟨hk,c⟩
   by_cases d:(gD hs k).beg < (gD hs i).beg
   ·left;obtain ⟨q,hq,_⟩:=fin k kl d;have:=hm k ((mE k).mpr ⟨kl,d⟩);unfold Dd.endI at this;rw [hp,hq] at this;unfold Dd.bel;rw [hq];dsimp only at this ⊢;exact decide_eq_true (by omega)
   ·right;have:=lp k kl (by omega);unfold Dd.aft;exact decide_eq_true (by omega)
  ·right;have b:=oK ok x3 hk (by omega);unfold Dd.below at b;rw [hp] at b;have b:=of_decide_eq_true b;unfold Dd.aft;exact decide_eq_true (by omega)
 obtain ⟨k,hk,ek⟩:=List.getElem_of_mem t;have h1:=gK (gD hs i).beg (lF ok) k hk;have h2:=gK (gD hs x).beg (lF ok) k hk;have l1:=lp i hi (Nat.le_refl _);have l2:=((ok.ok _ (gD_mem x3)).fin p hp).1;rw [ek] at h1 h2;have e1:cnt (qT hs) (gD hs i).beg=j:=hi2;have e2:cnt (qT hs) (gD hs x).beg=j:=x4;omega
end
end K61

namespace K61
open PySem PySem.Spec PyProof.Rows L2 DL CI SJ
variable (d:Nat) (h:aA)
def cP0 (x:Dd) (t:Int):aG T (d+1) "ended_below" [.d x.dat,.d (.int t)] h=some (.bool (x.bel t),h):=by
 obtain ⟨hand,beg,call,fin⟩:=x;cases fin<;>simp [iD,Dd.dat,Dd.endD,Dd.ansD,Dd.bel]
def dd1 (x:Dd) (H:aA):xIx (.d x.dat) (.d (.int 1)) H=some (.d (.int x.beg),H):=by simp [Dd.dat]
def dd2 (x:Dd) (H:aA):xIx (.d x.dat) (.d (.int 2)) H=some (.d x.endD,H):=by simp [Dd.dat]
def bO2 (hs:List Dd) (r:DSt) (H:aA):bC (aE 0) (some (.d (.tuple (hs.map Dd.dat)))::r) H=some ((hs.map Dd.dat,none),H):=by simp
def aY5 (hs:List Dd) (t:Int):aG T (d+2) "is_quiet" [.d (.tuple (hs.map Dd.dat)),.d (.int t)] h=some (.bool (qB hs t),h):=by
 rw [show d+2=(d+1)+1 from rfl,wF];have c1:aZ (YG 0) (xb (YF2 false (d+1) "ended_below" (aE 0) (aE 1)) YD) (aE 0) none (hs.map Dd.dat) (hs.map Dd.dat) [none,some (.d (.int t))] h []=some ((hs.filter fun x=>x.bel t).map Dd.dat,h):=by
  refine cmT Dd.dat (fun x=>x.bel t) Dd.dat (fun δ=>∃ u,δ=[u,some (.d (.int t))]) hs _ [] ⟨_,rfl⟩ fun x hx δ hδ=>?_;obtain ⟨u,rfl⟩:=hδ;have:=cP0 d h x t;exact ⟨_,rfl,⟨_,rfl⟩,by simp [this],fun _=>by simp⟩
 have c2:aZ (YG 0) (xC1 CmpOp.GtE (YV 0 1) (aE 1)) (aE 0) none (hs.map Dd.dat) (hs.map Dd.dat) [none,some (.d (.int t))] h []=some ((hs.filter fun x=>x.aft t).map Dd.dat,h):=by
  refine cmT Dd.dat (fun x=>x.aft t) Dd.dat (fun δ=>∃ u,δ=[u,some (.d (.int t))]) hs _ [] ⟨_,rfl⟩ fun x hx δ hδ=>?_;obtain ⟨u,rfl⟩:=hδ;have:=dd1 x h;exact ⟨_,rfl,⟨_,rfl⟩,by simp [this,Dd.aft],fun _=>by simp⟩
 simp only [nV,nQ,lC,jN,nU,oX,pB,nW,nX,pC,nO,nP,oV,pA,oZ,oW,nR,oY,wB,bdi] at c1 c2;have it:=fun r=>bO2 hs r h;have ln:bI [.d (.tuple (hs.map Dd.dat))] h=some (.d (.int hs.length),h):=by simp
 have l1:bI [.d (.list ((hs.filter fun x=>x.bel t).map Dd.dat))] h=some (.d (.int (hs.filter fun x=>x.bel t).length),h):=by simp
 have l2:bI [.d (.list ((hs.filter fun x=>x.aft t).map Dd.dat))] h=some (.d (.int (hs.filter fun x=>x.aft t).length),h):=by simp
 unfold qB;generalize (hs.filter fun x=>x.bel t).map Dd.dat=A at *;generalize (hs.filter fun x=>x.aft t).map Dd.dat=B at *;generalize (hs.filter fun x=>x.bel t).length=a at *;generalize (hs.filter fun x=>x.aft t).length=b at *;generalize hs.length=n at *;show QP h _ _;refine syP [some (.d (.tuple (hs.map Dd.dat))),some (.d (.int t)),some (.d (.list A)),none] h ?_ ?_
 ·generalize hs.map Dd.dat=HH at *;simp [c1,aN]
 refine syP [some (.d (.tuple (hs.map Dd.dat))),some (.d (.int t)),some (.d (.list A)),some (.d (.list B))] h ?_ ?_
 ·generalize hs.map Dd.dat=HH at *;simp [c2,aN]
 show _=_;have e3:((a:Int)+(b:Int)=(n:Int)) ↔ a+b=n:=by omega
 generalize PyData.tuple (hs.map Dd.dat)=HT at *
 by_cases q1:0 < a
 ·by_cases q2:0 < b
  ·by_cases q3:a+b=n
   ·have q3':=e3.mpr q3;simp [l1,l2,ln,q1,q2,q3,q3',asW]
   ·have q3':¬ ((a:Int)+b=n):=fun z=>q3 (e3.mp z);simp [l1,l2,ln,q1,q2,q3,q3',asW]
  ·simp [l1,l2,ln,q1,q2,asW]
 ·simp [l1,l2,ln,q1,asW]
def aO4 {hs:List Dd} (hl:hs.length<=60):aG T (d+3) "quiet_times" [.d (.tuple (hs.map Dd.dat))] h=some (.tuple ((qT hs).map .int),h):=by
 rw [show d+3=(d+2)+1 from rfl,pE];have c1:aZ (YG 0) (xC1 CmpOp.IsNot (YV 0 2) YZ) (xb (YV 0 2) (YB .Add 1)) none (hs.map Dd.dat) (hs.map Dd.dat) [none] h []=some (((hs.filter fun x=>x.fin.isSome).map Dd.endI).map .int,h):=by
  rw [List.map_map];refine cmT Dd.dat (fun x=>x.fin.isSome) (fun x=>.int x.endI) (fun δ=>∃ u,δ=[u]) hs _ [] ⟨_,rfl⟩ fun x hx δ hδ=>?_;obtain ⟨u,rfl⟩:=hδ;have d2:=dd2 x h;have s1:∀ n:Int,xIs (.d (.int n)) (.d .none)=some false:=fun n=>rfl;have s2:xIs (.d .none) (.d .none)=some true:=rfl;refine ⟨[some (.d x.dat)],rfl,⟨_,rfl⟩,?_,fun hp=>?_⟩
  ·unfold Dd.endD at d2;cases q:x.fin with
   | none=>rw [q] at d2;simp [d2,s2]
   | some p=>rw [q] at d2;simp [d2,s1]
  ·unfold Dd.endD at d2;unfold Dd.endI;cases q:x.fin with
   | none=>rw [q] at hp;cases hp
   | some p=>rw [q] at d2;simp [d2]
 have sr:=bN8 (w:=.d (.list (((hs.filter fun x=>x.fin.isSome).map Dd.endI).map .int))) (H:=h) rfl (by rw [List.length_map];have:=List.length_filter_le (fun x:Dd=>x.fin.isSome) hs;omega);have c2:aZ (YG 0) (xb (YF2 false (d+2) "is_quiet" (aE 1) (aE 0)) YD) (aE 0) none ((tS hs).map .int) ((tS hs).map .int) [none,some (.d (.tuple (hs.map Dd.dat)))] h []=some ((qT hs).map .int,h):=by
  refine cmT PyData.int (fun t=>qB hs t) PyData.int (fun δ=>∃ u,δ=[u,some (.d (.tuple (hs.map Dd.dat)))]) (tS hs) _ [] ⟨_,rfl⟩ fun t ht δ hδ=>?_;obtain ⟨u,rfl⟩:=hδ;have:=aY5 d h hs t;generalize PyData.tuple (hs.map Dd.dat)=HT at *;exact ⟨_,rfl,⟨_,rfl⟩,by simp [this],fun _=>by simp⟩
 change iZ _ h=some ((tS hs).map .int,h) at sr
 simp only [nV,nQ,lC,jN,nU,oX,pB,nW,nX,pC,nO,nP,oV,pA,oZ,oW,nR,oY,wB,bdi] at c1 c2;show QP h _ _;refine syP [some (.d (.tuple (hs.map Dd.dat))),some (.d (.list ((tS hs).map .int)))] h ?_ ?_
 ·generalize ((hs.filter fun x=>x.fin.isSome).map Dd.endI).map PyData.int=EE at *;generalize (tS hs).map PyData.int=TT' at *;generalize hs.map Dd.dat=HH at *;simp [c1,sr,aN]
 show _=_;generalize (tS hs).map PyData.int=TT' at *;generalize (qT hs).map PyData.int=QQ at *;generalize hs.map Dd.dat=HH at *;simp [c2,aN]
theorem uK {all:List PyData}:∀ (r:List PyData) (u:Option W) (H:aA) (ac:List Nat),dH (YG 0) (aF true) (bT (xPl (aF []))) none all r [u] H ac=some (ac++(List.range r.length).map (fun j=>H.length+j),H++List.replicate r.length (.l []))
 | [],u,H,ac=>by simp [dH]
 | x::r,u,H,ac=>by
  rw [dH,cV,if_pos rfl];have e:bT (xPl (aF [])) [some (.d x)] H=some (.c H.length,H++[.l []]):=by simp [bT]
  show ((bT (xPl (aF [])) [some (.d x)] H).bind fun y=>_)=_;rw [e];show dH (YG 0) (aF true) (bT (xPl (aF []))) none all r [some (.d x)] (H++[.l []]) (ac++[H.length])=_;rw [uK r];rw [List.length_cons,List.range_succ_eq_map,List.map_cons,List.map_map]
  congr 2
  ·rw [List.append_assoc,List.length_append]
   congr 1
   show _::_=_::_
   congr 1
   refine List.map_congr_left fun j _=>?_;show H.length+1+j=H.length+(j+1);omega
  ·rw [List.append_assoc];rfl
def gM (hs:List Dd) (j n:Nat):List PyData:=(lot hs j n).map fun (i:Nat)=>PyData.int i
def lcs (hs:List Dd) (n:Nat):aA:=(List.range ((qT hs).length+1)).map fun j=>Cell.l (gM hs j n)
def jV (hs:List Dd) (b:Nat):List W:=(List.range ((qT hs).length+1)).map fun j=>W.c (b+j)
def LH (hs:List Dd) (h:aA) (n:Nat):aA:=h++lcs hs n++[.r (jV hs h.length)]
def lS (hs:List Dd) (n:Nat):(lcs hs n).length=(qT hs).length+1:=by simp [lcs]
def cP1 (hs:List Dd) (n:Nat):(LH hs h n)[h.length+((qT hs).length+1)]?=some (.r (jV hs h.length)):=by
 unfold LH;rw [List.getElem?_append_right (by rw [List.length_append,lS];omega),List.length_append,lS];simp
def cA9 (hs:List Dd) (n:Nat) {j:Nat} (hj:j<=(qT hs).length):(LH hs h n)[h.length+j]?=some (.l (gM hs j n)):=by
 unfold LH;rw [List.getElem?_append_left (by rw [List.length_append,lS];omega),List.getElem?_append_right (by omega)];unfold lcs;simp only [List.getElem?_map];rw [show h.length+j - h.length=j by omega,List.getElem?_range (by omega)];rfl
def qD (hs:List Dd) (j n:Nat):gM hs j (n+1)=gM hs j n++(if ix hs n=j then [.int n] else []):=by
 unfold gM lot;rw [List.range_succ,List.filter_append,List.map_append]
 congr 1
 rw [List.filter_cons]
 by_cases c:ix hs n=j<;>simp [c]
def bO3 (hs:List Dd) (n:Nat):(LH hs h n).set (h.length+ix hs n) (.l (gM hs (ix hs n) n++[.int n]))=LH hs h (n+1):=by
 have hj:ix hs n<=(qT hs).length:=kO _ _;unfold LH;rw [List.set_append_left _ _ (by rw [List.length_append,lS];omega),List.set_append_right _ _ (by omega)]
 congr 2
 apply List.ext_getElem?;intro k;rw [show h.length+ix hs n - h.length=ix hs n by omega];unfold lcs
 by_cases e:k=ix hs n
 ·subst e;rw [List.getElem?_set_self (by simp;omega)];have:=qD hs (ix hs n) n;rw [if_pos rfl] at this;simp only [List.getElem?_map];rw [List.getElem?_range (by omega),<- this];rfl
 ·rw [List.getElem?_set_ne (fun z=>e z.symm)];simp only [List.getElem?_map]
  by_cases c:k < (qT hs).length+1
  ·rw [List.getElem?_range c];have:=qD hs k n;rw [if_neg (fun z=>e z.symm),List.append_nil] at this;show some (Cell.l (gM hs k n))=some (Cell.l (gM hs k (n+1)));rw [this]
  ·rw [List.getElem?_eq_none (by simp;omega)];rfl
theorem aO5:∀ l:List Nat,CI.weqs (l.map .c) (l.map .c)=true
 | []=>rfl
 | a::r=>by
  rw [List.map_cons];show ((a==a)&&CI.weqs _ _)=true;rw [aO5 r];simp
theorem yY {g:XG} {te:XR W} {co:aA->Bool} {H:aA} (hc:co H=true) (F:Nat->W) (f:Nat->PyData):∀ (qs:List Nat) (u:Option W) (ac:List W),(∀ q∈qs,∀ u,∃ v,g (F q) [u] H=some ([v],H)/\te [v] H=some (.d (f q),H))->dD g (aF true) te co (qs.map F) [u] H ac=some (ac++qs.map fun q=>.d (f q),H)
 | [],u,ac,_=>by simp [dD,hc]
 | q::r,u,ac,hx=>by
  obtain ⟨v,e1,e2⟩:=hx q List.mem_cons_self u;rw [List.map_cons,dD,if_pos hc,e1];show ((te [v] H).bind fun y=>dD g (aF true) te co (r.map F) [v] y.2 (ac++[y.1]))=_;rw [e2];show dD g (aF true) te co (r.map F) [v] H (ac++[.d (f q)])=_;rw [yY hc F f r v _ fun y hy=>hx y (List.mem_cons_of_mem _ hy)];simp
theorem plains_d:∀ xs:List PyData,cO (xs.map .d)=some xs
 | []=>rfl
 | x::r=>by rw [List.map_cons,cO,plains_d r];rfl
def pcs (hs:List Dd):List PyData:=if hs.length=0 then [] else (List.range ((qT hs).length+1)).map fun j=>.tuple (gM hs j hs.length)
end K61

namespace K61
open PySem PySem.Spec PyProof.Rows L2 DL CI SJ
def aO6 (d:Nat) (H:aA) {hs:List Dd} {i:Nat} (w4:DSt):aZ (YG 0) (xC1 CmpOp.LtE (aE 0) (YV 1 1)) (aE 0) none ((qT hs).map .int) ((qT hs).map .int) [none,some (.d (gD hs i).dat)] H []=some (((qT hs).filter fun t=>decide (t<=((gD hs i).beg:Int))).map .int,H):=by
 refine cmT PyData.int (fun t=>decide (t<=((gD hs i).beg:Int))) PyData.int (fun δ=>∃ u,δ=[u,some (.d (gD hs i).dat)]) (qT hs) _ [] ⟨_,rfl⟩ fun t ht δ hδ=>?_;obtain ⟨u,rfl⟩:=hδ;have:=dd1 (gD hs i) H;exact ⟨_,rfl,⟨_,rfl⟩,by simp [this],fun _=>by simp⟩
def aO7 (d:Nat) (h:aA) {hs:List Dd} (ok:HOk hs):∃ L:aA,callW T (d+12) "pieces" [.d (.tuple (hs.map Dd.dat))] h=some (.c (h++L).length,h++L++[.l (pcs hs)]):=by
 have lo:=tZ d h ok;have qt:=aO4 (d+8) h (hs:=hs) ok.len;have ln:bI [.d (.tuple (hs.map Dd.dat))] h=some (.d (.int hs.length),h):=by simp
 obtain ⟨ht,eht⟩:∃ ht,ht=PyData.tuple (hs.map Dd.dat):=⟨_,rfl⟩;have xe:∀ H,iW (.d ht) H=some (((List.range hs.length).map (nmD hs),none),H):=fun H=>by rw [eht,rF,rN]
 rw [<- eht] at lo ln qt ⊢;rw [show d+12=(d+11)+1 from rfl,aB9];have l60:=ok.len
 by_cases n0:hs.length=0
 ·refine ⟨[],?_⟩;unfold pcs;rw [if_pos n0,List.append_nil];show QG _ _ _;refine syP [some (.d ht),none,none,none,none] h (by simp [lo]) ?_;show _=_;simp [ln,n0,bT,kW]
 ·refine ⟨lcs hs hs.length++[.r (jV hs h.length)],?_⟩;have n1:¬ hs=[]:=fun z=>n0 (by rw [z];rfl);have el:h++(lcs hs hs.length++[.r (jV hs h.length)])=LH hs h hs.length:=by unfold LH;rw [List.append_assoc]
  rw [el];have qt:aG T (d+11) (Str.ofString "quiet_times") [.d ht] h=some (.tuple ((qT hs).map .int),h):=qt;obtain ⟨m,em⟩:∃ m,m=(qT hs).length:=⟨_,rfl⟩;have mq:(qT hs).length<=60:=by
   have a1:(qT hs).length<=(tS hs).length:=List.length_filter_le _ _;have a2:(tS hs).length<=hs.length:=by
    unfold tS;rw [(ST.srt_perm _).length_eq,List.length_map];exact List.length_filter_le _ _
   omega
  have lq:∀ H,bI [.d (.tuple ((qT hs).map .int))] H=some (.d (.int m),H):=fun H=>by rw [em];simp
  have er:dY 0 ((m:Int)+1)=true:=cZ (by omega) (by omega);have cr:=uK (all:=rng 0 ((m:Int)+1 - 0).toNat) (rng 0 ((m:Int)+1 - 0).toNat) none h [];have rl:(rng 0 ((m:Int)+1 - 0).toNat).length=m+1:=by simp [rng]
  rw [rl,List.nil_append] at cr;have h0:h++List.replicate ((qT hs).length+1) (Cell.l [])++[.r ((List.range ((qT hs).length+1)).map fun j=>W.c (h.length+j))]=LH hs h 0:=by
   unfold LH jV lcs;rw [show (fun j=>Cell.l (gM hs j 0))=fun _=>Cell.l [] from rfl,List.map_const',List.length_range]
  rw [<- em] at h0;have hl:(h++List.replicate (m+1) (Cell.l [])).length=h.length+(m+1):=by simp
  have mm:List.map W.c ((List.range (m+1)).map fun j=>h.length+j)=(List.range (m+1)).map fun j=>W.c (h.length+j):=by rw [List.map_map];rfl
  have me:((m:Int)+1 - 0).toNat=m+1:=by omega
  rw [me] at cr;obtain ⟨Q,eQ⟩:∃ Q,Q=PyData.tuple ((qT hs).map .int):=⟨_,rfl⟩;rw [<- eQ] at qt lq;show QG _ _ _;refine syP [some (.d ht),none,none,none,none] h (by simp [lo]) ?_;refine syP [some (.d ht),none,none,none,none] h (by simp [ln,n1]) ?_;refine syP [some (.d ht),some (.d Q),none,none,none] h (by simp [qt]) ?_;refine syP [some (.d ht),some (.d Q),some (.c (h.length+(m+1))),none,none] (LH hs h 0) ?_ ?_
  ·simp only [nV,nQ,lC,jN,nU,oX,pB,nW,nX,pC,nO,nP,oV,pA,oZ,oW,nR,oY,wB,bdi] at cr;simp [lq,er,cr,mm,hl];rw [<- h0];simp
  have LR:=fun n=>cP1 h hs n;rw [<- em] at LR;refine syE (fun δ H=>(∃ x3 x4,δ=[some (.d ht),some (.d Q),some (.c (h.length+(m+1))),x3,x4])/\H=LH hs h hs.length) ?_ ?_
  ·refine oE (((List.range hs.length).map (nmD hs),none),LH hs h 0) (by simp [xe]) ?_;show ∃ δ2 h2,bY (bH [YG 3,YG 4]) (eI (d+11)) none ((List.range hs.length).map (nmD hs)) ((List.range hs.length).map (nmD hs)) _ _=some (.nx δ2,h2)/\_;refine gY (fun n δ H=>(∃ x3 x4,δ=[some (.d ht),some (.d Q),some (.c (h.length+(m+1))),x3,x4])/\H=LH hs h n) ⟨⟨none,none,rfl⟩,rfl⟩ (fun δ H=>by simp) ?_;rintro n hn δ H ⟨⟨x3,x4,rfl⟩,rfl⟩;have hn:n < hs.length:=by simpa using hn
   refine ⟨[some (.d ht),some (.d Q),some (.c (h.length+(m+1))),some (.d (.int n)),some (.d (gD hs n).dat)],LH hs h n,by simp [nmD,bH,dX],[some (.d ht),some (.d Q),some (.c (h.length+(m+1))),some (.d (.int n)),some (.d (gD hs n).dat)],LH hs h (n+1),?_,⟨_,_,rfl⟩,rfl⟩;have cc:=aO6 d (LH hs h n) (hs:=hs) (i:=n) [];have hj:ix hs n<=(qT hs).length:=kO _ _;have Ll:=cA9 h hs n hj;have st:=bO3 h hs n;have lr:=LR n;have lix:((qT hs).filter fun t=>decide (t<=((gD hs n).beg:Int))).length=ix hs n:=rfl;have rx:xIx (.c (h.length+(m+1))) (.d (.int (ix hs n))) (LH hs h n)=some (.c (h.length+ix hs n),LH hs h n):=by
    have ai:atI (jV hs h.length) (ix hs n:Int)=some (W.c (h.length+ix hs n)):=gT (by unfold jV;rw [List.getElem?_map,List.getElem?_range (by omega)];rfl);simp [xIx,ref,lr,xIr,ai]
   have lz:(gM hs (ix hs n) n).length < 16777216:=by
    unfold gM lot;rw [List.length_map];have:=List.length_filter_le (fun i=>decide (ix hs i=ix hs n)) (List.range n);rw [List.length_range] at this;omega
   have ll:bI [.d (.list (((qT hs).filter fun t=>decide (t<=((gD hs n).beg:Int))).map .int))] (LH hs h n)=some (.d (.int (ix hs n)),LH hs h n):=by rw [<- lix];simp
   have mp:mD "append" (.c (h.length+ix hs n)) (LH hs h n)=true:=by simp [mD,Ll]
   have ap:sB (.c (h.length+ix hs n)) [.d (.int n)] (LH hs h n)=some (.d .none,LH hs h (n+1)):=by rw [<- st];simp [Ll,szl,lz]
   simp only [nV,nQ,lC,jN,nU,oX,pB,nW,nX,pC,nO,nP,oV,pA,oZ,oW,nR,oY,wB,bdi] at cc;generalize ((qT hs).filter fun t=>decide (t<=((gD hs n).beg:Int))).map PyData.int=FF at *;generalize (gD hs n).dat=dd at *;generalize LH hs h n=H1 at *;generalize LH hs h (n+1)=H2 at *;rw [eQ];generalize (qT hs).map PyData.int=QL at *;unfold eI;simp [cc,aN,ll,rx,mp,ap]
  rintro _ _ ⟨⟨x3,x4,rfl⟩,rfl⟩;have lr:=LR hs.length;have wr:wsC (h.length+(m+1)) (LH hs h hs.length)=some (jV hs h.length):=by unfold wsC;rw [lr]
  have rr:jV hs h.length=((List.range ((qT hs).length+1)).map fun j=>h.length+j).map W.c:=by unfold jV;rw [List.map_map];rfl
  have co:coW (h.length+(m+1)) (jV hs h.length) (LH hs h hs.length)=true:=by
   unfold coW;rw [wr,rr];exact aO5 _
  have cw:=yY (g:=YG 0) (te:=YK1 cE (aE 0)) co (fun j=>W.c (h.length+j)) (fun j=>.tuple (gM hs j hs.length)) (List.range ((qT hs).length+1)) none [] fun j hj u=>by
   have hj:=List.mem_range.mp hj;have:=cA9 h hs hs.length (j:=j) (by omega);exact ⟨some (.c (h.length+j)),rfl,by simp [cE,ref,this]⟩
  have pc:plR ((List.range ((qT hs).length+1)).map fun j=>W.d (.tuple (gM hs j hs.length)))=.l (pcs hs):=by
   unfold plR pcs;rw [if_neg n0];have:=plains_d ((List.range ((qT hs).length+1)).map fun j=>PyData.tuple (gM hs j hs.length));rw [List.map_map] at this;show (match cO (List.map (W.d ∘ fun j=>PyData.tuple (gM hs j hs.length)) _) with | some xs=>Cell.l xs | none=>_)=_;rw [this]
  rw [List.nil_append] at cw;show _=_;have cw2:dD (YG 0) (aF true) (YK1 cE (aE 0)) (coW (h.length+(m+1)) (jV hs h.length)) (jV hs h.length) [none] (LH hs h hs.length) []=some ((List.range ((qT hs).length+1)).map fun j=>W.d (.tuple (gM hs j hs.length)),LH hs h hs.length):=cw;simp only [nV,nQ,lC,jN,nU,oX,pB,nW,nX,pC,nO,nP,oV,pA,oZ,oW,nR,oY,wB,bY7,cO2,bdi] at cw2;generalize LH hs h hs.length=H3 at *;generalize jV hs h.length=RR at *;simp [wr,cw2,pc,kW]
end K61

namespace K61
open PySem PySem.Spec PyProof.Rows L2 DL CI SJ
def aO8 (o:One) (n:Nat):aM (n+1) o.dat=true:=by cases o<;>simp [One.dat]
theorem yZ:∀ (os:List One) (n:Nat),plainsB (n+1) (os.map One.dat)=true
 | [],n=>by simp
 | o::r,n=>by simp [aO8,yZ r]
mutual
theorem kQ:∀ (n:Nat) (d:PyData),aM n d=true->CI.peq d d=true/\PyData.eqv d d=true
 | _,.none,_=>⟨rfl,by simp [PyData.eqv]⟩
 | _,.bool b,_=>⟨by simp [CI.peq],by simp [PyData.eqv]⟩
 | _,.int i,_=>⟨by simp [CI.peq],by simp [PyData.eqv]⟩
 | _,.str x,_=>⟨by simp [CI.peq],by simp [PyData.eqv]⟩
 | 0,.list _,h=>nomatch h
 | 0,.tuple _,h=>nomatch h
 | n+1,.list xs,h=>by
  have:=peqs_pl n xs h;exact ⟨by simpa [CI.peq] using this.1,by simpa [PyData.eqv] using this.2⟩
 | n+1,.tuple xs,h=>by
  have:=peqs_pl n xs h;exact ⟨by simpa [CI.peq] using this.1,by simpa [PyData.eqv] using this.2⟩
 | n,.dict _,h=>by cases n<;>cases h
theorem peqs_pl:∀ (n:Nat) (d:List PyData),plainsB n d=true->CI.peqs d d=true/\PyData.eqvAll d d=true
 | _,[],_=>⟨rfl,by simp [PyData.eqvAll]⟩
 | n,x::xs,h=>by
  rw [tL,Bool.and_eq_true] at h;have a:=kQ n x h.1;have b:=peqs_pl n xs h.2;exact ⟨by simp [CI.peqs,a.1,b.1],by simp [PyData.eqvAll,a.2,b.2]⟩
end
theorem lT:∀ {n:Nat} {xs:List PyData},(∀ x∈xs,aM n x=true)->plainsB n xs=true
 | _,[],_=>aV8 _
 | n,x::xs,h=>by rw [tL,h x List.mem_cons_self,lT fun y hy=>h y (List.mem_cons_of_mem _ hy)];rfl
def rU (c:SJ.Call) (n:Nat):aM (n+3) c.dat=true:=by
 cases c with
 | one o=>exact aO8 o (n+2)
 | span lo hi=>simp [Call.dat]
 | deal cs=>simp [Call.dat,yZ]
def aO9 (x:Dd) (n:Nat):aM (n+5) x.dat=true:=by
 obtain ⟨a,b,c,e⟩:=x;cases e with
 | none=>simp [Dd.dat,Dd.endD,Dd.ansD,rU]
 | some p =>
  obtain ⟨t,o⟩:=p;cases o with
  | none=>simp [Dd.dat,Dd.endD,Dd.ansD,anD,tW,rU]
  | some a =>
   have:aM (n+4) a.dat=true:=by
    cases a with
    | one a=>exact aO0 a (n+3)
    | all ns=>simp [Ans.dat,hO]
    | each as=>simp [Ans.dat,yX]
   simp [Dd.dat,Dd.endD,Dd.ansD,anD,rU,this]
def wW (hs:List Dd) (n:Nat):plainsB (n+5) (hs.map Dd.dat)=true:=lT fun x hx=>by
 obtain ⟨y,_,rfl⟩:=List.mem_map.mp hx;exact aO9 y n
def wX (xs:List PyData) (h:plainsB 63 xs=true):aM 64 (.tuple xs)=true:=by
 rw [show (64:Nat)=63+1 from rfl,tK];exact h
def cB0 {a:PyData} (h:aM 64 a=true) (H:aA):xEq (.d a) (.d a) H=some true:=by
 rw [lB,h,(kQ 64 _ h).2];rfl
variable (d:Nat) (h:aA)
def zC (L:List Dd) (H:aA):xEq (.d (.list (L.map Dd.dat))) (.d (.list [])) H=some (decide (L=[])):=by
 have p:aM 64 (.list (L.map Dd.dat))=true:=by rw [show (64:Nat)=63+1 from rfl,yG];exact wW L 58
 rw [lB,p];cases L with
 | nil=>simp [PyData.eqv,PyData.eqvAll]
 | cons a r=>simp [PyData.eqv,PyData.eqvAll]
def aY6 (x y:Dd):aG T (d+1) "_law_ahead" [.d x.dat,.d y.dat] h=some (.bool (x.below y.beg),h):=by
 obtain ⟨hand,beg,call,fin⟩:=x;have y1:=dd1 y h;generalize y.dat=yd at *;cases fin with
 | none=>simp [jP,Dd.dat,Dd.endD,Dd.ansD,Dd.below,asW]
 | some p =>
  have isn:xIs (.d (.int (p.1:Int))) (.d .none)=some false:=rfl;simp [jP,Dd.dat,Dd.endD,Dd.ansD,Dd.below,y1,isn,asW]
def aB (ys:List Dd) (x:Dd):Bool:=ys.all fun y=>x.below y.beg
def bO4 (x:Dd) (ys:List Dd) (w0:W):aO (d+1) [some w0,some (.d (.list (ys.map Dd.dat))),some (.d x.dat)] h=if aB ys x=true then some (.nx [some w0,some (.d (.list (ys.map Dd.dat))),some (.d x.dat)],h) else some (.rt (.d (.bool false)),h):=by
 have cm:aZ (YG 0) (YNt (xb (YF2 false (d+1) "_law_ahead" (aE 1) (aE 0)) YD)) (aE 0) none (ys.map Dd.dat) (ys.map Dd.dat) [none,some (.d x.dat)] h []=some ((ys.filter fun y=>!x.below y.beg).map Dd.dat,h):=by
  refine cmT Dd.dat (fun y=>!x.below y.beg) Dd.dat (fun δ=>∃ u,δ=[u,some (.d x.dat)]) ys _ [] ⟨_,rfl⟩ fun y hy δ hδ=>?_;obtain ⟨u,rfl⟩:=hδ;have:=aY6 d h x y;exact ⟨_,rfl,⟨_,rfl⟩,by simp [this],fun _=>by simp⟩
 have en:=zC (ys.filter fun y=>!x.below y.beg) h;have e:(ys.filter (fun y=>!x.below y.beg)=[]) ↔ aB ys x=true:=by
  unfold aB;rw [List.filter_eq_nil_iff,List.all_eq_true];constructor
  ·intro z y hy;simpa using z y hy
  ·intro z y hy;simpa using z y hy
 simp only [nV,nQ,lC,jN,nU,oX,pB,nW,nX,pC,nO,nP,oV,pA,oZ,oW,nR,oY,wB,bY4,bdi] at cm
 by_cases c:aB ys x=true
 ·rw [decide_eq_true (e.mpr c)] at en;rw [if_pos c];generalize (ys.filter fun y=>!x.below y.beg).map Dd.dat=FF at *;generalize ys.map Dd.dat=YY at *;generalize x.dat=xd at *;unfold aO;simp [cm,aN,en]
 ·rw [decide_eq_false (fun z=>c (e.mp z))] at en;rw [if_neg c];generalize (ys.filter fun y=>!x.below y.beg).map Dd.dat=FF at *;generalize ys.map Dd.dat=YY at *;generalize x.dat=xd at *;unfold aO;simp [cm,aN,en]
theorem aP0 (ys:List Dd) (w0:W) (all:List PyData):∀ (xs:List Dd) (x2:Option W),(xs.all (aB ys)=true->∃ y2,bY (YG 2) (aO (d+1)) none all (xs.map Dd.dat) [some w0,some (.d (.list (ys.map Dd.dat))),x2] h=some (.nx [some w0,some (.d (.list (ys.map Dd.dat))),y2],h))/\(xs.all (aB ys)=false->bY (YG 2) (aO (d+1)) none all (xs.map Dd.dat) [some w0,some (.d (.list (ys.map Dd.dat))),x2] h=some (.rt (.d (.bool false)),h))
 | [],x2=>⟨fun _=>⟨x2,by simp [bY]⟩,fun z=>by simp at z⟩
 | x::r,x2=>by
  have st:=bO4 d h x ys w0;have ih:=aP0 ys w0 all r (some (.d x.dat));rw [List.all_cons,List.map_cons,bY,cV,if_pos rfl];show (_->∃ y2,((aO (d+1) [some w0,some (.d (.list (ys.map Dd.dat))),some (.d x.dat)] h).bind _)=_)/\(_->((aO (d+1) [some w0,some (.d (.list (ys.map Dd.dat))),some (.d x.dat)] h).bind _)=_);rw [st];cases c:aB ys x with
  | true =>
   rw [if_pos rfl];simp only [Bool.true_and];exact ih
  | false =>
   rw [if_neg (by decide)];simp only [Bool.false_and];exact ⟨(fun z=>nomatch z),fun _=>rfl⟩
def bC6 (xs ys:List Dd):aG T (d+2) "_law_all_ahead" [.d (.list (xs.map Dd.dat)),.d (.list (ys.map Dd.dat))] h=some (.bool (xs.all (aB ys)),h):=by
 rw [show d+2=(d+1)+1 from rfl,kH];obtain ⟨w0,ew⟩:∃ w0,w0=W.d (.list (xs.map Dd.dat)):=⟨_,rfl⟩;have it:∀ r,bC (aE 0) (some w0::r) h=some ((xs.map Dd.dat,none),h):=fun r=>by rw [ew];simp
 obtain ⟨l1,l2⟩:=aP0 d h ys w0 (xs.map Dd.dat) xs none;rw [<- ew];show QP h _ _;cases c:xs.all (aB ys) with
 | true =>
  obtain ⟨y2,e⟩:=l1 c;refine syP _ h (ypS ((xs.map Dd.dat,none),h) (it _) e) ?_;show _=_;simp
 | false =>
  refine syR _ h (ypS ((xs.map Dd.dat,none),h) (it _) (l2 c)) ?_;show _=_;simp
def cB1 {xs:List Dd} (no:∀ z∈xs,xs.filter (fun x=>decide (x.beg < z.beg))=[]\/(xs.filter fun x=>decide (x.beg < z.beg)).all (aB (xs.filter fun x=>decide (z.beg<=x.beg)))=false):aG T (d+3) "_law_may_cut" [.d (.list (xs.map Dd.dat))] h=some (.bool false,h):=by
 rw [show d+3=(d+2)+1 from rfl,nZ];obtain ⟨w0,ew⟩:∃ w0,w0=PyData.list (xs.map Dd.dat):=⟨_,rfl⟩;have it:∀ r H,bC (aE 0) (some (.d w0)::r) H=some ((xs.map Dd.dat,none),H):=fun r H=>by rw [ew];simp
 rw [<- ew];show QP h _ _;refine syE (fun δ H=>(∃ x1 x2 x3,δ=[some (.d w0),x1,x2,x3])/\H=h) ?_ ?_
 ·refine oE ((xs.map Dd.dat,none),h) (it _ _) ?_;show ∃ δ2 h2,bY (YG 1) (cJ (d+2)) none (xs.map Dd.dat) (xs.map Dd.dat) _ _=some (.nx δ2,h2)/\_;refine eY (fun δ H=>(∃ x1 x2 x3,δ=[some (.d w0),x1,x2,x3])/\H=h) _ ?_ _ _ ⟨⟨_,_,_,rfl⟩,rfl⟩;rintro x hx δ H ⟨⟨x1,x2,x3,rfl⟩,rfl⟩;obtain ⟨z,hz,rfl⟩:=List.mem_map.mp hx;refine ⟨[some (.d w0),some (.d z.dat),x2,x3],H,rfl,?_⟩;have c1:aZ (YG 0) (xC1 CmpOp.Lt (YV 0 1) (YV 1 1)) (aE 0) none (xs.map Dd.dat) (xs.map Dd.dat) [none,some (.d z.dat)] H []=some ((xs.filter fun x=>decide (x.beg < z.beg)).map Dd.dat,H):=by
   refine cmT Dd.dat (fun x=>decide (x.beg < z.beg)) Dd.dat (fun δ=>∃ u,δ=[u,some (.d z.dat)]) xs _ [] ⟨_,rfl⟩ fun y hy δ hδ=>?_;obtain ⟨u,rfl⟩:=hδ;have a1:=dd1 y H;have a2:=dd1 z H;generalize z.dat=zd at *;exact ⟨_,rfl,⟨_,rfl⟩,by simp [a1,a2],fun _=>by simp⟩
  have c2:aZ (YG 0) (xC1 CmpOp.GtE (YV 0 1) (YV 1 1)) (aE 0) none (xs.map Dd.dat) (xs.map Dd.dat) [none,some (.d z.dat)] H []=some ((xs.filter fun x=>decide (z.beg<=x.beg)).map Dd.dat,H):=by
   refine cmT Dd.dat (fun x=>decide (z.beg<=x.beg)) Dd.dat (fun δ=>∃ u,δ=[u,some (.d z.dat)]) xs _ [] ⟨_,rfl⟩ fun y hy δ hδ=>?_;obtain ⟨u,rfl⟩:=hδ;have a1:=dd1 y H;have a2:=dd1 z H;generalize z.dat=zd at *;exact ⟨_,rfl,⟨_,rfl⟩,by simp [a1,a2],fun _=>by simp⟩
  have en:=zC (xs.filter fun x=>decide (x.beg < z.beg)) H;have ca:=bC6 d H (xs.filter fun x=>decide (x.beg < z.beg)) (xs.filter fun x=>decide (z.beg<=x.beg));have nz:=no z hz;simp only [nV,nQ,lC,jN,nU,oX,pB,nW,nX,pC,nO,nP,oV,pA,oZ,oW,nR,oY,wB,bdi] at c1 c2;obtain ⟨EA,eE⟩:∃ EA,EA=(xs.filter fun x=>decide (x.beg < z.beg)).map Dd.dat:=⟨_,rfl⟩;obtain ⟨LA,eL⟩:∃ LA,LA=(xs.filter fun x=>decide (z.beg<=x.beg)).map Dd.dat:=⟨_,rfl⟩;rw [<- eE] at c1 en ca;rw [<- eL] at c2 ca;unfold cJ;rw [ew] at *;refine sys [some (.d (.list (xs.map Dd.dat))),some (.d z.dat),some (.d (.list EA)),x3] H ?_ ?_
  ·generalize xs.map Dd.dat=XX at *;generalize z.dat=zd at *;simp [c1,aN]
  refine sys [some (.d (.list (xs.map Dd.dat))),some (.d z.dat),some (.d (.list EA)),some (.d (.list LA))] H ?_ ?_
  ·generalize xs.map Dd.dat=XX at *;generalize z.dat=zd at *;simp [c2,aN]
  refine ⟨[some (.d (.list (xs.map Dd.dat))),some (.d z.dat),some (.d (.list EA)),some (.d (.list LA))],H,?_,⟨_,_,_,rfl⟩,rfl⟩
  by_cases q:xs.filter (fun x=>decide (x.beg < z.beg))=[]
  ·rw [decide_eq_true q] at en;generalize xs.map Dd.dat=XX at *;generalize z.dat=zd at *;simp [en,aN]
  ·rw [decide_eq_false q] at en;rw [nz.resolve_left q] at ca;generalize xs.map Dd.dat=XX at *;generalize z.dat=zd at *;simp [en,aN,ca]
 rintro _ _ ⟨⟨x1,x2,x3,rfl⟩,rfl⟩;show _=_;simp
def zE {α:Type} (f:α->List PyData) (qs:List α) {w:W} {c:Cw} (H:aA) (e:∀ r,bC (aE 0) (some w::r) H=some ((qs.map fun q=>.tuple (f q),c),H)) (hc:condB c (qs.map fun q=>.tuple (f q)) H=true) (hl:(qs.flatMap f).length<=1000):aG T (d+1) "_law_flat" [w] H=some (.list (qs.flatMap f),H):=by
 rw [tU];show QP H _ _;refine syP [some w,some (.d (.list [])),none] H (by simp [aN]) ?_;refine syE (fun δ H2=>(∃ x2,δ=[some w,some (.d (.list (qs.flatMap f))),x2])/\H2=H) ?_ ?_
 ·refine oE _ (e _) ?_;show ∃ δ2 h2,bY (YG 2) (cY d) c (qs.map fun q=>.tuple (f q)) (qs.map fun q=>.tuple (f q)) _ _=some (.nx δ2,h2)/\_;refine aC8 (fun m δ H2=>(∃ x2,δ=[some w,some (.d (.list ((qs.take m).flatMap f))),x2])/\H2=H) (fun _ _ _ i=>by rw [i.2];exact hc) ⟨⟨none,rfl⟩,rfl⟩ (fun δ H2=>by rw [List.length_map,List.take_length];exact id) ?_;rintro m hm δ H2 ⟨⟨x2,rfl⟩,rfl⟩;have hm:m < qs.length:=by simpa using hm
  have tk:qs.take (m+1)=qs.take m++[qs[m]]:=by rw [List.take_add_one];simp [hm]
  have sp:qs.flatMap f=((qs.take m).flatMap f++f qs[m])++(qs.drop (m+1)).flatMap f:=by
   rw [show (qs.take m).flatMap f++f qs[m]=(qs.take (m+1)).flatMap f by rw [tk,List.flatMap_append,List.flatMap_cons,List.flatMap_nil,List.append_nil],<- List.flatMap_append,List.take_append_drop]
  rw [sp,List.length_append,List.length_append] at hl;rw [tk];simp only [List.flatMap_append,List.flatMap_cons,List.flatMap_nil,List.append_nil];obtain ⟨A,eA⟩:∃ A,A=(qs.take m).flatMap f:=⟨_,rfl⟩;obtain ⟨B,eB⟩:∃ B,B=f qs[m]:=⟨_,rfl⟩;have lA:A.length+B.length<=16777216:=by rw [eA,eB];omega
  rw [<- eA];refine ⟨[some w,some (.d (.list A)),some (.d (.tuple B))],H2,by rw [List.getElem_map,<- eB];rfl,[some w,some (.d (.list (A++B))),some (.d (.tuple B))],H2,?_,⟨_,by rw [eB]⟩,rfl⟩;unfold cY;simp [aN,mB,ref,szl,lA]
 rintro _ _ ⟨⟨x2,rfl⟩,rfl⟩;show _=_;simp
end K61

namespace K61
open PySem PySem.Spec PyProof.Rows L2 DL CI SJ
def aY7 {hs:List Dd} (ok:∀ x∈hs,x.ok) (l:hs.length<=60):∀ (n j:Nat),n < hs.length->j < n->gtB (gD hs n) (gD hs j)=false->∃ m,BadH m (.tuple (hs.map Dd.dat)):=by
 intro n;induction n using Nat.strongRecOn with
 | ind n ih =>
  intro j hn hj bad
  by_cases q:∃ i j,i < n/\j < i/\gtB (gD hs i) (gD hs j)=false
  ·obtain ⟨i,k,hi,hk,b⟩:=q;exact ih i hi k (by omega) hk b
  ·exact ⟨_,.two ok l hn hj bad fun i k hi hk=>Classical.byContradiction fun z=>q ⟨i,k,hi,hk,by simpa using z⟩⟩
def Bad (w:PyData):Prop:=CI.peq w w=true/\∃ n,BadH n w
theorem bO5:Bad .none:=⟨rfl,_,.form rfl⟩
def aP1 (hs:List Dd):Bad (.list (hs.map Dd.dat)):=⟨(kQ 64 _ (show aM 64 (.list _)=true by rw [show (64:Nat)=63+1 from rfl];simp [wW hs 58])).1,_,.form rfl⟩
def bO6 {hs:List Dd} {x:PyData} (h:aM 63 x=true):plainsB 63 (hs.map Dd.dat++[x])=true:=lT fun y hy=>by
 rcases List.mem_append.mp hy with hy | hy
 ·obtain ⟨z,_,rfl⟩:=List.mem_map.mp hy;exact aO9 z 58
 ·rw [List.mem_singleton.mp hy];exact h
def aP2 {hs:List Dd} {x:PyData} (ok:∀ x∈hs,x.ok) (l:hs.length < 60) (hx:ND x) (p:aM 63 x=true):Bad (.tuple (hs.map Dd.dat++[x])) :=
 ⟨(kQ 64 _ (wX _ (bO6 p))).1,_,.deed ok l hx⟩
def cP2:ND (.int 7):=fun b d h=>by
 have e1:=dB (bm:=b) (d+8) (.int 7) h 5 rfl;simp [hG,e1,show iB (.int 7) 5=false from rfl]
def d33:Dd:=⟨0,3,.one (.read 0),some (3,some (.one (.got 0)))⟩
def cB2:ND d33.dat:=fun b d h=>by
 have hc:=yM (bm:=b) (c:=.one (.read 0)) (d+3) h (show (0:Nat) < 8 by decide);have e1:=dB (bm:=b) (d+8) d33.dat h 5 (bC1 _);have e2:=fM (bm:=b) (d+7) (.int 0) h 0 5 rfl;have e3:=kI (bm:=b) (d+7) h 3;have isn:xIs (.d (.int 3)) (.d .none)=some false:=rfl;have e3:aG (TT b) (d+9) "is_time" [.d (.int 3)] h=some (.bool true,h):=e3;obtain ⟨cd,ec⟩:∃ cd,cd=(SJ.Call.one (.read 0)).dat:=⟨_,rfl⟩;obtain ⟨t,et⟩:∃ t,t=(SJ.Ans.one (.got 0)).dat:=⟨_,rfl⟩;have ed:d33.dat=.tuple [.int 0,.int 3,.int 3,cd,t]:=by rw [ec,et];rfl
 rw [<- ec] at hc;rw [ed] at e1 ⊢;simp [hG,e1,e2,e3,isn,iB,eM,hc]
def aP3 {hs:List Dd} (ok:∀ x∈hs,x.ok) (l:hs.length<=58) {a b:Dd} (ha:a.ok) (hb:b.ok) (ng:gtB b a=false):Bad (.tuple (hs.map Dd.dat++[a.dat,b.dat])):=by
 have e:hs.map Dd.dat++[a.dat,b.dat]=(hs++[a,b]).map Dd.dat:=by simp
 rw [e];refine ⟨(kQ 64 _ (wX _ (wW _ 58))).1,?_⟩;refine aY7 (fun x hx=>?_) (by simp;omega) (hs.length+1) hs.length (by simp) (by omega) ?_
 ·rcases List.mem_append.mp hx with hx | hx
  ·exact ok x hx
  ·simp at hx;rcases hx with rfl | rfl<;>assumption
 ·have e1:gD (hs++[a,b]) (hs.length+1)=b:=by simp [gD,List.getD]
  have e2:gD (hs++[a,b]) hs.length=a:=by simp [gD,List.getD]
  rw [e1,e2,ng]
def fa1:Dd:=⟨0,100000000000000000000000000000000000,.one (.read 0),some (100000000000000000000000000000000001,some (.one (.got 0)))⟩
def fa2:Dd:=⟨1,100000000000000000000000000000000001,.one (.read 0),some (100000000000000000000000000000000002,some (.one (.got 0)))⟩
def bC7 {q b t:Nat} (hq:q<=5) (ht:b < t):(⟨q,b,.one (.read 0),some (t,some (.one (.got 0)))⟩:Dd).ok:=by
 refine ⟨hq,show (0:Nat) < 8 by decide,fun p e=>?_⟩;cases e;exact ⟨ht,fun a e=>by cases e;exact True.intro⟩
def aY8 {hs:List Dd} (ok:∀ x∈hs,x.ok) (l:hs.length<=58):Bad (.tuple (hs.map Dd.dat++[fa1.dat,fa2.dat])):=aP3 ok l (bC7 (by decide) (by decide)) (bC7 (by decide) (by decide)) (by decide)
open Classical in
def atX:XF:=fun ws h=>match ws with
 | [.d w,.d (.int a)]=>if q:Bad w/\(a=0\/a=1\/a=2) then some (aD q.1.2.choose,h) else none
 | _=>none
def cP3 {w:PyData} (hw:Bad w):∃ n,∀ a,(a=0\/a=1\/a=2)->∀ h,atX [.d w,.d (.int a)] h=some (aD n,h):=⟨hw.2.choose,fun a ha h=>by
 have q:Bad w/\(a=0\/a=1\/a=2):=⟨hw,ha⟩;unfold atX;simp only [dif_pos q]⟩
def bO7 {n:Int} {w:PyData} (hw:CI.peq w w=true) {a:Int} (ha:a=0\/a=1\/a=2) (h:aA):tC sA (atB n w) [.d w,.d (.int a)] h=some (aD n,h):=by
 unfold tC;rw [if_pos ⟨by kernel_rfl,by kernel_rfl⟩];have hd:cN (aY sA) [.d w,.d (.int a)]=[some (.d w),some (.d (.int a)),none]:=by kernel_rfl
 rw [hd];rcases ha with rfl | rfl | rfl<;>simp [atB,hw]
def aY9 {S:Sx} {k:Nat} {f:Addr} {fd:FuncData} {ps:List Str} {m:XFW} (e:∀ ws h r,m ws h=some r->∃ m',FnS S k f fd ps m'/\m' ws h=some r):FnS S k f fd ps m :=
 ⟨fun ws h r q=>let ⟨m',F,q'⟩:=e ws h r q;F.len ws h r q',fun hr hk fo md hz R b r q=>let ⟨m',F,q'⟩:=e _ _ _ q;F.run hr hk fo md hz R b r q'⟩
def cB3 {S:Sx} {C J gI P:Addr} {d:Nat} (TO:TopOk T S) (XE:Er S C J gI P) (ip:aN3 S C (d+14)) {f:Addr} {fd:FuncData} (F:Fun S.K "_law_at" "_law_at" sA f fd):FnS S (d+15) f fd (parsOf sA) (toW atX):=by
 refine aY9 fun ws h r e=>?_;obtain ⟨⟨z,h2⟩,e1,e⟩:=bind_some e;cases e;unfold atX at e1;split at e1
 ·rename_i w a;split at e1
  ·rename_i q;cases e1;refine ⟨_,bZ9 (d:=d) TO XE ip q.1.2.choose_spec F,?_⟩;show (tC sA (atB _ w) [.d w,.d (.int a)] h).bind _=_;rw [bO7 q.1.1 q.2];rfl
  ·cases e1
 ·cases e1
end K61

namespace DL
open PySem PySem.Spec PyProof.Rows L2 CI
section
variable {X:Cx} {κ:Kp} {M:Mp} {h h' h1:aA} {s:Shared} {δ δ1:DSt} {x n:Str} {C CJ ea:Addr} {oe:Obj} {A':Around} {E:Value->Shared->Prop} {u0:Value} {b:Bool} {p1 p2 p3 pos:Pos} {v:Evs} {st':Sta} {d:Nat} {t:Stmt} {r:List Stmt} {Q:Flow->Shared->Prop}
end
end DL

namespace CI
open PySem PySem.Spec PyProof.Rows L2 DL
def fnL (t:Top) (d:Nat) (y:Str) (m:XF):Str->Option XF:=fun z=>if z=y then some m else fnT t (fun y=>aG t d y) z
def lG (t:Top) (d:Nat) (y:Str) (m:XF) (x:Str):XF:=match t.defs x with
 | some s=>sF t (fnL t d y m) (obT t (fun y=>callW t d y) (fun y=>callI t d y) fun y=>callM t d y) x s
 | none=>fun _ _=>none
def aZ0 {S:Sx} {t:Top} {x y:Str} {s:Stmt} {m:XF} {f:Addr} {fd:FuncData} {k:Nat} (T:TopOk t S) (hs:t.defs x=some s) (F:Fun S.K x x s f fd) (hm:FnG S k y (toW m)) (hq:autoParam (t.qn x=none) ZR):FnS S (k+1) f fd (parsOf s) (toW (lG t k y m x)):=by
 have e:lG t k y m x=sF t (fnL t k y m) (obT t (fun y=>callW t k y) (fun y=>callI t k y) fun y=>callM t k y) x s:=by
  unfold lG;rw [hs]
 rw [e];have B:TabOk S k (fnT t fun y=>aG t k y) (obT t (fun y=>callW t k y) (fun y=>callI t k y) fun y=>callM t k y):=iR T k;refine bB4 (fun q' e=>by rw [hq] at e;cases e) T F ⟨fun z m' e=>?_,B.fnW,B.cls,B.om,B.fo⟩;unfold fnL at e;split at e
 ·rename_i hz;cases e;rw [hz];exact hm
 ·exact B.fn z m' e
end CI

namespace K61
open PySem PySem.Spec PyProof.Rows L2 DL CI SJ
def YLr (m:XF) (a b:XR W):XR W:=xb (Y2 a b) fun ws _ h=>(m ws h).bind fun p=>some (.d p.1,p.2)
@[simp] theorem cS8 (m:XF) (a b:XR W):YLr m a b=xb (Y2 a b) fun ws _ h=>(m ws h).bind fun p=>some (.d p.1,p.2):=rfl
def cB4 (m:XF) (d:Nat) (w0:W) (h:aA):lG T d "_law_at" m "law" [w0] h =
 YP (YP (aX 0 (xb (aE 0) (YSl (aF none) (xb (YJ 63) YU))) [some w0,none,none,none,none,none,none,none,none,none,none,none] h) (YQ fun δ' p=>YP (aX 1 (xb (aN (xPl (Y2 (xb (YF2 false d "_law_draw" (aE 0) (YJ 2)) (YB .Mod 10)) (YJ 30)))) (YXx (xb (Y1 (bM (xC1 CmpOp.Eq (xb (YF2 false d "_law_draw" (aE 0) (YJ 3)) (YB .Mod 8)) (YJ 5)))) (YKa aE3)))) δ' p.2) (YQ fun δ' p=>YP (aX 2 (xb (Y3 (aE 0) (xb (YJ 1) (YOx .Add (xb (YF2 false d "_law_draw" (aE 0) (YJ 1)) (YB .Mod 3)))) (aE 1)) (YF false d "_law_history")) δ' p.2) (YQ fun δ' p=>YP (aX 3 (xb (Y1 (aE 2)) (YWf d "pieces")) δ' p.2) (YQ fun δ' p=>YP (YP (xb (YNt (xb (xb (aE 3) (YIs "list")) YD)) (YOb (xC1 CmpOp.NotEq (aN (xb (Y1 (YF1 false d "_law_flat" (aE 3))) (YKa iZ))) (aN (xb (Y1 (YK1 bI (aE 2))) (YKa zM))))) δ' p.2) (YT2 false δ')) (YQ fun δ' p=>YP (YP (xb (YK1 bI (aE 3)) YR δ' p.2) (YFr (YG 4) (fK d) δ')) (YQ fun δ' p=>YP (aX 6 (aN (xb (Y1 (aE 3)) (YKa mB))) δ' p.2) (YQ fun δ' p=>YP (YP (xb (aE 3) (fun (w:W) (x:DSt) (h:aA)=>aE8 w h) δ' p.2) (YNx δ')) (YQ fun δ' p=>YP (aX 7 (xb (YJ 10) (YB .Pow 35)) δ' p.2) (YQ fun δ' p=>YP (aX 8 (YTp (Y2 (YTp (Y5 (YJ 0) (aE 7) (xb (aE 7) (YB .Add 1)) (YTp (Y2 (YS "read") (YJ 0))) (YTp (Y2 (YS "got") (YJ 0))))) (YTp (Y5 (YJ 1) (xb (aE 7) (YB .Add 1)) (xb (aE 7) (YB .Add 2)) (YTp (Y2 (YS "read") (YJ 0))) (YTp (Y2 (YS "got") (YJ 0))))))) δ' p.2) (YQ fun δ' p=>YP (aX 9 (aN (xPl (Y4 YZ (aN (xb (Y1 (aE 2)) (YKa mB))) (xb (aE 2) (YOx .Add (YTp (Y1 (YTp (Y5 (YJ 0) (YJ 3) (YJ 3) (YTp (Y2 (YS "read") (YJ 0))) (YTp (Y2 (YS "got") (YJ 0))))))))) (xb (xb (aE 2) (YOx .Add (xb (aE 2) (YSl (aF none) (xb (YJ 1) YU))))) (YOx .Add (YTp (Y1 (YJ 7)))))))) δ' p.2) (YQ fun δ' p=>YP (aX 10 (xb (xb (aE 9) (YOx .Add (aN (xPl (Y1 (xb (aE 2) (YOx .Add (aE 8)))))))) (YXx (xb (YF2 false d "_law_draw" (aE 0) (YJ 321)) (YB .Mod 5)))) δ' p.2) (YQ fun δ' p=>YP (aX 11 (YLr m (aE 10) (YJ 2)) δ' p.2) (YQ fun δ' p=>YRt (xb (bM (xC1 CmpOp.Eq (xb (Y1 (aE 2)) (YWf d "pieces")) (aE 6))) (YAn (xb (bM (xC1 CmpOp.IsNot (aE 11) YZ)) (YAn (xb (bM (xC1 CmpOp.Eq (YLr m (aE 10) (YJ 0)) (aE 11))) (YAn (bM (xC1 CmpOp.Eq (YLr m (aE 10) (YJ 1)) (aE 11)))))))) δ' p.2))))))))))))))) (ends h):=by kernel_rfl
end K61

namespace K61
open PySem PySem.Spec PyProof.Rows L2 DL CI SJ
def bC8 (xs:List PyData) (m:Nat):cut xs none (some (m:Int))=xs.take m:=by
 have e1:HT.sIx xs.length 0 none=0:=by simp [HT.sIx]
 have e2:HT.sIx xs.length xs.length (some (m:Int))=min m xs.length:=by
  unfold HT.sIx;simp only [];rw [if_neg (by omega)];omega
 rw [cut,e1,e2,List.drop_zero];simp
def uL (hs:List Dd) (N:List Nat):List PyData:=(N.map (gD hs)).map Dd.dat
def nI (N:List Nat):List PyData:=N.map fun (i:Nat)=>PyData.int i
def kR (N:List Nat):nI N=(N.map fun i:Nat=>(i:Int)).map .int:=by unfold nI;rw [List.map_map];rfl
def sel {hs:List Dd} {N:List Nat} (hN:∀ i∈N,i < hs.length) (H:aA) (all:List PyData):aZ (YG 0) (aF true) (xb (aE 1) (YXx (aE 0))) none all (nI N) [none,some (.d (.tuple (hs.map Dd.dat)))] H []=some (uL hs N,H):=by
 unfold uL;rw [List.map_map];refine cmM (fun i:Nat=>PyData.int i) (fun i=>(gD hs i).dat) (fun δ=>∃ u,δ=[u,some (.d (.tuple (hs.map Dd.dat)))]) _ _ ⟨_,rfl⟩ fun i hi δ hδ=>?_;obtain ⟨u,rfl⟩:=hδ;have ai:=cA4 (hN i hi) H;refine ⟨_,rfl,⟨_,rfl⟩,?_⟩;generalize PyData.tuple (hs.map Dd.dat)=ht at *;simp [ai]
def dV (sd:PyData) (m:Nat) (ht:PyData) (x3 x4 x5 x6 x7 x8 x9 x10 x11:Option W):DSt:=[some (.d sd),some (.d (.int m)),some (.d ht),x3,x4,x5,x6,x7,x8,x9,x10,x11]
def aZ1 (a b:Int):∃ m:Nat,m<=30/\atI [PyData.int (a%10),.int 30] (if b%8=5 then 1 else 0)=some (.int m):=by
 by_cases c:b%8=5
 ·exact ⟨30,by decide,by simp [c]⟩
 ·refine ⟨(a%10).toNat,by omega,?_⟩;have:((a%10).toNat:Int)=a%10:=by omega
  simp [c,this]
noncomputable def ddP (a b:PyData):PyData:=.tuple [a,b]
def bO8:PyData.tuple [.tuple [.int 0,.int 100000000000000000000000000000000000,.int 100000000000000000000000000000000001,.tuple [.str (Str.ofString "read"),.int 0],.tuple [.str (Str.ofString "got"),.int 0]],.tuple [.int 1,.int 100000000000000000000000000000000001,.int 100000000000000000000000000000000002,.tuple [.str (Str.ofString "read"),.int 0],.tuple [.str (Str.ofString "got"),.int 0]]]=ddP fa1.dat fa2.dat:=rfl
def aZ2:PyData.tuple [.int 0,.int 3,.int 3,.tuple [.str (Str.ofString "read"),.int 0],.tuple [.str (Str.ofString "got"),.int 0]]=d33.dat:=rfl
def cB5 (hs:List Dd):List PyData:=[.none,.list (hs.map Dd.dat),.tuple (hs.map Dd.dat++[d33.dat]),.tuple (hs.map Dd.dat++((hs.map Dd.dat).take 1++[.int 7])),.tuple (hs.map Dd.dat++[fa1.dat,fa2.dat])]
def bO9 {hs:List Dd} (ok:∀ x∈hs,x.ok) (l:hs.length<=30) (c:Int):∃ u,atI (cB5 hs) (c%5)=some u/\Bad u:=by
 have:c%5=0\/c%5=1\/c%5=2\/c%5=3\/c%5=4:=by omega
 rcases this with z | z | z | z | z<;>rw [z]
 ·exact ⟨_,rfl,bO5⟩
 ·exact ⟨_,rfl,aP1 hs⟩
 ·exact ⟨_,rfl,aP2 ok (by omega) cB2 (aO9 _ 58)⟩
 ·refine ⟨_,rfl,?_⟩;rw [<- List.append_assoc,<- List.map_take,<- List.map_append];refine aP2 (fun x hx=>?_) ?_ cP2 rfl
  ·rcases List.mem_append.mp hx with hx | hx
   ·exact ok x hx
   ·exact ok x (List.mem_of_mem_take hx)
  ·rw [List.length_append,List.length_take];omega
 ·exact ⟨_,rfl,aY8 ok (by omega)⟩
def RT (x:Option (Fl×aA)):Prop:=∃ L,x=some (.rt (.d (.bool true)),L)
def cP4 {x:Option (Fl×aA)} (e:RT x):x.bind (ends [])=some (.bool true,[]):=by
 obtain ⟨L,rfl⟩:=e;have ok:okP [] L:=fun i c hi e'=>absurd hi (Nat.not_lt_zero _);rw [CI.bs,aL2,if_pos ok];rfl
def nL (hs:List Dd):Nat:=if hs.length=0 then 0 else (qT hs).length+1
def lt (hs:List Dd) (k:Nat):List Nat:=lot hs k hs.length
def aP4 (hs:List Dd):pcs hs=(List.range (nL hs)).map fun k=>.tuple (nI (lt hs k)):=by
 unfold pcs nL;split<;>rfl
def oM {hs:List Dd} {k i:Nat} (h:i∈lt hs k):i < hs.length:=(mem_lot.mp h).1
def bP0 {hs:List Dd} {k:Nat} (h:k < nL hs):0 < hs.length/\k<=(qT hs).length:=by
 unfold nL at h;split at h
 ·omega
 ·omega
def aC9 {hs:List Dd} (ok:HOk hs):((List.range (nL hs)).flatMap (lt hs)).Nodup/\∀ i,i∈(List.range (nL hs)).flatMap (lt hs) ↔ i < hs.length:=by
 constructor
 ·unfold List.Nodup;rw [List.pairwise_flatMap];refine ⟨fun k _=>(aO2 hs k hs.length).imp fun {a b} h e=>by omega,List.pairwise_lt_range.imp fun {a b} h x hx y hy e=>?_⟩;subst e;have:=(mem_lot.mp hx).2;have:=(mem_lot.mp hy).2;omega
 ·intro i;rw [List.mem_flatMap];constructor
  ·rintro ⟨k,_,h⟩;exact oM h
  ·intro h;refine ⟨ix hs i,?_,mem_lot.mpr ⟨h,rfl⟩⟩;rw [List.mem_range];unfold nL;rw [if_neg (by omega)];have:=kO (qT hs) (gD hs i).beg;unfold ix;omega
def bP1 {N:List Nat} (h:N.Pairwise (· < ·)):ST.srt (N.map fun i:Nat=>(i:Int))=N.map fun i:Nat=>(i:Int):=by
 have p:(N.map fun i:Nat=>(i:Int)).Pairwise (· < ·):=List.pairwise_map.mpr (h.imp fun {a b} z=>by omega);exact aN9 (wV (p.imp fun {x y} z e=>by omega)) p fun x=>by rw [(ST.srt_perm _).mem_iff]
def oN {hs:List Dd} (ok:HOk hs):ST.srt (((List.range (nL hs)).flatMap (lt hs)).map fun i:Nat=>(i:Int))=(List.range hs.length).map fun i:Nat=>(i:Int):=by
 obtain ⟨nd,mem⟩:=aC9 ok;have p:((List.range hs.length).map fun i:Nat=>(i:Int)).Pairwise (· < ·):=List.pairwise_map.mpr (List.pairwise_lt_range.imp fun {a b} z=>by omega);refine aN9 (wV (List.pairwise_map.mpr (nd.imp fun {a b} z e=>z (by omega)))) p fun x=>?_;rw [(ST.srt_perm _).mem_iff,List.mem_map,List.mem_map];constructor
 ·rintro ⟨i,hi,rfl⟩;exact ⟨i,List.mem_range.mpr ((mem i).mp hi),rfl⟩
 ·rintro ⟨i,hi,rfl⟩;exact ⟨i,(mem i).mpr (List.mem_range.mp hi),rfl⟩
def aZ3 {hs:List Dd} (ok:HOk hs) {k:Nat}:∀ z∈(lt hs k).map (gD hs),((lt hs k).map (gD hs)).filter (fun x=>decide (x.beg < z.beg))=[]\/(((lt hs k).map (gD hs)).filter fun x=>decide (x.beg < z.beg)).all (aB (((lt hs k).map (gD hs)).filter fun x=>decide (z.beg<=x.beg)))=false:=by
 intro z hz;obtain ⟨i,hi,rfl⟩:=List.mem_map.mp hz
 by_cases e:((lt hs k).map (gD hs)).filter (fun x=>decide (x.beg < (gD hs i).beg))=[]
 ·exact .inl e
 ·right;obtain ⟨y,hy⟩:=List.exists_mem_of_ne_nil _ e;obtain ⟨h1,h2⟩:=List.mem_filter.mp hy;obtain ⟨a,ha,rfl⟩:=List.mem_map.mp h1;obtain ⟨x,hx,x1,w,hw,w1,w2⟩:=bO1 ok hi a ha (by simpa using h2);rw [List.all_eq_false];refine ⟨gD hs x,List.mem_filter.mpr ⟨List.mem_map_of_mem hx,by simpa using x1⟩,?_⟩;unfold aB;rw [Bool.not_eq_true,List.all_eq_false];exact ⟨gD hs w,List.mem_filter.mpr ⟨List.mem_map_of_mem hw,by simpa using w1⟩,by rw [w2];decide⟩
def aD0 {hs:List Dd} (ok:HOk hs) {k:Nat}:((lt hs k).map (gD hs)).all (aB (((((List.range (nL hs)).drop (k+1)).flatMap (lt hs)).map (gD hs))))=true:=by
 rw [List.all_eq_true];intro x hx;obtain ⟨i,hi,rfl⟩:=List.mem_map.mp hx;unfold aB;rw [List.all_eq_true];intro y hy;obtain ⟨j,hj,rfl⟩:=List.mem_map.mp hy;obtain ⟨l,hl,hj⟩:=List.mem_flatMap.mp hj;have kl:k < l:=by
  obtain ⟨q,hq,eq⟩:=List.getElem_of_mem hl;rw [List.getElem_drop,List.getElem_range] at eq;omega
 exact oK ok (oM hi) (oM hj) (by rw [(mem_lot.mp hi).2,(mem_lot.mp hj).2];exact kl)
end K61

namespace K61
open PySem PySem.Spec PyProof.Rows L2 DL CI SJ
def bC9 (N:List Nat) (n:Nat):plainsB n (nI N)=true:=by rw [kR];exact hO _ n
def cP5 (hs:List Dd) (ks:List Nat):plainsB 63 (ks.map fun k=>PyData.tuple (nI (lt hs k)))=true:=lT fun y hy=>by
 obtain ⟨k,_,rfl⟩:=List.mem_map.mp hy;rw [show (63:Nat)=62+1 from rfl,tK];exact bC9 _ _
def aZ4 {N:List Nat} (h:N≠[]) (H:aA):xEq (.d (.tuple (nI N))) (.d (.tuple [])) H=some false:=by
 have p:aM 64 (.tuple (nI N))=true:=wX _ (bC9 _ _);rw [lB,p];cases N with
 | nil=>exact (h rfl).elim
 | cons a r=>simp [nI,PyData.eqv,PyData.eqvAll]
def lU (hs:List Dd) (ks:List Nat):(ks.flatMap fun k=>nI (lt hs k))=nI (ks.flatMap (lt hs)):=by
 unfold nI;rw [List.map_flatMap]
def bD (sd:PyData) (m:Nat) (ht:PyData) (t:Nat) (x4 x5:Option W):DSt:=dV sd m ht (some (.c t)) x4 x5 none none none none none none
def bP2 (d:Nat) {hs:List Dd} (ok:HOk hs) (sd:PyData) (m t:Nat) {H:aA} (hH:H[t]?=some (.l (pcs hs))) {k:Nat} (hk:k < nL hs) (x5:Option W):∃ y5,fK (d+14) (bD sd m (.tuple (hs.map Dd.dat)) t (some (.d (.int k))) x5) H=some (.nx (bD sd m (.tuple (hs.map Dd.dat)) t (some (.d (.int k))) y5),H):=by
 obtain ⟨n0,hk2⟩:=bP0 hk;obtain ⟨i0,hi0⟩:=bO0 ok n0 hk2;have hne:lt hs k≠[]:=fun z=>by
  have:i0∈lt hs k:=hi0;rw [z] at this;cases this
 have pe:=aP4 hs;have ix:xIx (.c t) (.d (.int k)) H=some (.d (.tuple (nI (lt hs k))),H):=by
  rw [uI hH,gT (v:=PyData.tuple (nI (lt hs k))) (by rw [pe];simp [hk])];rfl
 have lk:(lt hs k).length<=60:=by
  have l1:(lt hs k).length<=hs.length:=by
   have:=List.length_filter_le (fun i=>decide (K61.ix hs i=k)) (List.range hs.length);rw [List.length_range] at this;exact this
  have:=ok.len;omega
 have en:=aZ4 hne H;have st:iZ [.d (.tuple (nI (lt hs k)))] H=some (nI (lt hs k),H):=by
  have:=bN8 (w:=.d (.list (((lt hs k).map fun i:Nat=>(i:Int)).map .int))) (H:=H) (ns:=(lt hs k).map fun i:Nat=>(i:Int)) rfl (by rw [List.length_map];omega);rw [bP1 (N:=lt hs k) (aO2 hs k hs.length),<- kR] at this;exact this
 have e1:xEq (.d (.list (nI (lt hs k)))) (.d (.list (nI (lt hs k)))) H=some true:=by rw [kR];exact yW _ H
 have s1:=sel (N:=lt hs k) (fun i hi=>oM hi) H (nI (lt hs k));have cc:=cB1 (d+11) H (aZ3 ok (k:=k));have cc:aG T (d+14) (Str.ofString "_law_may_cut") [.d (.list (uL hs (lt hs k)))] H=some (.bool false,H):=cc;obtain ⟨ks,eks⟩:∃ ks,ks=(List.range (nL hs)).drop (k+1):=⟨_,rfl⟩;have lP:(pcs hs).length=nL hs:=by rw [pe];simp
 have ml:∀ i∈ks.flatMap (lt hs),i < hs.length:=fun i hi=>by
  obtain ⟨l,_,h⟩:=List.mem_flatMap.mp hi;exact oM h
 have lf:(ks.flatMap (lt hs)).length<=1000:=by
  have a1:(ks.flatMap (lt hs)).length<=((List.range (nL hs)).flatMap (lt hs)).length:=by
   have:(List.range (nL hs)).flatMap (lt hs)=((List.range (nL hs)).take (k+1)).flatMap (lt hs)++ks.flatMap (lt hs):=by rw [eks,<- List.flatMap_append,List.take_append_drop]
   rw [this,List.length_append];omega
  have a2:((List.range (nL hs)).flatMap (lt hs)).length=hs.length:=by
   have:=congrArg List.length (oN ok);rw [(ST.srt_perm _).length_eq] at this
   simpa using this
  have:=ok.len;omega
 have sl:xSl (.c t) (some ((k:Int)+1)) none H=some (.d (.list (ks.map fun k=>.tuple (nI (lt hs k)))),H):=by
  have:=wM (pcs hs) (m:=k+1) (by rw [lP];omega);rw [pe,<- List.map_drop,<- eks,<- pe] at this;have this:cut (pcs hs) (some ((k:Int)+1)) none=ks.map fun k=>.tuple (nI (lt hs k)):=this;simp [xSl,ref,hH,this]
 have cf:=zE (d+13) (fun k=>nI (lt hs k)) ks (w:=.d (.list (ks.map fun k=>.tuple (nI (lt hs k))))) (c:=none) H (fun r=>by simp) rfl (by rw [lU];unfold nI;rw [List.length_map];exact lf);rw [lU] at cf;have cf:aG T (d+14) (Str.ofString "_law_flat") [.d (.list (ks.map fun k=>.tuple (nI (lt hs k))))] H=some (.list (nI (ks.flatMap (lt hs))),H):=cf;have s2:=sel ml H (nI (ks.flatMap (lt hs)));have ca:=bC6 (d+12) H ((lt hs k).map (gD hs)) ((ks.flatMap (lt hs)).map (gD hs));rw [eks,aD0 ok,<- eks] at ca;have ca:aG T (d+14) (Str.ofString "_law_all_ahead") [.d (.list (uL hs (lt hs k))),.d (.list (uL hs (ks.flatMap (lt hs))))] H=some (.bool true,H):=ca;obtain ⟨ht,eht⟩:∃ ht,ht=PyData.tuple (hs.map Dd.dat):=⟨_,rfl⟩;rw [<- eht] at s1 s2 ⊢;refine ⟨some (.d (.list (uL hs (ks.flatMap (lt hs))))),?_⟩;simp only [nV,nQ,lC,jN,nU,oX,pB,nW,nX,pC,nO,nP,oV,pA,oZ,oW,nR,oY,bY6,bdi] at s1 s2;generalize (ks.map fun k=>PyData.tuple (nI (lt hs k)))=KS at *;generalize nI (ks.flatMap (lt hs))=N2 at *;generalize uL hs (ks.flatMap (lt hs))=D2 at *;generalize uL hs (lt hs k)=D1 at *;generalize nI (lt hs k)=N1 at *;unfold fK bD dV;refine sy [some (.d sd),some (.d (.int m)),some (.d ht),some (.c t),some (.d (.int k)),x5,none,none,none,none,none,none] H (by simp [ix,isi,fS,en,mB,ref,st,e1,aN,szl]) ?_;refine sy [some (.d sd),some (.d (.int m)),some (.d ht),some (.c t),some (.d (.int k)),x5,none,none,none,none,none,none] H (by simp [ix,s1,cc,aN]) ?_;refine sy [some (.d sd),some (.d (.int m)),some (.d ht),some (.c t),some (.d (.int k)),some (.d (.list D2)),none,none,none,none,none,none] H (by simp [sl,cf,s2,aN]) ?_;simp [ix,s1,ca,aN]
end K61

namespace K61
open PySem PySem.Spec PyProof.Rows L2 DL CI SJ
def bP3 {j:Nat} {xs:List PyData} {H:aA} (p:plainsB 63 xs=true) (e:H[j]?=some (.l xs)):condB (some (j,false)) xs H=true:=by
 simp [CI.condB,e,(peqs_pl 63 xs p).1]
def cB6 {xs:List PyData} {u w:W} {H:aA} (p:plainsB 63 xs=true) (e1:ref H u=some (.list xs)) (e2:ref H w=some (.list xs)):xEq u w H=some true:=by
 have q:aM 64 (.list xs)=true:=p;simp only [xEq,e1,e2,q,(kQ 64 _ q).2,Bool.and_self,if_true]
def bP4 (S:List Int) (d:Nat):lG T (d+14) "_law_at" atX "law" [.d (.list (S.map .int))] []=some (.bool true,[]):=by
 have e8:bS 8=true:=by decide
 have e10:bS 10=true:=by decide
 have e3:bS 3=true:=by decide
 have e5:bS 5=true:=by decide
 have p35:pG 10 35=true:=by decide
 rw [cB4];refine cP4 ?_;have c63:cut (S.map PyData.int) none (some 63)=(S.take 63).map PyData.int:=by
  rw [List.map_take];exact bC8 _ 63
 refine syP [some (.d (.list ((S.take 63).map .int))),none,none,none,none,none,none,none,none,none,none,none] [] (by
  generalize S.map PyData.int=SS at *;simp [c63]) ?_
 generalize S.take 63=S;obtain ⟨sd,esd⟩:∃ sd,sd=PyData.list (S.map .int):=⟨_,rfl⟩;have dr:∀ (k:Nat) H,aG T (d+14) (Str.ofString "_law_draw") [.d sd,.d (.int k)] H=some (.int (drF S k),H):=fun k H=>by rw [esd];exact wR (d+13) H S k
 have dr1:=dr 1;have dr2:=dr 2;have dr3:=dr 3;have dr321:=dr 321;simp only [show ((1:Nat):Int)=1 from rfl,show ((2:Nat):Int)=2 from rfl,show ((3:Nat):Int)=3 from rfl,show ((321:Nat):Int)=321 from rfl] at dr1 dr2 dr3 dr321;rw [<- esd];obtain ⟨m,hm,am⟩:=aZ1 (drF S 2) (drF S 3);obtain ⟨hn,h0,h4,eh⟩:∃ n:Nat,0 < n/\n<=3/\1+drF S 1%3=(n:Int):=⟨(1+drF S 1%3).toNat,by omega,by omega,by omega⟩;obtain ⟨hs,ok,lm,ch⟩:=aC7 (d+8) [] S (hands:=hn) (most:=m) h0 (by omega) (by omega);have ch:aG T (d+14) (Str.ofString "_law_history") [.d sd,.d (.int hn),.d (.int m)] []=some (.tuple (hs.map Dd.dat),[]):=by rw [esd];exact ch
 have l30:hs.length<=30:=by omega
 have cp:=fun H=>aO7 (d+2) H ok;have ls:=fun (t:Nat) {H:aA} (e:H[t]?=some (.l (pcs hs))) {k:Nat} (hk:k < nL hs) x5=>bP2 d ok sd m t e hk x5;have pe:=aP4 hs;have pP:plainsB 63 (pcs hs)=true:=by rw [pe];exact cP5 hs _
 have lP:(pcs hs).length=nL hs:=by rw [pe];simp
 have fl:((List.range (nL hs)).flatMap (lt hs)).length=hs.length:=by
  have:=congrArg List.length (oN ok);rw [(ST.srt_perm _).length_eq] at this
  simpa using this
 have cf:=fun (t:Nat) {H:aA} (e:H[t]?=some (.l (pcs hs)))=>zE (d+13) (fun k=>nI (lt hs k)) (List.range (nL hs)) (w:=.c t) (c:=some (t,false)) H (fun r=>by rw [<- pe];simp [e]) (by rw [<- pe];exact bP3 pP e) (by rw [lU];unfold nI;rw [List.length_map];omega);rw [lU] at cf;have sf:∀ H,iZ [.d (.list (nI ((List.range (nL hs)).flatMap (lt hs))))] H=some (nI (List.range hs.length),H):=fun H=>by
  have:=bN8 (w:=.d (.list ((((List.range (nL hs)).flatMap (lt hs)).map fun i:Nat=>(i:Int)).map .int))) (H:=H) (ns:=((List.range (nL hs)).flatMap (lt hs)).map fun i:Nat=>(i:Int)) rfl (by rw [List.length_map];omega);rw [oN ok,<- kR,<- kR] at this;exact this
 have nLl:nL hs<=1000:=by
  have a1:(qT hs).length<=(tS hs).length:=List.length_filter_le _ _;have a2:(tS hs).length<=hs.length:=by
   unfold tS;rw [(ST.srt_perm _).length_eq,List.length_map];exact List.length_filter_le _ _
  unfold nL;split<;>omega
 obtain ⟨ht,eht⟩:∃ ht,ht=PyData.tuple (hs.map Dd.dat):=⟨_,rfl⟩;rw [<- eht] at ch cp ls;have cp:∀ H,∃ L,callW T (d+14) (Str.ofString "pieces") [.d ht] H=some (.c (H++L).length,H++L++[.l (pcs hs)]):=cp;generalize pcs hs=P at *;refine syP [some (.d sd),some (.d (.int m)),none,none,none,none,none,none,none,none,none,none] [] (by simp [dr2,dr3,e8,e10,am,szl,aE3,asW]) ?_;refine syP (dV sd m ht none none none none none none none none none) [] (by simp [dV,dr1,e3,eh,ch]) ?_;obtain ⟨L,cp1⟩:=cp [];obtain ⟨t,et⟩:∃ t,t=([]++L).length:=⟨_,rfl⟩;obtain ⟨H1,eH1⟩:∃ H1,H1=[]++L++[Cell.l P]:=⟨_,rfl⟩;have ht1:H1[t]?=some (.l P):=by rw [eH1,et];simp
 rw [<- et,<- eH1] at cp1;refine syP (dV sd m ht (some (.c t)) none none none none none none none none) H1 (by simp [dV,cp1]) ?_;have cf1:aG T (d+14) (Str.ofString "_law_flat") [.c t] H1=some (.list (nI ((List.range (nL hs)).flatMap (lt hs))),H1):=cf t ht1;have sf1:=sf H1;have er:dY 0 (hs.length:Int)=true:=cZ (by omega) (by omega);have ln:bI [.d ht] H1=some (.d (.int hs.length),H1):=by rw [eht];simp
 have e1:xEq (.d (.list (nI (List.range hs.length)))) (.d (.list (nI (List.range hs.length)))) H1=some true:=by rw [kR];exact yW _ H1
 have rg:zM [.d (.int hs.length)] H1=some (nI (List.range hs.length),H1):=by
  unfold zM;dsimp only;rw [if_pos er];have:((hs.length:Int) - 0).toNat=hs.length:=by omega
  rw [this,bC5];rfl
 have rt:ref H1 (.c t)=some (.list P):=by simp [ref,ht1]
 refine syP (dV sd m ht (some (.c t)) none none none none none none none none) H1 (by
  generalize nI ((List.range (nL hs)).flatMap (lt hs))=F1 at *;generalize nI (List.range hs.length)=F2 at *;generalize hs.length=n at *;simp [dV,rt,isi,fS,cf1,sf1,ln,rg,e1,aN]) ?_
 refine syE (fun δ H=>(∃ x4 x5,δ=bD sd m ht t x4 x5)/\H=H1) ?_ ?_
 ·have e2:dY 0 (nL hs:Int)=true:=cZ (by omega) (by omega);have l1:bI [.c t] H1=some (.d (.int (nL hs)),H1):=by rw [<- lP];simp [bI,ref,ht1]
  refine oE ((rng 0 (nL hs),none),H1) (by simp [dV,l1,e2]) ?_;show ∃ δ2 h2,bY (YG 4) (fK (d+14)) none (rng 0 (nL hs)) (rng 0 (nL hs)) _ _=some (.nx δ2,h2)/\_;rw [bC5];refine gY (fun _ δ H=>(∃ x4 x5,δ=bD sd m ht t x4 x5)/\H=H1) ⟨⟨none,none,rfl⟩,rfl⟩ (fun δ H i=>i) ?_;rintro k hk δ H ⟨⟨x4,x5,rfl⟩,rfl⟩;have hk:k < nL hs:=by simpa using hk
  obtain ⟨y5,st⟩:=ls t ht1 hk x5;refine ⟨bD sd m ht t (some (.d (.int k))) x5,H,?_,_,_,st,⟨_,_,rfl⟩,rfl⟩;rw [List.getElem_map,List.getElem_range];rfl
 rintro _ H' ⟨⟨x4,x5,rfl⟩,eH'⟩;rw [eH'];clear eH';have tl:t < H1.length:=(List.getElem?_eq_some_iff.mp ht1).1;refine syP (dV sd m ht (some (.c t)) x4 x5 (some (.d (.list P))) none none none none none) H1 (by simp [bD,dV,mB,rt,aN]) ?_;obtain ⟨H2,eH2⟩:∃ H2,H2=H1.set t (.l []):=⟨_,rfl⟩;refine syP (dV sd m ht (some (.c t)) x4 x5 (some (.d (.list P))) none none none none none) H2 (by rw [eH2];simp [dV,aE8,ht1]) ?_;refine syP (dV sd m ht (some (.c t)) x4 x5 (some (.d (.list P))) (some (.d (.int 100000000000000000000000000000000000))) none none none none) H2 (by simp [dV,p35]) ?_;refine syP (dV sd m ht (some (.c t)) x4 x5 (some (.d (.list P))) (some (.d (.int 100000000000000000000000000000000000))) (some (.d (ddP fa1.dat fa2.dat))) none none none) H2 (by rw [<- bO8];simp [dV,szl]) ?_;obtain ⟨u,au,bu⟩:=bO9 ok.ok l30 (drF S 321);obtain ⟨n,ax⟩:=cP3 bu;have a0:=ax 0 (.inl rfl);have a1:=ax 1 (.inr (.inl rfl));have a2:=ax 2 (.inr (.inr rfl));unfold cB5 at au;obtain ⟨qs,eqs⟩:∃ qs,qs=hs.map Dd.dat:=⟨_,rfl⟩;have lq:qs.length<=30:=by rw [eqs,List.length_map];exact l30
 have c1:cut qs none (some 1)=qs.take 1:=bC8 qs 1;have l1:(qs.take 1).length<=1:=by rw [List.length_take];omega
 rw [<- eqs] at au eht;rw [eht];generalize qs.take 1=q1' at au c1 l1;have m1:qs.length<=16777215:=by omega
 have m2:qs.length+q1'.length<=16777216:=by omega
 have m3:qs.length+q1'.length<=16777215:=by omega
 have m4:qs.length<=16777214:=by omega
 obtain ⟨x7,ex7⟩:∃ x7,x7=some (W.d (.int 100000000000000000000000000000000000)):=⟨_,rfl⟩;rw [<- ex7];refine syP (dV sd m (.tuple qs) (some (.c t)) x4 x5 (some (.d (.list P))) x7 (some (.d (ddP fa1.dat fa2.dat))) (some (.d (.list [.none,.list qs,.tuple (qs++[d33.dat]),.tuple (qs++(q1'++[.int 7]))]))) none none) H2 (by rw [<- aZ2];simp [dV,szl,mB,ref,aN,c1,m1,m2,m3]) ?_;generalize d33.dat=D33 at *;generalize fa1.dat=F1 at *;generalize fa2.dat=F2 at *;refine syP (dV sd m (.tuple qs) (some (.c t)) x4 x5 (some (.d (.list P))) x7 (some (.d (ddP F1 F2))) (some (.d (.list [.none,.list qs,.tuple (qs++[D33]),.tuple (qs++(q1'++[.int 7]))]))) (some (.d u)) none) H2 (by simp [dV,szl,aN,ddP,m4,dr321,e5,au]) ?_;refine syP (dV sd m (.tuple qs) (some (.c t)) x4 x5 (some (.d (.list P))) x7 (some (.d (ddP F1 F2))) (some (.d (.list [.none,.list qs,.tuple (qs++[D33]),.tuple (qs++(q1'++[.int 7]))]))) (some (.d u)) (some (.d (aD n)))) H2 (by simp [dV,a2]) ?_;have isn:xIs (.d (aD n)) (.d .none)=some false:=rfl;rw [eht] at cp;obtain ⟨L2,cp2⟩:=cp H2;have ep:=cB6 (u:=.c (H2++L2).length) (w:=.d (.list P)) (H:=H2++L2++[.l P]) pP (by simp [ref]) rfl;obtain ⟨H3,eH3⟩:∃ H3,H3=H2++L2++[Cell.l P]:=⟨_,rfl⟩;rw [<- eH3] at cp2 ep;generalize (H2++L2).length=t2 at *;have ea:=cB0 (a:=aD n) (by simp [aD]) H3;refine ⟨H3,?_⟩;simp [dV,cp2,ep,isn,a0,a1,ea,asW]
end K61

namespace DL
open PySem PySem.Spec PyProof.Rows L2 CI
section
variable {X:Cx} {κ κ0 κ1:Kp} {M M1 M2:Mp} {S:Sx} {h h1 h':aA} {s s':Shared} {δ:DSt} {x:W} {u:Value} {v:Evs} {st:Sta} {d:Nat} {pos p:Pos} {C:Addr} {nA:Option Int}
def Mem.cutK (R0:Mem S κ0 M h s) (l:Le M M2) (R:Mem S κ M2 h1 s') (ok:okP h h1):Mem S κ ⟨M2.Z,M.m⟩ (h1.take h.length) s':=by
 obtain ⟨k,ek⟩:=l.m;have em:M.m=M2.m.take h.length:=by rw [ek,<- R0.len];simp
 have lt:h.length<=h1.length:=by rw [<- R.len,ek,<- R0.len];simp
 have at_:∀ {i:Nat} {p:Addr×Addr},M.m[i]?=some p->M2.m[i]?=some p:=fun e=>l.at e;have sub:∀ p∈M.m,p∈M2.m:=fun p hp=>by rw [ek];exact List.mem_append_left _ hp
 refine ⟨R.z,R.k,by rw [List.length_take];show M.m.length=_;rw [R0.len];omega,fun i j p q a b=>R.ap i j p q (at_ a) (at_ b),fun p hp=>R.off p (sub p hp),fun i p c a b=>?_,R.base,R.bare,R.os⟩;have a:M.m[i]?=some p:=a;have hi:i < h.length:=by rw [<- R0.len];exact (List.getElem?_eq_some_iff.mp a).1
 rw [List.getElem?_take_of_lt hi] at b;have lo:Low h.length c:=by
  rcases ok i c hi b with z | z
  ·exact sZ z
  ·have:=aK2 (R0.cel i p c a z)
   rwa [R0.len] at this
 have:=tA (R.cel i p c (at_ a) b) lo
 rwa [<- em] at this
def Rz.cut {L:aA} {ex:Value} (R0:Mem X.S κ M h s) (o:Own X κ κ1) (l:Le M M1) (ok:okP h (h++L)) (z:Rz X κ1 M1 (h++L) C nA ex s'):Rz X κ M h C nA ex s':=by
 obtain ⟨κ',M',l',ea,h1,h2,h3,h4,h5,h6⟩:=z;have lm:=l.trans h3;obtain ⟨k,ek⟩:=lm.m;have sub:∀ p∈M.m,p∈M'.m:=fun p hp=>by rw [ek];exact List.mem_append_left _ hp
 have fr:∀ a,aU κ' M' a->aU κ' ⟨M'.Z,M.m⟩ a:=fun a f=>⟨f.1,f.2.1,fun p hp=>f.2.2 p (sub p hp)⟩;have le:Le M ⟨M'.Z,M.m⟩:=⟨lm.z,⟨[],by simp⟩⟩;have ct:∀ {s2:Shared},Mem X.S κ' M' (h++L) s2->Mem X.S κ' ⟨M'.Z,M.m⟩ h s2:=fun R=>by
  have:=Mem.cutK R0 lm R ok
  rwa [List.take_left' rfl] at this
 refine ⟨κ',⟨M'.Z,M.m⟩,l',ea,h1,o.trans h2,le,h4,h5,?_⟩;rcases h6 with ⟨a,b,c,e⟩ | f
 ·exact .inl ⟨ct a,fr _ b,c,e⟩
 ·refine .inr ⟨ct f.mem,?_,f.er⟩;obtain ⟨B,t,q1,q2⟩:=f.fl;exact ⟨B,t,q1,fun b o e nb nf=>q2 b o e nb fun z=>nf (fr b z)⟩
theorem uM {Z:Zm}:∀ {xs:List PyData} {ns:List Int} {us:List Value},bZ xs=some ns->Paired (Rep S Z) xs us->ItemsAre (intKind S.P S.w) ns us
 | [],_,_,e,h=>by cases e;cases h;exact .nil
 | .int i::r,_,_,e,h=>by
  obtain ⟨q,e1,rfl⟩:=map_some (show (bZ r).map (i::·)=_ from e);cases h with
  | cons a b =>
   obtain ⟨t,rfl⟩:=rep_i.mp a;exact .cons (by show Value.isInt i (.int i t)=true;simp [Value.isInt]) (uM e1 b)
 | .none::_,_,_,e,_=>by cases e
 | .bool _::_,_,_,e,_=>by cases e
 | .str _::_,_,_,e,_=>by cases e
 | .list _::_,_,_,e,_=>by cases e
 | .tuple _::_,_,_,e,_=>by cases e
 | .dict _::_,_,_,e,_=>by cases e
def bP5 {xs:List PyData} {ns:List Int} (R:Mem S κ M h s) (r:RepW S M (.d (.tuple xs)) u) (e:bZ xs=some ns):∃ a,u=.ref a/\(tupleKind (intKind S.P S.w)).is s.heap ns a:=by
 obtain ⟨a,o,us,rfl,hz,⟨⟨n,rfl⟩,zl⟩,rr⟩:=rep_t.mp (show Rep S M.Z _ _ from r);exact ⟨a,rfl,_,_,n,R.z _ _ hz,rfl,rfl,by simpa using uM e rr⟩
def xDn (x y:XR W):XR W:=xb x fun a=>xb y fun b=>fun _ h=>match a,b with
 | .d (.tuple xs),.d _=>(bZ xs).map fun _=>(.c h.length,h++[.n []])
 | _,_=>none
def cP6 (S:Snd v) (G:Good X st d) {a c:Expr}:SE X (.Dict [some a] [c] pos) (xDn (v.E st a) (v.E st c)):=by
 intro κ M δ h s w h' R F e;obtain ⟨x,h1,e1,e⟩:=aH e;obtain ⟨y,h2,e2,e⟩:=aH e;refine wpAny_Dict_any rfl rfl (by simp) (show 1<=15 by decide) ?_;have hd:(s.heap.push { cls:=.type "dict",data:=.dict #[] }).get? s.heap.objs.size=some { cls:=.type "dict",data:=.dict #[] }:=Heap.get?_push_size _ rfl;have R1:Mem X.S κ M h { s with heap:=s.heap.push { cls:=.type "dict",data:=.dict #[] } }:=R.kept (t:=s.toks) fun b o e=>Heap.get?_push_of_some _ e;have f0:=R.size;have RC:=R1.more (b:=true) ⟨f0.1,f0.2.2⟩ hd;have FC:Fra X (κ.up s.heap.objs.size (true,{ cls:=.type "dict",data:=.dict #[] })) M δ:=F.kp fun a ha=>cC fun z=>F.mine ha (by rw [z];exact f0.2.1);obtain ⟨D,hD⟩:∃ D,D=s.heap.objs.size:=⟨_,rfl⟩;rw [<- hD] at RC FC f0;rw [<- hD];refine pairTrees_cons_walk (thn (S.E G a RC FC e1) fun kv s1 ⟨M1,l1,R2,r1⟩=>thn (S.E G c R2 (FC.go l1) e2) fun vv s2 ⟨M2,l2,R3,r2⟩=>pairTrees_nil_walk ?_);obtain ⟨xs,ns,ei,rfl,ew⟩:∃ xs ns,bZ xs=some ns/\x=.d (.tuple xs)/\(W.c h2.length,h2++[Cell.n []])=(w,h'):=by
  rcases x with k | _
  ·cases k with
   | tuple xs =>
    rcases y with z | _
    ·obtain ⟨ns,e1,e2⟩:=map_some (show (bZ xs).map (fun _=>(W.c h2.length,h2++[Cell.n []]))=_ from e);exact ⟨xs,ns,e1,rfl,e2.symm ▸ rfl⟩
    ·cases e
   | _=>cases e
  ·cases e
 cases ew;obtain ⟨ka,rfl,ik⟩:=bP5 (h:=h2) R3 (r1.go l2) ei;have ho:=(R3.k D _ _ eZ).1 rfl;have dd:s2.heap.DictOfH (tupleKind (intKind X.S.P X.S.w)) D []:=⟨_,#[],_,ho,⟨rfl,rfl,rfl⟩,rfl,rfl,fun _ hx=>by simp at hx,List.nodup_nil⟩;unfold storeAll;rw [List.forIn_cons];have hroom:(tupleKind (intKind X.S.P X.S.w)).room X.A:=by have:=G.rm.un;show X.A.units < cLine;omega
 refine wpAny_bind (wpAny_bind (wpAny_dictSet_heap (hsz:=Nat.zero_le _) hroom ik dd fun h3 dd3 sb=>wpAny_pure ?_));dsimp only;rw [List.forIn_nil];refine wpAny_pure ?_;obtain ⟨o3,es3,ep3,ho3,q1,q2,q3,_,q5⟩:=dd3;have R4:Mem X.S (κ.up D (true,o3)) M2 h2 { s2 with heap:=h3,toks:=s2.toks+(tupleKind (intKind X.S.P X.S.w)).draws ns }:=by
  have:=R3.own (s':={ s2 with heap:=h3,toks:=s2.toks+(tupleKind (intKind X.S.P X.S.w)).draws ns }) (b:=true) eZ (fun b o hb q=>(sb.2 b hb).trans q) ho3 R3.bare rfl;refine this.less fun a y q=>?_
  by_cases z:a=D
  ·subst z;rw [eZ] at q ⊢;exact q
  ·rw [cC z] at q;rw [cC z,cC z];exact q
 have z4:=(R4.k D _ _ eZ).2.2;have c4:=R4.kc eZ;have R5:Mem X.S κ M2 h2 { s2 with heap:=h3,toks:=s2.toks+(tupleKind (intKind X.S.P X.S.w)).draws ns }:=R4.less fun a y q=>by rw [cC fun z=>by rw [z,f0.2.1] at q;cases q];exact q
 have fr:aU κ M2 D:=⟨z4,f0.2.1,c4⟩;exact ⟨M2.cel (D,D),(l1.trans l2).trans .cel,R5.add fr fr ⟨⟨_,ho3⟩,_,ho3⟩ True.intro,(D,D),by show (M2.m++[_])[h2.length]?=_;rw [<- R5.len];simp,rfl⟩
def aZ5 {g:Expr} {as:List Expr} {p3:Pos} {f:String} {x:Str} {Qv:Value->Shared->Prop} {E:Value->Shared->Prop} (hm:X.S.mg x=none) (hv:bootBuiltins x=some (.type f)) (hn:aW x=true) (hg:Gl X x) (R:Mem X.S κ M h s) (F:Fra X κ M δ)
  (ra:Wp X.S X.A (eval (.Call g as [] p3) X.env) (fun _ _=>False) E s):Wp X.S X.A (eval (.Call (.Name x p) [.Call g as [] p3] [] pos) X.env) Qv E s:=by
 refine wpAny_Call_Name_kw (cU (u:=.type f) F R hg hm hv hn ?_);refine PyProof.Rows.callWith_type1 ?_ rfl rfl;show Wp _ _ (spliced ((false,eval (.Call g as [] p3) X.env)::backTo pos (starEach [] X.env))) _ _ s;exact Calls.spliced_cons (wpAny_mono ra (fun _ _ z=>z.elim) fun _ _ z=>z)
end
end DL
namespace K61
open PySem PySem.Spec PyProof.Rows L2 DL CI SJ
def cB7 {X:Cx} {κ:Kp} {M:Mp} {h h1:aA} {s:Shared} {δ δ1:DSt} {t:Stmt} {f:XS} {r:List Stmt} {Q:Flow->Shared->Prop} {E:Value->Shared->Prop} (H:SS X t f) (R:Mem X.S κ M h s) (F:Fra X κ M δ) (e1:f δ h=some (.nx δ1,h1))
  (rb:∀ {κ1 M1 s1},Own X κ κ1->Le M M1->Mem X.S κ1 M1 h1 s1->Fra X κ1 M1 δ1->Wp X.S X.A (execs r X.env) Q E s1):Wp X.S X.A (execs (t::r) X.env) Q E s:=by
 refine wpAny_execs_cons (wpAny_mono (H R F e1) (fun f s1 ⟨κ1,M1,o1,l1,R1,q⟩=>?_) fun _ _ z=>z.elim);cases f with
 | next=>exact rb o1 l1 R1 q
 | _=>exact q.elim
def bP:∃ a1 b1 b2 b3 b4 k tg c1 c2 d1 d2 d3 bd q r,aV sP=.Assign [.Name "ways" a1] (.Dict [some (.Name "FIRST" b1)] [.Tuple [] k b2] b3) b4::.For tg (.Call (.Name "enumerate" c1) [.Call (.Name "pieces" d1) [.Name "history" d2] [] d3] [] c2) bd [] q::r:=⟨_,_,_,_,_,_,_,_,_,_,_,_,_,_,_,rfl⟩
variable {S:Sx} {C J gI P:Addr} {d:Nat} (TO:TopOk T S) (XE:Er S C J gI P)
include TO XE
def bP6:aN3 S C (d+14):=by
 intro n f fd F;refine oH F (by kernel_rfl) (fun ws h ⟨w,e,_⟩=>by subst e;kernel_rfl) fun {A κ M h s L cd ws E} hr hp R Fr hps hE=>?_;obtain ⟨w,rfl,hb⟩:=hp;obtain ⟨l,hA⟩:=yS Fr;have G:=gR (st:=sP) (q:="in_pieces") (L:=L) (f:=f) (cd:=cd) (x:="in_pieces") TO (iR TO (d+13)) hr (fun _ z=>nomatch z);obtain ⟨a1,b1,b2,b3,b4,k,tg,c1,c2,d1,d2,d3,bd,q,r,eb⟩:=bP;obtain ⟨fc,fdc,Fc,mc,bc⟩:=TO.defs _ _ dG;have hd:cN (aY sP) [.d w,.d (.int 50)]=[some (.d w),some (.d (.int 50)),none,none,none,none]:=by kernel_rfl
 rw [hd] at Fr;have gH:Gl (cxF S sP "in_pieces" L f cd A) "pieces":=show Env.kindOf _ _=_ by kernel_rfl
 have gE:Gl (cxF S sP "in_pieces" L f cd A) "enumerate":=show Env.kindOf _ _=_ by kernel_rfl
 have mE:S.mg "enumerate"=none:=TO.bl _ (by kernel_rfl);rw [eb];refine cB7 (h1:=h++[.n []]) (δ1:=[some (.d w),some (.d (.int 50)),some (.c h.length),none,none,none]) (pN (i:=2) G (cP6 (aT 59) G) (by kernel_rfl) (by kernel_rfl) (fun _ _ _ _=>dF rfl _ _ _)) R Fr (by kernel_rfl) fun {κ1 M1 s1} o1 l1 R1 F1=>?_;refine wpAny_mono (bB (wpAny_For (E:=Rz (cxF S sP "in_pieces" L f cd A) κ1 M1 (h++[.n []]) C (some n)) (aZ5 (f:="enumerate") mE (by decide +kernel) (by decide +kernel) gE R1 F1 (wpAny_mono (jU (aN2 (d:=d) TO XE Fc) G.rm mc Fc.kp bc (bR (aT 59) G _) (by decide) gH hA (by kernel_rfl) R1 F1 (show _=some ([.d w],h++[.n []]) by kernel_rfl) ⟨w,rfl,hb⟩) (fun _ _ z=>z) fun ex s' z=>z.rz F1)) (fG rfl _))) (fun _ _ z=>z) fun ex s' z=>hE ex s' (z.cut R o1 l1 (kF _ rfl (dS h)))
end K61

namespace K61
open PySem PySem.Spec PyProof.Rows L2 DL CI
def aP5 (K:PySem.W.Frag) (C fI:Addr):Bool:=match K.lookup C with
 | some ⟨.type "type",_,.cls cd,sl⟩=>(match cd.mro,sl.toList with
  | .ref D::bm,[_,_,_,_,some (.builtin n),_]=>(D==C&&(n=="ValueError.__new__"&&(!cd.hasDel&&(PySem.W.tailIn K wQ bm&&PySem.W.nsOkIn K cd.ns))))&&(PySem.W.nsIn K cd.ns "__init__"==some (some (.ref fI)))
  | _,_=>false)
 | _=>false
def aZ6 {K:PySem.W.Frag} {h:Heap} {N:Addr} {mg:Str->Option Value} {n:Str} {v:Value} (X:K.In h) (G:h.Ns N mg) (e:PySem.W.nsIn K N n=some (some v)):mg n=some v:=by
 obtain ⟨o,es,ep,ho,hd,_,hf⟩:=G;unfold PySem.W.nsIn at e;split at e
 ·rename_i hk;have q:=X _ _ hk;rw [ho] at q;cases q;cases hd;rw [<- hf];split at e
  ·rename_i he;cases e;simp [nsFind,findBy,<- Array.find?_toList,he]
  ·split at e<;>cases e
 ·cases e
def aZ7 {K:PySem.W.Frag} {h:Heap} {x:Str} {C fI:Addr} {oI:Obj} {mg:Str->Option Value} (X:K.In h) (hm:mg x=some (.ref C)) (q:aP5 K C fI=true) (lI:K.lookup fI=some oI) (cI':oI.cls=.type "function"):OwnI x C fI mg h:=by
 refine ⟨hm,?_⟩;unfold aP5 at q;split at q
 ·rename_i d0 c0 s0 lk;split at q
  ·rename_i D tl r0 r1 r2 r3 ni r5 em es;simp only [Bool.and_eq_true,beq_iff_eq,Bool.not_eq_true'] at q;obtain ⟨⟨rfl,rfl,q9,q8,q7⟩,q6⟩:=q;obtain ⟨v1,v2,v3,v4,v5,v6,v7,v8,v9,v10,v11⟩:=c0;dsimp only at em q7 q6 q9;subst em q9;have e3:s0=#[r0,r1,r2,r3,some (.builtin "ValueError.__new__"),r5]:=by
    obtain ⟨ll⟩:=s0;dsimp only at es;rw [es]
   subst e3;exact ⟨tl,v4,v1,v5,v2,v6,v7,v8,v9,v10,d0,r0,r1,r2,r3,r5,_,oI,X _ _ lk,.of_isNs (PySem.W.isNs_of_in X q7),aZ6 X (.of_isNs (PySem.W.isNs_of_in X q7)) q6,X _ _ lI,cI',PySem.W.tail_of_in X q8⟩
  ·cases q
 ·cases q
end K61

namespace K61
open PySem PySem.Spec PyProof.Rows L2 DL CI
def aQ (k:Nat):Stmt:=PySem.Challenge.pw_storejudge_k61_pieces.main.body.getD k (.Pass ⟨0,0,0,0⟩)
abbrev s_0:Stmt:=aQ 1
abbrev s_1:Stmt:=aQ 2
abbrev s_2:Stmt:=aQ 3
abbrev s_3:Stmt:=aQ 4
abbrev s_4:Stmt:=aQ 5
abbrev s_5:Stmt:=aQ 12
abbrev s_6:Stmt:=aQ 13
abbrev s_7:Stmt:=aQ 14
abbrev s_8:Stmt:=aQ 15
abbrev s_9:Stmt:=aQ 16
abbrev cB8:Stmt:=aQ 17
abbrev cB9:Stmt:=aQ 18
abbrev cC0:Stmt:=aQ 19
abbrev cC1:Stmt:=aQ 20
abbrev cC2:Stmt:=aQ 21
abbrev cC3:Stmt:=aQ 22
abbrev cC4:Stmt:=aQ 23
abbrev cC5:Stmt:=aQ 24
abbrev cC6:Stmt:=aQ 25
abbrev cC7:Stmt:=aQ 26
abbrev cC8:Stmt:=aQ 27
abbrev cC9:Stmt:=aQ 28
abbrev cD0:Stmt:=aQ 29
abbrev cD1:Stmt:=aQ 30
abbrev cD2:Stmt:=aQ 39
abbrev cD3:Stmt:=aQ 40
abbrev cD4:Stmt:=aQ 41
abbrev cD5:Stmt:=aQ 42
abbrev cD6:Stmt:=aQ 43
abbrev cD7:Stmt:=aQ 44
abbrev cD8:Stmt:=aQ 45
abbrev cD9:Stmt:=aQ 46
abbrev cE0:Stmt:=aQ 47
abbrev cE1:Stmt:=aQ 50
abbrev cE2:Stmt:=aQ 51
abbrev cE3:Stmt:=aQ 52
abbrev cE4:Stmt:=aQ 53
abbrev cE5:Stmt:=aQ 54
abbrev cE6:Stmt:=aQ 57
abbrev cE7:Stmt:=aQ 58
abbrev cE8:Stmt:=aQ 59
abbrev cE9:Stmt:=aQ 60
abbrev cF0:Stmt:=aQ 61
abbrev cF1:Stmt:=aQ 62
abbrev cF2:Stmt:=aQ 63
abbrev cF3:Stmt:=aQ 64
abbrev cF4:Stmt:=aQ 65
abbrev cF5:Stmt:=aQ 66
abbrev cF6:Stmt:=aQ 67
abbrev cF7:Stmt:=aQ 68
abbrev cF8:Stmt:=aQ 69
abbrev cF9:Stmt:=aQ 70
abbrev cG0:Stmt:=aQ 71
abbrev cG1:Stmt:=aQ 72
abbrev cG2:Stmt:=aQ 73
abbrev cG3:Stmt:=aQ 74
abbrev cG4:Stmt:=aQ 77
abbrev cG5:Stmt:=aQ 79
abbrev cG6:Stmt:=aQ 80
abbrev cG7:Stmt:=aQ 81
abbrev cG8:Stmt:=aQ 82
abbrev cG9:Stmt:=aQ 83
abbrev cH0:Stmt:=aQ 85
abbrev cH1:Stmt:=aQ 87
abbrev cH2:Stmt:=aQ 89
abbrev cH3:Stmt:=aQ 90
abbrev cH4:Stmt:=aQ 91
abbrev cH5:Stmt:=aQ 92
abbrev cH6:Stmt:=aQ 93
abbrev cH7:Stmt:=aQ 95
abbrev cH8:Stmt:=aQ 96
abbrev cH9:Stmt:=aQ 97
abbrev cI0:Stmt:=aQ 98
abbrev cI1:Stmt:=aQ 99
abbrev cI2:Stmt:=aQ 100
abbrev cI3:Stmt:=aQ 101
abbrev cI4:Stmt:=aQ 102
abbrev cI5:Stmt:=aQ 103
abbrev cI6:Stmt:=aQ 104
abbrev uN:Stmt:=aQ 105
def cI7:gcl body=([(Str.ofString "LAST_KEY",PyData.int 7),(Str.ofString "MOST_PARTS",PyData.int 4),(Str.ofString "CHANGING",PyData.tuple [PyData.str (Str.ofString "write"),PyData.str (Str.ofString "add"),PyData.str (Str.ofString "swap")]),(Str.ofString "REFUSED",PyData.tuple [PyData.str (Str.ofString "refused")]),(Str.ofString "LAST_HAND",PyData.int 5),(Str.ofString "MOST_DEEDS",PyData.int 60),(Str.ofString "FIRST",PyData.tuple [PyData.int 0,PyData.int 0,PyData.int 0,PyData.int 0,PyData.int 0,PyData.int 0,PyData.int 0,PyData.int 0]),(Str.ofString "PROMISES",PyData.tuple [PyData.str (Str.ofString "real"),PyData.str (Str.ofString "row"),PyData.str (Str.ofString "any"),PyData.str (Str.ofString "snap"),PyData.str (Str.ofString "stand"),PyData.str (Str.ofString "hand"),PyData.str (Str.ofString "thing"),PyData.str (Str.ofString "kept")])]:List (Str×PyData)):=by kernel_rfl
def cI8:tkl body=([(Str.ofString "NUMBERS_BEHIND",[(Str.ofString "read",PyData.int 0),(Str.ofString "write",PyData.int 1),(Str.ofString "add",PyData.int 1),(Str.ofString "swap",PyData.int 2)])]:List (Str×List (Str×PyData))):=by kernel_rfl
abbrev DFL:List (Str×Stmt):=[(Str.ofString "is_whole",s_0),(Str.ofString "is_between",s_1),(Str.ofString "is_tuple_of",s_2),(Str.ofString "are_whole",s_3),(Str.ofString "are_rising",s_4),(Str.ofString "is_key",s_5),(Str.ofString "word_of",s_6),(Str.ofString "is_worded",s_7),(Str.ofString "is_single",s_8),(Str.ofString "is_span",s_9),(Str.ofString "is_deal",cB8),(Str.ofString "is_call",cB9),(Str.ofString "is_look",cC0),(Str.ofString "is_value_pair",cC1),(Str.ofString "is_lay",cC2),(Str.ofString "is_step",cC3),(Str.ofString "is_answer",cC4),(Str.ofString "is_own_answer",cC5),(Str.ofString "may_change",cC6),(Str.ofString "keys_of",cC7),(Str.ofString "parts_of",cC8),(Str.ofString "value_left",cC9),(Str.ofString "left_by",cD0),(Str.ofString "part_on",cD1),(Str.ofString "is_time",cD2),(Str.ofString "is_deed",cD3),(Str.ofString "times_of",cD4),(Str.ofString "ended_below",cD5),(Str.ofString "go_together",cD6),(Str.ofString "look_over",cD7),(Str.ofString "really_ahead",cD8),(Str.ofString "is_quiet",cD9),(Str.ofString "quiet_times",cE0),(Str.ofString "with_value",cE1),(Str.ofString "done",cE2),(Str.ofString "single_done",cE3),(Str.ofString "deal_done",cE4),(Str.ofString "laid",cE5),(Str.ofString "check_promise",cE6),(Str.ofString "deeds_of",cE7),(Str.ofString "frames_of",cE8),(Str.ofString "framed",cE9),(Str.ofString "frame",cF0),(Str.ofString "taking_part",cF1),(Str.ofString "entry",cF2),(Str.ofString "whole_entries",cF3),(Str.ofString "look_entries",cF4),(Str.ofString "hand_entries",cF5),(Str.ofString "key_entries",cF6),(Str.ofString "writes_alone",cF7),(Str.ofString "ahead_by_hand",cF8),(Str.ofString "pairs_where",cF9),(Str.ofString "looks_with_lays",cG0),(Str.ofString "triples_of",cG1),(Str.ofString "change_one_key",cG2),(Str.ofString "keys_changed",cG3),(Str.ofString "marked",cG4),(Str.ofString "first_node",cG5),(Str.ofString "is_last",cG6),(Str.ofString "nodes_behind",cG7),(Str.ofString "rows_to_ends",cG8),(Str.ofString "way_to",cG9),(Str.ofString "in_order",cH0),(Str.ofString "part",cH1),(Str.ofString "pieces",cH2),(Str.ofString "in_pieces",cH3),(Str.ofString "ways_behind",cH4),(Str.ofString "keys_touched",cH5),(Str.ofString "values_on",cH6),(Str.ofString "_law_draw",cH7),(Str.ofString "_law_plain_call",cH8),(Str.ofString "_law_call",cH9),(Str.ofString "_law_bent",cI0),(Str.ofString "_law_history",cI1),(Str.ofString "_law_ahead",cI2),(Str.ofString "_law_flat",cI3),(Str.ofString "_law_all_ahead",cI4),(Str.ofString "_law_may_cut",cI5),(Str.ofString "_law_at",cI6),(Str.ofString "law",uN)]
def cI9:dfl body=DFL:=by kernel_rfl
theorem aZ8:T.defs "law"=some uN:=by kernel_rfl
def cJ0:parsOf uN=([Str.ofString "_law_script"]:List Str):=by kernel_rfl
def all_mk {l:PySem.W.OpenLaw} {w:World} {os:OsState} {K:PySem.W.Frag} {h:Heap} {mg:Str->Option Value} {fa:Addr} (X:K.In h) (G:h.Ns mainGlobals mg) (hfa:mg "law"=some (.ref fa))
  (a0:FI K "is_whole" s_0)
  (a1:FI K "is_between" s_1)
  (a2:FI K "is_tuple_of" s_2)
  (a3:FI K "are_whole" s_3)
  (a4:FI K "are_rising" s_4)
  (a5:FI K "is_key" s_5)
  (a6:FI K "word_of" s_6)
  (a7:FI K "is_worded" s_7)
  (a8:FI K "is_single" s_8)
  (a9:FI K "is_span" s_9)
  (a10:FI K "is_deal" cB8)
  (a11:FI K "is_call" cB9)
  (a12:FI K "is_look" cC0)
  (a13:FI K "is_value_pair" cC1)
  (a14:FI K "is_lay" cC2)
  (a15:FI K "is_step" cC3)
  (a16:FI K "is_answer" cC4)
  (a17:FI K "is_own_answer" cC5)
  (a18:FI K "may_change" cC6)
  (a19:FI K "keys_of" cC7)
  (a20:FI K "parts_of" cC8)
  (a21:FI K "value_left" cC9)
  (a22:FI K "left_by" cD0)
  (a23:FI K "part_on" cD1)
  (a24:FI K "is_time" cD2)
  (a25:FI K "is_deed" cD3)
  (a26:FI K "times_of" cD4)
  (a27:FI K "ended_below" cD5)
  (a28:FI K "go_together" cD6)
  (a29:FI K "look_over" cD7)
  (a30:FI K "really_ahead" cD8)
  (a31:FI K "is_quiet" cD9)
  (a32:FI K "quiet_times" cE0)
  (a33:FI K "with_value" cE1)
  (a34:FI K "done" cE2)
  (a35:FI K "single_done" cE3)
  (a36:FI K "deal_done" cE4)
  (a37:FI K "laid" cE5)
  (a38:FI K "check_promise" cE6)
  (a39:FI K "deeds_of" cE7)
  (a40:FI K "frames_of" cE8)
  (a41:FI K "framed" cE9)
  (a42:FI K "frame" cF0)
  (a43:FI K "taking_part" cF1)
  (a44:FI K "entry" cF2)
  (a45:FI K "whole_entries" cF3)
  (a46:FI K "look_entries" cF4)
  (a47:FI K "hand_entries" cF5)
  (a48:FI K "key_entries" cF6)
  (a49:FI K "writes_alone" cF7)
  (a50:FI K "ahead_by_hand" cF8)
  (a51:FI K "pairs_where" cF9)
  (a52:FI K "looks_with_lays" cG0)
  (a53:FI K "triples_of" cG1)
  (a54:FI K "change_one_key" cG2)
  (a55:FI K "keys_changed" cG3)
  (a56:FI K "marked" cG4)
  (a57:FI K "first_node" cG5)
  (a58:FI K "is_last" cG6)
  (a59:FI K "nodes_behind" cG7)
  (a60:FI K "rows_to_ends" cG8)
  (a61:FI K "way_to" cG9)
  (a62:FI K "in_order" cH0)
  (a63:FI K "part" cH1)
  (a64:FI K "pieces" cH2)
  (a65:FI K "in_pieces" cH3)
  (a66:FI K "ways_behind" cH4)
  (a67:FI K "keys_touched" cH5)
  (a68:FI K "values_on" cH6)
  (a69:FI K "_law_draw" cH7)
  (a70:FI K "_law_plain_call" cH8)
  (a71:FI K "_law_call" cH9)
  (a72:FI K "_law_bent" cI0)
  (a73:FI K "_law_history" cI1)
  (a74:FI K "_law_ahead" cI2)
  (a75:FI K "_law_flat" cI3)
  (a76:FI K "_law_all_ahead" cI4)
  (a77:FI K "_law_may_cut" cI5)
  (a78:FI K "_law_at" cI6)
  (a79:FI K "law" uN)
  {tg0:Tok} (cg0:PySem.W.nsIn K mainGlobals "LAST_KEY"=some (some (.int 7 tg0)))
  {tg1:Tok} (cg1:PySem.W.nsIn K mainGlobals "MOST_PARTS"=some (some (.int 4 tg1)))
  {q2:Addr} {nq2:Nat} {tq2_0 tq2_1 tq2_2:Tok} (aQ2:PySem.W.nsIn K mainGlobals "CHANGING"=some (some (.ref q2))) (lQ2:K.lookup q2=some ⟨.type "tuple",none,.seq #[.str "write" tq2_0,.str "add" tq2_1,.str "swap" tq2_2] nq2,#[]⟩)
  {q3:Addr} {nq3:Nat} {tq3_0:Tok} (aQ3:PySem.W.nsIn K mainGlobals "REFUSED"=some (some (.ref q3))) (lQ3:K.lookup q3=some ⟨.type "tuple",none,.seq #[.str "refused" tq3_0] nq3,#[]⟩)
  {tg4:Tok} (cg4:PySem.W.nsIn K mainGlobals "LAST_HAND"=some (some (.int 5 tg4)))
  {tg5:Tok} (cg5:PySem.W.nsIn K mainGlobals "MOST_DEEDS"=some (some (.int 60 tg5)))
  {q6:Addr} {nq6:Nat} {tq6_0 tq6_1 tq6_2 tq6_3 tq6_4 tq6_5 tq6_6 tq6_7:Tok} (aQ6:PySem.W.nsIn K mainGlobals "FIRST"=some (some (.ref q6))) (lQ6:K.lookup q6=some ⟨.type "tuple",none,.seq #[.int 0 tq6_0,.int 0 tq6_1,.int 0 tq6_2,.int 0 tq6_3,.int 0 tq6_4,.int 0 tq6_5,.int 0 tq6_6,.int 0 tq6_7] nq6,#[]⟩)
  {q7:Addr} {nq7:Nat} {tq7_0 tq7_1 tq7_2 tq7_3 tq7_4 tq7_5 tq7_6 tq7_7:Tok} (aQ7:PySem.W.nsIn K mainGlobals "PROMISES"=some (some (.ref q7))) (lQ7:K.lookup q7=some ⟨.type "tuple",none,.seq #[.str "real" tq7_0,.str "row" tq7_1,.str "any" tq7_2,.str "snap" tq7_3,.str "stand" tq7_4,.str "hand" tq7_5,.str "thing" tq7_6,.str "kept" tq7_7] nq7,#[]⟩)
  {p0:Addr} {n0:Nat} {hh0_0 hh0_1 hh0_2 hh0_3:Int} {tk0_0 tv0_0 tk0_1 tv0_1 tk0_2 tv0_2 tk0_3 tv0_3:Tok} (aT0:PySem.W.nsIn K mainGlobals "NUMBERS_BEHIND"=some (some (.ref p0))) (lT0:K.lookup p0=some ⟨.type "dict",none,.dict #[⟨hh0_0,.str "read" tk0_0,.int 0 tv0_0⟩,⟨hh0_1,.str "write" tk0_1,.int 1 tv0_1⟩,⟨hh0_2,.str "add" tk0_2,.int 1 tv0_2⟩,⟨hh0_3,.str "swap" tk0_3,.int 2 tv0_3⟩] n0,#[]⟩) (kT0:PySem.W.KeysLit w.params [⟨hh0_0,.str "read" tk0_0,.int 0 tv0_0⟩,⟨hh0_1,.str "write" tk0_1,.int 1 tv0_1⟩,⟨hh0_2,.str "add" tk0_2,.int 1 tv0_2⟩,⟨hh0_3,.str "swap" tk0_3,.int 2 tv0_3⟩]) (sT0:(p0==sysModules)=false)
  {C J P fI:Addr} (aC:PySem.W.nsIn K mainGlobals "NoHistory"=some (some (.ref C))) (aJ:PySem.W.nsIn K mainGlobals "JudgeError"=some (some (.ref J))) (aP:PySem.W.nsIn K mainGlobals "NoProblem"=some (some (.ref P))) (eV:PySem.W.nsIn K mainGlobals "ValueError"=some none)
  {oc kV dc pm cd ct:Value} {od an:Option Addr} {sl:Array (Option Value)} (iL:K.lookup fI=some ⟨oc,od,.func (PySem.W.fnOf "__init__" "NoHistory.__init__" (dN sI) (aV sI) (defScope sI) .none kV dc pm an cd ct),sl⟩) (iO:oc=.type "function") (iC:PySem.W.codeIn K cd "NoHistory.__init__"=true) (iK:PySem.W.keepIn K (.ref fI)=true)
  (qI:aP5 K C fI=true)
  (eH:PySem.W.exmOne K (.ref C) (.ref C)=some true)
  (kP:PySem.W.kitOne K (.ref C) (.ref P)=some false) (kV2:PySem.W.kitOne K (.ref C) (.type "ValueError")=some true)
  (x1:PySem.W.findIn K (.ref C) "__getattribute__"=some (some (.builtin "BaseException.__getattribute__"))) (x2:PySem.W.findIn K (.ref C) "__getattr__"=some none) (x3:PySem.W.findIn K (.ref C) "__class__"=some (some (.builtin "object.__class__"))) (x4:PySem.W.mroIn K C (.type "BaseException")=some true) (x5:PySem.W.mroIn K C (.type "object")=some true)
  (y1:(PySem.W.clsIn K C).any (fun cd=>cd.hasDict&&cd.mro==.ref C::.ref J::wQ)=true) (y2:PySem.W.findIn K (.ref C) "__setattr__"=some (some (.builtin "object.__setattr__"))) (y3:PySem.W.findIn K (.ref C) "at"=some none)
  (j1:PySem.W.specialIn K (.ref J) "__getattribute__"=some (some (.builtin "type.__getattribute__"))) (j2:PySem.W.readsIn K J (.type "type")=true) (j3:PySem.W.findCls K (.ref J) (.type "type") "__init__"=some (.val (.builtin "ValueError.__init__")))
  (zb:∀ b∈blAll,PySem.W.nsIn K mainGlobals b=some none) :
  ∃ fd:FuncData,(∀ (s:Shared) (v:Value),BindsTo s fd ⟨[v],[]⟩ [("_law_script",v)])/\FnS ⟨l.prog,w,K,mg,h,os,#[],0,false⟩ 16 fa fd ["_law_script"] (toW (lG T 15 "_law_at" atX "law")):=by
 have aL:=a79;obtain ⟨f79,od79,an79,sl79,oc79,kV79,dc79,pm79,cd79,ct79,b79,l79,c79,kk79⟩:=aL;have e:=hfa.symm.trans (PySem.W.mg_of X G b79);cases e;have F79:=vZ (st:=uN) l79 c79 kk79;refine ⟨PySem.W.fnOf "law" "law" (dN uN) (aV uN) (defScope uN) .none kV79 dc79 pm79 an79 cd79 ct79,fun s v=>.of_eq rfl,?_⟩;have TF:TopOk T ⟨l.prog,w,K,mg,h,os,#[],0,false⟩:=by
  refine ⟨fun x hx=>?_,fun x z hz=>?_,fun x f hf=>?_,fun x s hs=>?_,fun x C s hs=>?_,fun x C s hs=>?_,fun C f hf=>?_,rfl,fun x q hs=>?_⟩
  ·have hx:blAll.contains x=true:=hx;rw [List.contains_iff_mem] at hx;exact PySem.W.mg_none_of X G (zb x hx)
  ·have hm:=bK1 (show bJ8 body x=some z from hz);rw [cI7] at hm;simp only [List.mem_cons,List.not_mem_nil,or_false,Prod.mk.injEq] at hm;rcases hm with ⟨rfl,rfl⟩ | ⟨rfl,rfl⟩ | ⟨rfl,rfl⟩ | ⟨rfl,rfl⟩ | ⟨rfl,rfl⟩ | ⟨rfl,rfl⟩ | ⟨rfl,rfl⟩ | ⟨rfl,rfl⟩
   ·exact ⟨_,PySem.W.mg_of X G cg0,rep_i.mpr ⟨tg0,rfl⟩⟩
   ·exact ⟨_,PySem.W.mg_of X G cg1,rep_i.mpr ⟨tg1,rfl⟩⟩
   ·exact ⟨_,PySem.W.mg_of X G aQ2,wA (ws:=["write","add","swap"]) X lQ2 (.cons ⟨⟨_,rfl⟩,by decide +kernel⟩ (.cons ⟨⟨_,rfl⟩,by decide +kernel⟩ (.cons ⟨⟨_,rfl⟩,by decide +kernel⟩ .nil))) (show 3<=16777216 by decide)⟩
   ·exact ⟨_,PySem.W.mg_of X G aQ3,wA (ws:=["refused"]) X lQ3 (.cons ⟨⟨_,rfl⟩,by decide +kernel⟩ .nil) (show 1<=16777216 by decide)⟩
   ·exact ⟨_,PySem.W.mg_of X G cg4,rep_i.mpr ⟨tg4,rfl⟩⟩
   ·exact ⟨_,PySem.W.mg_of X G cg5,rep_i.mpr ⟨tg5,rfl⟩⟩
   ·exact ⟨_,PySem.W.mg_of X G aQ6,bK4 (ws:=[0,0,0,0,0,0,0,0]) X lQ6 (.cons ⟨_,rfl⟩ (.cons ⟨_,rfl⟩ (.cons ⟨_,rfl⟩ (.cons ⟨_,rfl⟩ (.cons ⟨_,rfl⟩ (.cons ⟨_,rfl⟩ (.cons ⟨_,rfl⟩ (.cons ⟨_,rfl⟩ .nil)))))))) (show 8<=16777216 by decide)⟩
   ·exact ⟨_,PySem.W.mg_of X G aQ7,wA (ws:=["real","row","any","snap","stand","hand","thing","kept"]) X lQ7 (.cons ⟨⟨_,rfl⟩,by decide +kernel⟩ (.cons ⟨⟨_,rfl⟩,by decide +kernel⟩ (.cons ⟨⟨_,rfl⟩,by decide +kernel⟩ (.cons ⟨⟨_,rfl⟩,by decide +kernel⟩ (.cons ⟨⟨_,rfl⟩,by decide +kernel⟩ (.cons ⟨⟨_,rfl⟩,by decide +kernel⟩ (.cons ⟨⟨_,rfl⟩,by decide +kernel⟩ (.cons ⟨⟨_,rfl⟩,by decide +kernel⟩ .nil)))))))) (show 8<=16777216 by decide)⟩
  ·obtain ⟨t,hm,rfl⟩:=bK2 (show bK0 body x=some f from hf);rw [cI8] at hm;simp only [List.mem_cons,List.not_mem_nil,or_false,Prod.mk.injEq] at hm;rcases hm with ⟨rfl,rfl⟩
   ·refine ⟨p0,PySem.W.mg_of X G aT0,⟨⟨_,n0,lT0,kT0,fun y i hy=>?_,fun y hy=>?_⟩,sT0⟩⟩
    ·repeat rw [tG]
     simp only [List.lookup] at hy;split at hy
     ·rename_i q;rw [if_pos (eq_of_beq q).symm];cases hy;exact ⟨_,rfl,rep_i.mpr ⟨_,rfl⟩⟩
     rename_i q;rw [if_neg (fun z=>(beq_eq_false_iff_ne.mp q) z.symm)];clear q;split at hy
     ·rename_i q;rw [if_pos (eq_of_beq q).symm];cases hy;exact ⟨_,rfl,rep_i.mpr ⟨_,rfl⟩⟩
     rename_i q;rw [if_neg (fun z=>(beq_eq_false_iff_ne.mp q) z.symm)];clear q;split at hy
     ·rename_i q;rw [if_pos (eq_of_beq q).symm];cases hy;exact ⟨_,rfl,rep_i.mpr ⟨_,rfl⟩⟩
     rename_i q;rw [if_neg (fun z=>(beq_eq_false_iff_ne.mp q) z.symm)];clear q;split at hy
     ·rename_i q;rw [if_pos (eq_of_beq q).symm];cases hy;exact ⟨_,rfl,rep_i.mpr ⟨_,rfl⟩⟩
     rename_i q;rw [if_neg (fun z=>(beq_eq_false_iff_ne.mp q) z.symm)];clear q;cases hy
    ·repeat rw [tG]
     simp only [List.lookup] at hy
     repeat (split at hy;(cases hy);(rename_i q;rw [if_neg (fun z=>(beq_eq_false_iff_ne.mp q) z.symm)]))
     rfl
  ·have hm:=bK3 (show vY body x=some s from hs);rw [cI9] at hm;have key:∀ p∈DFL,FR K mg p.1 p.2:=by
    repeat (refine cL7 (P:=FR K mg) ?_ ?_;(first | exact FI.ok1 (by assumption) X G (by kernel_rfl) (fun _ =>fun _ _ _ _ _ _=>rfl) | exact FI.ok2 (by assumption) X G (by kernel_rfl) (fun _ _ =>fun _ _ _ _ _ _=>rfl) | exact FI.ok3 (by assumption) X G (by kernel_rfl) (fun _ _ _ =>fun _ _ _ _ _ _=>rfl) | exact FI.ok4 (by assumption) X G (by kernel_rfl) (fun _ _ _ _ =>fun _ _ _ _ _ _=>rfl)))
    exact cL6
   exact key _ hm
  ·have h:(none:Option (Addr×Stmt))=some (C,s):=hs;cases h
  ·have h:(none:Option (Addr×Stmt))=some (C,s):=hs;cases h
  ·have h:false=true:=hf;cases h
  ·have h:(none:Option (Str×Pos))=some q:=hs;cases h
 subst iO;have FIN:Fun K "__init__" "NoHistory.__init__" sI fI _:=vZ (st:=sI) iL iC iK;have BIN:dM K _ ["self","at"]:=FIN.binds fun us hl=>by
  match us,hl with
  | [u,v],_=>exact fun _ _ _ _ _ _=>rfl
 have XE:Er ⟨l.prog,w,K,mg,h,os,#[],0,false⟩ C J fI P:=⟨aZ7 X (PySem.W.mg_of X G aC) qI iL rfl,⟨PySem.F.excBase_ValueError,⟨y1,y2,y3⟩,PySem.W.mg_of X G aJ,j1,j2,j3⟩,⟨x1,x2,x3,x4,x5⟩,PySem.W.mg_of X G aP,PySem.W.mg_none_of X G eV,eH,kP,kV2,⟨_,_,_,FIN,BIN⟩⟩;obtain ⟨fr,fdr,Fr,mr,br⟩:=TF.defs _ _ dA;have q:=aZ0 (k:=15) (y:="_law_at") (m:=atX) TF aZ8 F79 (.inr ⟨fr,fdr,_,mr,Fr.kp,br,cB3 (d:=0) TF XE (bP6 (d:=0) TF XE) Fr⟩);rw [cJ0] at q;exact q
def walk {l:PySem.W.OpenLaw} {q:Program} {loose:List Str} {XP:(Str->Option Value)->Heap->Prop} {YP:World->Heap->Prop} {d:DefRec} {K:Params->PySem.W.Frag} (hn:l.most=some 63) (hdf:d.params.defaults=[])
  (hY:∀ (w:World) (h:Heap),YP w h->(K w.params).In h)
  (F:∀ (w:World) (mg:Str->Option Value) (fa:Addr) (h:Heap) (os:OsState),(K w.params).In h->h.Ns mainGlobals mg->mg d.name=some (.ref fa) ->
   ∃ fd:FuncData,(∀ (s:Shared) (u:Value),BindsTo s fd ⟨[u],[]⟩ [("_law_script",u)])/\FnS ⟨l.prog,w,K w.params,mg,h,os,#[],0,false⟩ 16 fa fd ["_law_script"] (toW (lG T 15 "_law_at" atX "law"))) :
  PySem.W.WalkO q loose XP YP l.row.toRowW d [] (fun f vs=>PySem.call f vs) :=
 aV0 (n:=63) (k:=16) (x:="_law_script") (m:=lG T 15 "_law_at" atX "law") hn (by decide) hdf (fun _=>⟨fun _=>rfl,by decide,by decide⟩) hY F fun ns _=>⟨_,bP4 ns 1⟩
end K61

open PySem PySem.W PyProof.Rows
theorem PySem.Challenge.cw_storejudge_k61_pieces_holds : PySem.Challenge.rw_storejudge_k61_pieces.Holds := by
 refine hd ?_
 k_fill
 refine K61.walk (l:=PySem.Challenge.rw_storejudge_k61_pieces) rfl rfl (fun w h Y=>PySem.W.km_in_of Y) ?F
 case F =>
  intro w mg fa h os KX G hmg;refine' K61.all_mk (fI:=218) KX G hmg ?a0 ?a1 ?a2 ?a3 ?a4 ?a5 ?a6 ?a7 ?a8 ?a9 ?a10 ?a11 ?a12 ?a13 ?a14 ?a15 ?a16 ?a17 ?a18 ?a19 ?a20 ?a21 ?a22 ?a23 ?a24 ?a25 ?a26 ?a27 ?a28 ?a29 ?a30 ?a31 ?a32 ?a33 ?a34 ?a35 ?a36 ?a37 ?a38 ?a39 ?a40 ?a41 ?a42 ?a43 ?a44 ?a45 ?a46 ?a47 ?a48 ?a49 ?a50 ?a51 ?a52 ?a53 ?a54 ?a55 ?a56 ?a57 ?a58 ?a59 ?a60 ?a61 ?a62 ?a63 ?a64 ?a65 ?a66 ?a67 ?a68 ?a69 ?a70 ?a71 ?a72 ?a73 ?a74 ?a75 ?a76 ?a77 ?a78 ?a79 ?cg0 ?cg1 ?aQ2 ?lQ2 ?aQ3 ?lQ3 ?cg4 ?cg5 ?aQ6 ?lQ6 ?aQ7 ?lQ7 ?aT0 ?lT0 ?kT0 ?sT0 ?aC ?aJ ?aP ?eV ?iL ?iO ?iC ?iK ?qI ?eH ?kP ?kV2 ?x1 ?x2 ?x3 ?x4 ?x5 ?y1 ?y2 ?y3 ?j1 ?j2 ?j3 ?zb
  all_goals try (refine' CI.fi_mk ?a ?l ?c ?k;(case a=>k_is);(case l=>k_is);(case c=>k_is);(case k=>k_is))
  (case cg0=>k_is)
  (case cg1=>k_is)
  (case aQ2=>k_is);(case lQ2=>k_is)
  (case aQ3=>k_is);(case lQ3=>k_is)
  (case cg4=>k_is)
  (case cg5=>k_is)
  (case aQ6=>k_is);(case lQ6=>k_is)
  (case aQ7=>k_is);(case lQ7=>k_is)
  (case aT0=>k_is);(case lT0=>k_is);(case kT0=>k_keys);(case sT0=>first | rfl | decide | k_is)
  (case aC=>k_is);(case aJ=>k_is);(case aP=>k_is);(case eV=>k_is)
  (case iL=>k_is);(case iO=>rfl);(case iC=>k_is);(case iK=>k_is)
  (case qI=>kernel_rfl)
  (case eH=>kts_exm)
  (case kP=>kernel_rfl);(case kV2=>kit_is)
  (case x1=>k_is);(case x2=>k_is);(case x3=>k_is);(case x4=>k_is);(case x5=>k_is)
  (case y1=>kernel_rfl);(case y2=>k_is);(case y3=>k_is)
  (case j1=>kernel_rfl);(case j2=>kernel_rfl);(case j3=>kernel_rfl)
  (case zb=>intro b hb;simp only [CI.blAll,List.mem_cons,List.not_mem_nil,or_false] at hb;rcases hb with rfl | rfl | rfl | rfl | rfl | rfl | rfl | rfl | rfl | rfl | rfl | rfl | rfl | rfl | rfl | rfl | rfl | rfl | rfl | rfl<;>k_is)
