import PyProof.Rows.All
import Wide.All
import OpenK.AllK
import Wide.FinOn
import Lean
import PyProof.EqAt
import PyProof.EqKinds
import PyProof.TupleCall
import PyProof.SetRoads
import PyProof.WalksMore
import PyProof.Walks
import PyProof.ZipIter
import PyProof.EnumIter
import PyProof.EnumFor
import PyProof.EnumStmt
import PyProof.ListRange
import PyProof.Conv_int_bool
import PyProof.Rows.SetFrom
import KE.KLam
import KE.KNestM
import KE.KRevSl
import KE.KSortTup
import KE.KSortKey
import PyProof.TupleOfSeq
import PyProof.WalkInts
import PyProof.EqLayable
import PySem.Challenge.RW_storejudge_k45_rows_asked_for
import KE.KTryMore
import KE.KIsAll
import PyProof.FString
set_option genInjectivity false
set_option compiler.extract_closed false
set_option bootstrap.genMatcherCode false
set_option genSizeOf false
section
open PySem PySem.W PyProof.Rows
set_option Elab.async false
set_option maxRecDepth 100000
set_option maxHeartbeats 0
structure PySem.W.Fast:Prop where
 (tw15032258006968258975 tw861502493610598483 tw7774113678449685934 tw18430476961869974472 tw4832561002453045005 tw15063340032272140987 tw11592902740619675445 tw17590196521536335332 tw1985161075807479808 tw17426987436379436081 tw16216476560635493584 tw2407462832516094465 tw8318101203651539667 tw4705034193704625203 tw18067563643224944008 tw12960429369202013873 tw7701650113140490549 tw126342902990734186 tw14221096863170989933 tw12670982853097334264 tw9615563845995560447 tw14782954611325821827 tw4903002758410956813 tw8997383693586321770 tw14560624547652848805 tw12747814925858328940 tw18418582437962087742 tw6216382948874008006 tw6248682570935725439 tw14196522196718054806 tw17267597263503486738 tw7480016910919988345 tw384561282630992784 tw8737599933303070863 tw14760874974797668852 tw8047209995159408440 tw12768989823518198380 tw13956191218907399338 tw140001813534094272 tw1717767836212652739 tw2913531160240911109 tw5285915839522022235 tw14577027041581768965 tw16203366879757453535 tw4906484309439969231 tw12287027617447088827 tw4849480874435393781 tw15590096980072825465 tw16226643914720891334 tw18146532975450069615 tw17691633702590694504 tw14074196154385387334 tw14592624751514493413 tw14847308668706973960 tw4699756791338806529 tw514280064592716601 tw12188032599808994241 tw14961746396406840608 tw16607193741793207195 tw10295913840692754127 tw12147665669636231765 tw4607425872040536859 tw2135409205425526673 tw15895094517606616290 tw6542358382571353910 tw9387514328989991554 tw11962351593759143498 tw1142673529048489019 tw7086961617601330827 tw7424060955962978353 tw3671519592330383864 tw4046790133079468173 tw4561898282857576226 tw14537775516033599862 tw3365755272349913518 tw11513857634932158529 tw4562827626845409882 tw9848817304349107530 tw9947508896943372755 tw5101696844757716304 tw1956260828630720203 tw977512076041815475 tw17334828202450815106 tw2827255003249426055 tw6030501089693204938 tw87601786513091389 tw6782663255696616371 tw16203965252921439515 tw14391293386007564604 tw14746253646979254834 tw1915925776726481438 tw17338325484393633139 tw8171798328758944481 tw12843764043397292189 tw3049343062529576306 tw9536688357841153863 tw15166322114958858414 tw11907897558876765624 tw11502921971960690029 tw15577281813014381367 tw9977182230042388008 tw4547051000311932777 tw6557801498797044033 tw8422229294311615681 tw12488014758255163090 tw6060609690816243450 tw18183970276198133131 tw10879749546641988924 tw2595585439558603231 tw10988312798546598065 tw12772213712371865176 tw14424681132571578402 tw5362036446546632119 tw17292613610259460706 tw2399617604181995578 tw14261769069557060686 tw12903330217458380548 tw991626836265849350 tw772564365185477556 tw256976265262469064 tw11692469974320434101 tw547895379624588593 tw12770481643036789091 tw6128106870883400570 tw2474200967059427378 tw6408400580700104982 tw14226173905949225808 tw10294118229990073760 tw561727478393794602 tw9806118890596472461 tw8733291241859026926 tw1979317910248211280 tw2741014181512449073 tw3042748168174471775 tw15779231459743154856 tw18367749455379333440 tw6128145076113358165 tw6229817132586351632 tw16864618592142003386 tw12297992134047619483 tw12382822922155266910 tw14611616552423853409 tw4884199854448574 tw2244103112122482387 tw2576523973992343609 tw15433366417846715934 tw14022695629967993375 tw15042883488752021643 tw3992765435912101610 tw11898673842065290130 tw5622701340561072331 tw6549852094080907030 tw5217270863462422736 tw3985964047577975286 tw7164969610272591079 tw14564479935002850509 tw3382625519597670723 tw17351735930882485243 tw17659185236578331656 tw4635989785427082552 tw14664691819916384248 tw6472337539984862722 tw14842496431369740429 tw16753820520455620202 tw13622603851894308203 tw4309217394794523951 tw12652081859355081885 tw11564986514327137767 tw10792498714594961201 tw523537741815420091 tw4039707410889071942 tw18383651708701053236 tw17435391645217708394 tw10510056951384868246 tw896239598344801917 tw12740759652641322565 tw740290905518256060 tw5002640475654186023 tw14958820412457663293 tw7933485763601977624 tw14689541978594310382 tw4684226298888400098 tw4804111812005502284 tw3300257896294614128 tw2295934692909999376 tw5667099127317398114 tw11853640710764476214 tw13674586047789940208 tw6822071536725586909 tw3713540243193553862 tw1825952489489211193 tw896878414759379649 tw14387916025512776202 tw6858818405166986180 tw2080317491765294665 tw13953587524928339648 tw15805137534098808535 tw3374319085511977134 tw17464319187374939960 tw17318462890700432884 tw9510108024173832781 tw4493901809537577575 tw9972681490609642005 tw9950792792127014553 tw2483420100392427323 tw12408111787983249662 tw6702445572142316249 tw12138319994727072339 tw5872530126848033075 tw17817366049700826239 tw17613222154834848340 tw16860917588515726111 tw2931988195819169919 tw7322748291113730364 tw12099505692703838030 tw9456574344343218679 tw3953844824629472508 tw1401067106901849026 tw9331231397406362311 tw9646623106273453227 tw855453113358079251 tw9919008367099125623 tw2187251505897268136 tw2358075552688931204 tw16654469307462801742 tw1922157984580058403 tw11429584451438056573 tw17590705303994421779 tw6162269159774324313 tw16053306600634468012 tw8331849164307833061 tw15127105006835628225 tw5323657890516693427 tw13437419889732721216 tw726351398001015727 tw3110587219445414310 tw4075453323654395381 tw5702276774652866934 tw4334401890000744311 tw10910644110388302437 tw2400638427578300857 tw10519837036962490867 tw7374399212775623666 tw1708089923452030704 tw4971374062829452455 tw16217903435359918192 tw8186657734068701312 tw18293242582946804979 tw14703100239697439463 tw9689729476882780088 tw3897268976836264337 tw1864683662541468164 tw15254633091992210921 tw8222940686941784037 tw2646887283097553488 tw4321966507151631593 tw9116068151291705539 tw8739830900816887780 tw16248296213531012650 tw11266997524610791606 tw443766864951011646 tw11421057715548341654 tw2466311954974566718 tw2789304352393801511 tw6575520176995025181 tw2144661209622563809 tw13831308528885131752 tw2455152089536381482 tw1495895850433845275 tw1293241653719404408 tw5000232492035539693 tw7921390202802761869 tw6469784823511061222 tw6170744672141170255 tw6690350156832105676 tw16670775579421159206 tw9402243437249704421 tw5832305185047221409 tw1158361714356455011 tw3721919958574915784 tw11738243743197964597 tw16636501806038632012 tw17852080271459398996 tw8899516883271353254 tw16298917771340976007 tw2692750590507578028 tw819570635367399668 tw6607644564249050058 tw4490611911172417597 tw1719895430356276633 tw2353497105660221152 tw13711697494001597007 tw3543459598558145280 tw15438627641174518403 tw1467881925912835984 tw1956775160557780875 tw938635154573522699 tw12314708539913122752 tw1937721966566455358 tw18328257000508772394:True)
open_top hd for PySem.Challenge.rw_storejudge_k45_rows_asked_for
end
noncomputable section
theorem ZR0 (h:True:=by rfl):True:=h
def ZR:Lean.Syntax:=ZR0._auto_1
theorem ZD0 (h:True:=by decide):True:=h
theorem ZI0 (h:True:=by intro _;rfl):True:=h
theorem ZW0 (h:True:=by with_unfolding_all rfl):True:=h
set_option Elab.async false
set_option linter.all false
set_option maxRecDepth 100000
set_option maxHeartbeats 4000000
namespace L2
open PySem PySem.Spec PyProof.Rows

abbrev Key:=Sum Int Str
noncomputable def bD2:Key->Value->Bool
 | .inl k,v=>Value.isInt k v
 | .inr x,v=>Value.isStrOf x v
noncomputable def cL1 (w:World):Key->Int
 | .inl k=>hashInt k
 | .inr x=>hashStr w x
theorem keyIs_shape:∀ {k:Key} {v:Value},bD2 k v=true->(∃ i t,k=Sum.inl i/\v=Value.int i t)\/(∃ x t,k=Sum.inr x/\v=Value.str x t)
 | .inl i,v,h=>by
  obtain ⟨t,e⟩:=Value.isInt_shape (k:=i) (v:=v) h;exact .inl ⟨i,t,rfl,e⟩
 | .inr x,v,h=>by
  obtain ⟨t,e⟩:=Value.isStrOf_shape (x:=x) (v:=v) h;exact .inr ⟨x,t,rfl,e⟩
def bH1 (a b:Int):decide ((Sum.inl a:Key)=Sum.inl b)=(a==b):=by
 by_cases e:a=b
 ·subst e;simp
 ·have h:¬ (Sum.inl a:Key)=Sum.inl b:=fun q=>e (Sum.inl.inj q);rw [decide_eq_false h];exact (beq_eq_false_iff_ne.mpr e).symm
def bH2 (a b:Str):decide ((Sum.inr a:Key)=Sum.inr b)=decide (a=b):=by
 by_cases e:a=b
 ·subst e;simp
 ·have h:¬ (Sum.inr a:Key)=Sum.inr b:=fun q=>e (Sum.inr.inj q);rw [decide_eq_false h,decide_eq_false e]
def bH3 (a:Int) (b:Str):decide ((Sum.inl a:Key)=Sum.inr b)=false:=decide_eq_false (fun q=>nomatch q)
def bH4 (a:Str) (b:Int):decide ((Sum.inr a:Key)=Sum.inl b)=false:=decide_eq_false (fun q=>nomatch q)

def mX (prog:Program) (w:World):PySem.KeyKind prog w Key where
 is:=bD2
 hash:=cL1 w
 inj:=fun v a b ha hb=>by
  rcases keyIs_shape ha with ⟨i,t,rfl,rfl⟩ | ⟨x,t,rfl,rfl⟩
  ·rcases keyIs_shape hb with ⟨j,u,rfl,e⟩ | ⟨y,u,rfl,e⟩
   ·injection e with e1 _;rw [e1]
   ·exact nomatch e
  ·rcases keyIs_shape hb with ⟨j,u,rfl,e⟩ | ⟨y,u,rfl,e⟩
   ·exact nomatch e
   ·injection e with e1 _;rw [e1]
 byValue:=fun k v h=>by
  rcases keyIs_shape h with ⟨i,t,rfl,rfl⟩ | ⟨x,t,rfl,rfl⟩<;>rfl
 pyHash:=fun hv h=>by
  rcases keyIs_shape hv with ⟨i,t,rfl,rfl⟩ | ⟨x,t,rfl,rfl⟩
  ·exact wpAny_pyHash_int h
  ·exact wpAny_pyHash_str h
 eqBool:=fun hu hv h=>by
  rcases keyIs_shape hu with ⟨i,t,rfl,rfl⟩ | ⟨x,t,rfl,rfl⟩
  ·rcases keyIs_shape hv with ⟨j,u,rfl,rfl⟩ | ⟨y,u,rfl,rfl⟩
   ·rw [bH1] at h;exact wpAny_eqBool_int h
   ·rw [bH3] at h;exact SeqAt.EqAt.int_str i t y u _ _ _ _ h
  ·rcases keyIs_shape hv with ⟨j,u,rfl,rfl⟩ | ⟨y,u,rfl,rfl⟩
   ·rw [bH4] at h;exact SeqAt.EqAt.str_int x t j u _ _ _ _ h
   ·rw [bH2] at h;exact wpAny_eqBool_str h
 «strs»:=fun k x t v h=>by
  rcases keyIs_shape h with ⟨i,u,rfl,e⟩ | ⟨y,u,rfl,e⟩
  ·exact nomatch e
  ·injection e with e1 _
   subst e1;cases v<;>rfl

end L2

namespace DL
open PySem PySem.Spec PyProof.Rows L2
set_option genInjectivity true in
inductive W where
 | d (x:PyData)
 | c (i:Nat)
set_option genInjectivity true in
inductive Cell where
 | l (xs:List PyData)
 | k (kvs:List (PyData×PyData))
 | o (C:Addr) (fs:List (Str×W))
 | r (ws:List W)
 | n (kvs:List (PyData×PyData))
 | t (qs:List (Pos×Str))
abbrev aA:=List Cell
abbrev DSt:=List (Option W)
noncomputable def bU0:PyData->Option Key
 | .int i=>some (.inl i)
 | .str x=>if PyData.strOk x=true then some (.inr x) else none
 | _=>none
section
variable {α β γ:Type} {F G:α->β->Prop}
theorem nG (f:∀ a b,F a b->G a b):∀ {l:List α} {r:List β},Paired F l r->Paired G l r
 | _,_,.nil=>.nil
 | _,_,.cons h t=>.cons (f _ _ h) (nG f t)
theorem mM:∀ {l:List α} {r:List β} {i:Nat} {a:α},Paired F l r->l[i]?=some a->∃ b,r[i]?=some b/\F a b
 | _,_,_,_,.nil,e=>by simp at e
 | _,_,0,_,.cons h _,e=>by simp at e;subst e;exact ⟨_,rfl,h⟩
 | _,_,i+1,a,.cons _ t,e=>by
  obtain ⟨b,h1,h2⟩:=mM (i:=i) (a:=a) t (by simpa using e);exact ⟨b,by simpa using h1,h2⟩
theorem bH5 {a:α} {b:β} (h:F a b):∀ {l:List α} {r:List β} (i:Nat),Paired F l r->Paired F (l.set i a) (r.set i b)
 | _,_,_,.nil=>.nil
 | _,_,0,.cons _ t=>.cons h t
 | _,_,i+1,.cons q t=>.cons q (bH5 h i t)
theorem zW:∀ {l l':List α} {r r':List β},Paired F l r->Paired F l' r'->Paired F (l++l') (r++r')
 | _,_,_,_,.nil,s=>s
 | _,_,_,_,.cons h t,s=>.cons h (zW t s)
theorem aF1:∀ {l:List α} {r:List β} (n:Nat),Paired F l r->Paired F (l.take n) (r.take n)
 | _,_,0,_=>.nil
 | _,_,_+1,.nil=>.nil
 | _,_,n+1,.cons h t=>.cons h (aF1 n t)
theorem aF2:∀ {l:List α} {r:List β} (n:Nat),Paired F l r->Paired F (l.drop n) (r.drop n)
 | _,_,0,h=>h
 | _,_,_+1,.nil=>.nil
 | _,_,n+1,.cons _ t=>aF2 n t
theorem tJ {f:γ->α}:∀ {l:List γ} {r:List β},Paired (fun a b=>F (f a) b) l r->Paired F (l.map f) r
 | _,_,.nil=>.nil
 | _,_,.cons h t=>.cons h (tJ t)
theorem bD3 {f:γ->α}:∀ {l:List γ} {r:List β},Paired F (l.map f) r->Paired (fun a b=>F (f a) b) l r
 | [],_,h=>by cases h;exact .nil
 | _::_,_,h=>by cases h with | cons h t=>exact .cons h (bD3 t)
end
structure Sx where
 P:Program
 w:World
 K:PySem.W.Frag
 mg:Str->Option Value
 base:Heap
 os:OsState
 tb:Array Value
 tp:Addr
 hm:Bool
abbrev Zm:=Addr->Option Obj
structure Mp where
 Z:Zm
 m:List (Addr×Addr)
abbrev Kp:=Addr->Option (Bool×Obj)
def SqO (n:String) (o:Obj) (us:List Value):Prop:=(∃ k,o={ cls:=.type n,data:=.seq us.toArray k })/\us.length<=sizeLine
def DcO (S:Sx) (a:Addr) (o:Obj) (vs:List (Key×Value)):Prop:=(a==sysModules)=false/\vs.length<=sizeLine/\∀ h:Heap,h.get? a=some o->h.DictOf (mX S.P S.w) a vs
noncomputable def kT:List (PyData×PyData)->Option Str
 | [(.none,.str g)]=>some g
 | _=>none
noncomputable def fkD (g:Str):PyData:=.dict [(.none,.str g)]
def aT9 {kvs:List (PyData×PyData)} {g:Str} (e:kT kvs=some g):kvs=[(.none,.str g)]:=by
 unfold kT at e;split at e
 ·cases e;rfl
 ·cases e
mutual
noncomputable def Rep (S:Sx) (Z:Zm):PyData->Value->Prop
 | .none,u=>u=.none
 | .bool b,u=>u=.bool b
 | .int i,u=>∃ t,u=.int i t
 | .str x,u=>(∃ t,u=.str x t)/\PyData.strOk x=true
 | .list xs,u=>∃ a o us,u=.ref a/\Z a=some o/\SqO "list" o us/\Reps S Z xs us
 | .tuple xs,u=>∃ a o us,u=.ref a/\Z a=some o/\SqO "tuple" o us/\Reps S Z xs us
 | .dict kvs,u=>(∃ g a,kT kvs=some g/\u=.ref a/\S.mg g=some u)\/∃ a o vs,u=.ref a/\Z a=some o/\DcO S a o vs/\RepKs S Z kvs vs
noncomputable def Reps (S:Sx) (Z:Zm):List PyData->List Value->Prop
 | [],us=>us=[]
 | x::xs,us=>∃ u r,us=u::r/\Rep S Z x u/\Reps S Z xs r
noncomputable def RepKs (S:Sx) (Z:Zm):List (PyData×PyData)->List (Key×Value)->Prop
 | [],vs=>vs=[]
 | p::kvs,vs=>∃ q r,vs=q::r/\RepP S Z p q/\RepKs S Z kvs r
noncomputable def RepP (S:Sx) (Z:Zm):PyData×PyData->Key×Value->Prop
 | (k,x),q=>bU0 k=some q.1/\Rep S Z x q.2
end
section
variable {S:Sx} {Z Z':Zm}
theorem reps_iff:∀ {xs:List PyData} {us:List Value},Reps S Z xs us ↔ Paired (Rep S Z) xs us
 | [],us=>by rw [Reps];exact ⟨fun e=>e ▸ .nil,fun h=>by cases h;rfl⟩
 | x::xs,us=>by
  rw [Reps];exact ⟨fun ⟨u,r,e,h,t⟩=>e ▸ .cons h (reps_iff.mp t),fun h=>by cases h with | cons h t=>exact ⟨_,_,rfl,h,reps_iff.mpr t⟩⟩
abbrev RepK (S:Sx) (Z:Zm):List (PyData×PyData)->List (Key×Value)->Prop:=Paired fun p q=>bU0 p.1=some q.1/\Rep S Z p.2 q.2
theorem repks_iff:∀ {xs:List (PyData×PyData)} {us:List (Key×Value)},RepKs S Z xs us ↔ RepK S Z xs us
 | [],us=>by rw [RepKs];exact ⟨fun e=>e ▸ .nil,fun h=>by cases h;rfl⟩
 | (k,x)::xs,us=>by
  rw [RepKs];exact ⟨fun ⟨u,r,e,h,t⟩=>by rw [RepP] at h;exact e ▸ .cons h (repks_iff.mp t),fun h=>by cases h with | cons h t=>exact ⟨_,_,rfl,by rw [RepP];exact h,repks_iff.mpr t⟩⟩
def rep_l {xs:List PyData} {u:Value}:Rep S Z (.list xs) u ↔ ∃ a o us,u=.ref a/\Z a=some o/\SqO "list" o us/\Paired (Rep S Z) xs us:=by rw [Rep];simp only [reps_iff]
def rep_t {xs:List PyData} {u:Value}:Rep S Z (.tuple xs) u ↔ ∃ a o us,u=.ref a/\Z a=some o/\SqO "tuple" o us/\Paired (Rep S Z) xs us:=by rw [Rep];simp only [reps_iff]
def xS {xs:List (PyData×PyData)} {vs:List (Key×Value)} (r:RepK S Z xs vs):kT xs=none:=by
 cases e:kT xs with
 | none=>rfl
 | some g=>rw [aT9 e] at r;cases r with | cons h _=>cases h.1
def aF3 {xs:List (PyData×PyData)} {u:Value} (hf:kT xs=none):Rep S Z (.dict xs) u ↔ ∃ a o vs,u=.ref a/\Z a=some o/\DcO S a o vs/\RepK S Z xs vs:=by
 rw [Rep];simp only [repks_iff];exact ⟨fun h=>h.elim (fun ⟨g,_,e,_⟩=>by rw [hf] at e;cases e) id,.inr⟩
def aF4 {xs:List (PyData×PyData)} {u:Value} {g:Str} (hf:kT xs=some g):Rep S Z (.dict xs) u ↔ (∃ a,u=.ref a)/\S.mg g=some u:=by
 rw [Rep];simp only [repks_iff];refine ⟨fun h=>h.elim (fun ⟨g',a,e,e2,e3⟩=>?_) (fun ⟨a,o,vs,_,_,_,r⟩=>?_),fun ⟨⟨a,e⟩,h⟩=>.inl ⟨g,a,hf,e,h⟩⟩
 ·rw [hf] at e;cases e;exact ⟨⟨a,e2⟩,e3⟩
 ·rw [xS r] at hf;cases hf
def rep_n {u:Value}:Rep S Z .none u ↔ u=.none:=by rw [Rep]
def rep_b {b:Bool} {u:Value}:Rep S Z (.bool b) u ↔ u=.bool b:=by rw [Rep]
def rep_i {i:Int} {u:Value}:Rep S Z (.int i) u ↔ ∃ t,u=.int i t:=by rw [Rep]
def rep_s {x:Str} {u:Value}:Rep S Z (.str x) u ↔ (∃ t,u=.str x t)/\PyData.strOk x=true:=by rw [Rep]
mutual
theorem Rep.go (hs:∀ a o,Z a=some o->Z' a=some o):∀ {d:PyData} {v:Value},Rep S Z d v->Rep S Z' d v
 | .none,_,h=>by rw [Rep] at h ⊢;exact h
 | .bool _,_,h=>by rw [Rep] at h ⊢;exact h
 | .int _,_,h=>by rw [Rep] at h ⊢;exact h
 | .str _,_,h=>by rw [Rep] at h ⊢;exact h
 | .list xs,_,h=>by rw [Rep] at h ⊢;obtain ⟨a,o,us,e,z,q,r⟩:=h;exact ⟨a,o,us,e,hs _ _ z,q,Reps.go hs r⟩
 | .tuple xs,_,h=>by rw [Rep] at h ⊢;obtain ⟨a,o,us,e,z,q,r⟩:=h;exact ⟨a,o,us,e,hs _ _ z,q,Reps.go hs r⟩
 | .dict xs,_,h=>by rw [Rep] at h ⊢;exact h.elim .inl fun ⟨a,o,us,e,z,q,r⟩=>.inr ⟨a,o,us,e,hs _ _ z,q,RepKs.go hs r⟩
theorem Reps.go (hs:∀ a o,Z a=some o->Z' a=some o):∀ {ds:List PyData} {vs:List Value},Reps S Z ds vs->Reps S Z' ds vs
 | [],_,h=>by rw [Reps] at h ⊢;exact h
 | x::xs,_,h=>by rw [Reps] at h ⊢;obtain ⟨v,r,e,h1,h2⟩:=h;exact ⟨v,r,e,Rep.go hs h1,Reps.go hs h2⟩
theorem RepKs.go (hs:∀ a o,Z a=some o->Z' a=some o):∀ {ds:List (PyData×PyData)} {vs:List (Key×Value)},RepKs S Z ds vs->RepKs S Z' ds vs
 | [],_,h=>by rw [RepKs] at h ⊢;exact h
 | x::xs,_,h=>by rw [RepKs] at h ⊢;obtain ⟨v,r,e,h1,h2⟩:=h;exact ⟨v,r,e,RepP.go hs h1,RepKs.go hs h2⟩
theorem RepP.go (hs:∀ a o,Z a=some o->Z' a=some o):∀ {p:PyData×PyData} {q:Key×Value},RepP S Z p q->RepP S Z' p q
 | (k,x),q,h=>by rw [RepP] at h ⊢;exact ⟨h.1,Rep.go hs h.2⟩
end
end
def RepW (S:Sx) (M:Mp):W->Value->Prop
 | .d x,u=>Rep S M.Z x u
 | .c i,u=>∃ p,M.m[i]?=some p/\u=.ref p.1
abbrev Reps' (S:Sx) (M:Mp):List PyData->List Value->Prop:=Paired (Rep S M.Z)
abbrev RepWs (S:Sx) (M:Mp):List W->List Value->Prop:=Paired (RepW S M)
structure Le (M M':Mp):Prop where
 z:∀ a o,M.Z a=some o->M'.Z a=some o
 m:∃ n,M'.m=M.m++n
def Le.refl {M:Mp}:Le M M:=⟨fun _ _ e=>e,[],by simp⟩
def Le.trans {M N O:Mp} (a:Le M N) (b:Le N O):Le M O:=⟨fun x o e=>b.z x o (a.z x o e),let ⟨n,e⟩:=a.m;let ⟨k,q⟩:=b.m;⟨n++k,by rw [q,e,List.append_assoc]⟩⟩
def Le.at {M M':Mp} (l:Le M M') {i:Nat} {p:Addr×Addr} (e:M.m[i]?=some p):M'.m[i]?=some p:=by
 obtain ⟨n,q⟩:=l.m;rw [q,List.getElem?_append_left (List.getElem?_eq_some_iff.mp e).1,e]
section
variable {S:Sx} {M M':Mp}
def RepW.go (l:Le M M') {w:W} {u:Value} (r:RepW S M w u):RepW S M' w u:=by
 cases w with
 | d x=>exact Rep.go l.z r
 | c i=>obtain ⟨p,e,q⟩:=r;exact ⟨p,l.at e,q⟩
def RepWs.go (l:Le M M') {w:List W} {u:List Value} (r:RepWs S M w u):RepWs S M' w u:=nG (fun _ _ h=>h.go l) r
def Reps'.go (l:Le M M') {w:List PyData} {u:List Value} (r:Reps' S M w u):Reps' S M' w u:=nG (fun _ _ h=>Rep.go l.z h) r
def RepK.go (l:Le M M') {w:List (PyData×PyData)} {u:List (Key×Value)} (r:RepK S M.Z w u):RepK S M'.Z w u:=nG (fun _ _ h=>⟨h.1,Rep.go l.z h.2⟩) r
end
def RelO (S:Sx) (M:Mp):Option W->Option Value->Prop
 | some v,some u=>RepW S M v u
 | none,none=>True
 | _,_=>False
theorem RelO.go {S:Sx} {M M':Mp} (l:Le M M'):∀ {a:Option W} {b:Option Value},RelO S M a b->RelO S M' a b
 | some _,some _,h=>RepW.go l h
 | none,none,h=>h
 | some _,none,h=>h.elim
 | none,some _,h=>h.elim
end DL

namespace CI
open PySem
mutual
noncomputable def aK:Nat->PyData->Bool
 | _,.none=>true
 | _,.bool _=>true
 | _,.int _=>true
 | _,.str _=>true
 | n+1,.list xs=>plainsB n xs
 | n+1,.tuple xs=>plainsB n xs
 | _,_=>false
noncomputable def plainsB:Nat->List PyData->Bool
 | _,[]=>true
 | n,x::xs=>aK n x&&plainsB n xs
end
mutual
noncomputable def peq:PyData->PyData->Bool
 | .none,.none=>true
 | .bool a,.bool b=>a==b
 | .int a,.int b=>a==b
 | .str a,.str b=>a==b
 | .list a,.list b=>peqs a b
 | .tuple a,.tuple b=>peqs a b
 | _,_=>false
noncomputable def peqs:List PyData->List PyData->Bool
 | [],[]=>true
 | x::a,y::b=>peq x y&&peqs a b
 | _,_=>false
end
end CI
namespace DL
open PySem PySem.Spec PyProof.Rows L2 CI
section
variable {S:Sx}
mutual
theorem Rep.reads {Z:Zm} {hp:Heap} (k:∀ a o,Z a=some o->hp.get? a=some o):∀ {d:PyData} {u:Value} (n:Nat),Rep S Z d u->aK n d=true->(∃ as,Reads hp u d as)/\d.canLay0=true/\d.depth<=n
 | .none,_,n,h,_=>by rw [Rep] at h;subst h;exact ⟨⟨_,Reads.none⟩,by simp [PyData.canLay0,PyData.depth]⟩
 | .bool _,_,n,h,_=>by rw [Rep] at h;subst h;exact ⟨⟨_,Reads.bool _⟩,by simp [PyData.canLay0,PyData.depth]⟩
 | .int _,_,n,h,_=>by rw [Rep] at h;obtain ⟨t,rfl⟩:=h;exact ⟨⟨_,Reads.int _ _⟩,by simp [PyData.canLay0,PyData.depth]⟩
 | .str _,_,n,h,_=>by rw [Rep] at h;obtain ⟨⟨t,rfl⟩,z⟩:=h;exact ⟨⟨_,Reads.str _ _⟩,by simp [PyData.canLay0,PyData.depth,z]⟩
 | .list xs,_,0,_,p=>by cases p
 | .tuple xs,_,0,_,p=>by cases p
 | .list xs,_,n+1,h,p=>by
  rw [Rep] at h;obtain ⟨a,o,us,rfl,z,⟨⟨m,rfl⟩,_⟩,r⟩:=h;obtain ⟨⟨as,q⟩,c,l⟩:=Reps.reads k n r (show plainsB n xs=true from p);exact ⟨⟨_,Reads.list (k _ _ z) rfl rfl (by simpa using q)⟩,by simp [PyData.canLay0,PyData.depth,c,l]⟩
 | .tuple xs,_,n+1,h,p=>by
  rw [Rep] at h;obtain ⟨a,o,us,rfl,z,⟨⟨m,rfl⟩,_⟩,r⟩:=h;obtain ⟨⟨as,q⟩,c,l⟩:=Reps.reads k n r (show plainsB n xs=true from p);exact ⟨⟨_,Reads.tuple (k _ _ z) rfl rfl (by simpa using q)⟩,by simp [PyData.canLay0,PyData.depth,c,l]⟩
 | .dict _,_,n,_,p=>by cases n<;>cases p
theorem Reps.reads {Z:Zm} {hp:Heap} (k:∀ a o,Z a=some o->hp.get? a=some o):∀ {d:List PyData} {u:List Value} (n:Nat),Reps S Z d u->plainsB n d=true->(∃ as,ReadsAll hp u d as)/\PyData.canLayAll0 d=true/\PyData.depthAll d<=n
 | [],_,n,h,_=>by rw [Reps] at h;subst h;exact ⟨⟨_,ReadsAll.nil⟩,by simp [PyData.canLayAll0,PyData.depthAll]⟩
 | x::xs,_,n,h,p=>by
  rw [Reps] at h;obtain ⟨v,r,rfl,h1,h2⟩:=h
  replace p:(aK n x&&plainsB n xs)=true:=p
  rw [Bool.and_eq_true] at p;obtain ⟨⟨as,q1⟩,c1,l1⟩:=Rep.reads k n h1 p.1;obtain ⟨⟨bs,q2⟩,c2,l2⟩:=Reps.reads k n h2 p.2;refine ⟨⟨_,ReadsAll.cons q1 q2⟩,?_⟩;simp [PyData.canLayAll0,PyData.depthAll,c1,c2];omega
end
end
end DL

namespace DL
open PySem PySem.Spec PyProof.Rows L2
noncomputable def eQ:List (Pos×Str)->List Addr->List Value
 | q::qs,c::cs=>rawInt q.1.line::rawInt q.1.col::.ref c::eQ qs cs
 | _,_=>[]
def bD4 (Z:Zm) (q:Pos×Str) (c:Addr):Prop:=∃ o vs t,Z c=some o/\o.data=.fields vs/\vs[1]?=some (.str q.2 t)
abbrev bC (us:List Value) (n:Nat):Obj:={ cls:=.type "list",data:=.seq us.toArray n }
def CellOk (S:Sx) (M:Mp) (h:Heap) (p:Addr×Addr):Cell->Prop
 | .l xs=>∃ us n,h.get? p.1=some (bC us n)/\us.length<=sizeLine/\Reps' S M xs us
 | .r is=>∃ us n,h.get? p.1=some (bC us n)/\us.length<=sizeLine/\RepWs S M is us
 | .k kvs=>∃ vs,h.DictOf (mX S.P S.w) p.1 vs/\RepK S M.Z kvs vs/\(p.1==sysModules)=false/\vs.length<=sizeLine
 | .n _=>False
 | .t qs=>∃ cs,h.get? p.1=some { cls:=.none,data:=.fields (S.tb++(eQ qs cs).toArray) }/\Paired (bD4 M.Z) qs cs/\p=(S.tp,S.tp)
 | .o C fs=>p.2≠p.1/\fs.length<=1000/\h.get? p.1=some (PySem.W.instObj C p.2)/\∃ mA,h.Ns1 p.2 mA/\(∀ f,RelO S M (fs.lookup f) (mA f))/\PySem.Within mA (fs.map (·.1))
def CellOk.go {S:Sx} {M M':Mp} {h h':Heap} {p:Addr×Addr} {c:Cell} (l:Le M M') (k:∀ a o,(a=p.1\/a=p.2)->h.get? a=some o->h'.get? a=some o) (x:CellOk S M h p c):CellOk S M' h' p c:=by
 cases c with
 | l xs=>obtain ⟨us,n,e,z,r⟩:=x;exact ⟨us,n,k _ _ (.inl rfl) e,z,r.go l⟩
 | r xs=>obtain ⟨us,n,e,z,r⟩:=x;exact ⟨us,n,k _ _ (.inl rfl) e,z,r.go l⟩
 | k xs=>obtain ⟨vs,⟨o,es,ep,e,q⟩,r,z⟩:=x;exact ⟨vs,⟨o,es,ep,k _ _ (.inl rfl) e,q⟩,r.go l,z⟩
 | t qs=>obtain ⟨cs,e,r,ep⟩:=x;exact ⟨cs,k _ _ (.inl rfl) e,nG (fun _ _ ⟨o,vs,t,a,b⟩=>⟨o,vs,t,l.z _ _ a,b⟩) r,ep⟩
 | n xs=>exact x.elim
 | o C fs=>obtain ⟨a,b,e,mA,⟨o,es,ep,e2,q⟩,r,z⟩:=x;exact ⟨a,b,k _ _ (.inl rfl) e,mA,⟨o,es,ep,k _ _ (.inr rfl) e2,q⟩,fun f=>(r f).go l,z⟩
def aU (κ:Kp) (M:Mp) (a:Addr):Prop:=M.Z a=none/\κ a=none/\∀ p∈M.m,p.1≠a/\p.2≠a
structure Mem (S:Sx) (κ:Kp) (M:Mp) (h:aA) (s:Shared):Prop where
 z:∀ a o,M.Z a=some o->s.heap.get? a=some o
 k:∀ a b o,κ a=some (b,o)->(b=true->s.heap.get? a=some o)/\(∃ sl,s.heap.get? a=some { o with slots:=sl })/\M.Z a=none
 len:M.m.length=h.length
 ap:∀ (i j:Nat) (p q:Addr×Addr),M.m[i]?=some p->M.m[j]?=some q->i≠j->p.1≠q.1/\p.1≠q.2/\p.2≠q.1/\p.2≠q.2
 off:∀ p∈M.m,∀ a,a=p.1\/a=p.2->M.Z a=none/\κ a=none/\∃ o,s.heap.get? a=some o
 cel:∀ (i:Nat) p c,M.m[i]?=some p->h[i]?=some c->CellOk S M s.heap p c
 base:∀ a o,S.base.get? a=some o->M.Z a=some o
 bare:AllBare s.gens
 os:s.os=S.os
section
variable {S:Sx} {κ:Kp} {M M':Mp} {h:aA} {s s':Shared} {h':Heap} {a:Addr} {o:Obj}
def Mem.bk (R:Mem S κ M h s):∀ b o,S.base.get? b=some o->s.heap.get? b=some o:=fun b o e=>R.z b o (R.base b o e)
def Mem.new (R:Mem S κ M h s) (e:s.heap.get? a=none):aU κ M a:=by
 refine ⟨?_,?_,fun p hp=>?_⟩
 ·cases q:M.Z a with
  | none=>rfl
  | some o=>rw [R.z a o q] at e;cases e
 ·cases q:κ a with
  | none=>rfl
  | some x=>obtain ⟨_,⟨_,z⟩,_⟩:=R.k a x.1 x.2 q;rw [z] at e;cases e
 ·refine ⟨fun z=>?_,fun z=>?_⟩
  ·obtain ⟨_,_,_,q⟩:=R.off p hp a (.inl z.symm);rw [q] at e;cases e
  ·obtain ⟨_,_,_,q⟩:=R.off p hp a (.inr z.symm);rw [q] at e;cases e
def Mem.size (R:Mem S κ M h s):aU κ M s.heap.objs.size:=R.new (Heap.get?_none_of_le (Nat.le_refl _))
def Mem.keep (R:Mem S κ M h s) (k:∀ b o,s.heap.get? b=some o->¬ aU κ M b->s'.heap.get? b=some o) (hg:AllBare s'.gens) (ho:s'.os=s.os):Mem S κ M h s' where
 z:=fun b o e=>k b o (R.z b o e) fun f=>by rw [f.1] at e;cases e
 k:=fun b t o e=>by
  have nf:¬ aU κ M b:=fun f=>by rw [f.2.1] at e;cases e
  obtain ⟨h1,⟨sl,h2⟩,h3⟩:=R.k b t o e;exact ⟨fun z=>k b o (h1 z) nf,⟨sl,k b _ h2 nf⟩,h3⟩
 len:=R.len
 ap:=R.ap
 off:=fun p hp b hb=>by
  obtain ⟨h1,h2,o,h3⟩:=R.off p hp b hb;exact ⟨h1,h2,o,k b o h3 fun f=>by rcases hb with e | e;exact (f.2.2 p hp).1 e.symm;exact (f.2.2 p hp).2 e.symm⟩
 cel:=fun i p c e1 e2=>(R.cel i p c e1 e2).go .refl fun b o hb q=>k b o q fun f=>by
  have hp:=List.mem_of_getElem? e1;rcases hb with e | e;exact (f.2.2 p hp).1 e.symm;exact (f.2.2 p hp).2 e.symm
 base:=R.base
 bare:=hg
 os:=ho.trans R.os
def Mem.kept {t:Nat} (R:Mem S κ M h s) (k:∀ b o,s.heap.get? b=some o->h'.get? b=some o):Mem S κ M h { s with heap:=h',toks:=t }:=R.keep (fun b o e _=>k b o e) R.bare rfl
def Mem.tok (R:Mem S κ M h s) (t:Nat):Mem S κ M h { s with toks:=t }:=R.kept (h':=s.heap) fun _ _ e=>e
noncomputable def Mp.add (M:Mp) (a:Addr) (o:Obj):Mp:=⟨fun b=>if b=a then some o else M.Z b,M.m⟩
def gY:(M.add a o).Z a=some o:=if_pos rfl
def Le.add (f:M.Z a=none):Le M (M.add a o):=⟨fun b u e=>by
 show (if b=a then some o else M.Z b)=some u;rw [if_neg (fun z=>by rw [z,f] at e;cases e)];exact e,[],by simp [Mp.add]⟩
def Mem.frz (R:Mem S κ M h s) (f:aU κ M a) (e:s.heap.get? a=some o):Mem S κ (M.add a o) h s where
 z:=fun b u q=>by
  by_cases hb:b=a
  ·subst hb;rw [gY] at q;cases q;exact e
  ·exact R.z b u (by rw [<- q];exact (if_neg hb).symm)
 k:=fun b t u q=>by
  obtain ⟨h1,h2,h3⟩:=R.k b t u q;refine ⟨h1,h2,?_⟩;show (if b=a then some o else M.Z b)=none;rw [if_neg (fun z=>by rw [z,f.2.1] at q;cases q)];exact h3
 len:=R.len
 ap:=R.ap
 off:=fun p hp b hb=>by
  obtain ⟨h1,h2,h3⟩:=R.off p hp b hb;refine ⟨?_,h2,h3⟩;show (if b=a then some o else M.Z b)=none;rw [if_neg (fun z=>by rcases hb with e | e;exact (f.2.2 p hp).1 (e.symm.trans z);exact (f.2.2 p hp).2 (e.symm.trans z))];exact h1
 cel:=fun i p c e1 e2=>(R.cel i p c e1 e2).go (.add f.1) fun _ _ _ q=>q
 base:=fun b u q=>(Le.add f.1).z b u (R.base b u q)
 bare:=R.bare
 os:=R.os
noncomputable def Mp.cel (M:Mp) (p:Addr×Addr):Mp:=⟨M.Z,M.m++[p]⟩
def Le.cel {p:Addr×Addr}:Le M (M.cel p):=⟨fun _ _ e=>e,[p],rfl⟩
def snoc_at {α:Type} {l:List α} {x y:α} {i:Nat} (e:(l++[x])[i]?=some y):l[i]?=some y\/(i=l.length/\y=x):=by
 by_cases hi:i < l.length
 ·rw [List.getElem?_append_left hi] at e;exact .inl e
 ·rw [List.getElem?_append_right (by omega)] at e;have:i - l.length=0:=by
   have:=(List.getElem?_eq_some_iff.mp e).1;simp at this;omega
  rw [this] at e;exact .inr ⟨by omega,by simpa using e.symm⟩
def Mem.add {p:Addr×Addr} {c:Cell} (R:Mem S κ M h s) (f:aU κ M p.1) (g:aU κ M p.2) (ep:(∃ o,s.heap.get? p.1=some o)/\∃ o,s.heap.get? p.2=some o) (x:CellOk S (M.cel p) s.heap p c):Mem S κ (M.cel p) (h++[c]) s where
 z:=R.z
 k:=R.k
 len:=by show (M.m++[p]).length=_;simp [R.len]
 ap:=fun i j q r e1 e2 ne=>by
  rcases snoc_at (show (M.m++[p])[i]?=some q from e1) with z1 | ⟨z1,y1⟩<;>rcases snoc_at (show (M.m++[p])[j]?=some r from e2) with z2 | ⟨z2,y2⟩
  ·exact R.ap i j q r z1 z2 ne
  ·have hq:=List.mem_of_getElem? z1;rw [y2];exact ⟨(f.2.2 q hq).1,(g.2.2 q hq).1,(f.2.2 q hq).2,(g.2.2 q hq).2⟩
  ·have hq:=List.mem_of_getElem? z2;rw [y1];exact ⟨(f.2.2 r hq).1.symm,(f.2.2 r hq).2.symm,(g.2.2 r hq).1.symm,(g.2.2 r hq).2.symm⟩
  ·omega
 off:=fun q hq b hb=>by
  rcases List.mem_append.mp (show q∈M.m++[p] from hq) with hq | hq
  ·exact R.off q hq b hb
  ·rw [List.mem_singleton.mp hq] at hb;rcases hb with e | e
   ·subst e;exact ⟨f.1,f.2.1,ep.1⟩
   ·subst e;exact ⟨g.1,g.2.1,ep.2⟩
 cel:=fun i q d e1 e2=>by
  rcases snoc_at (show (M.m++[p])[i]?=some q from e1) with e3 | ⟨e3,rfl⟩
  ·rw [List.getElem?_append_left (by rw [<- R.len];exact (List.getElem?_eq_some_iff.mp e3).1)] at e2;exact (R.cel i q d e3 e2).go .cel fun _ _ _ q=>q
  ·rcases snoc_at e2 with e2 | ⟨e2,rfl⟩
   ·have:=(List.getElem?_eq_some_iff.mp e2).1;rw [<- R.len] at this;omega
   ·exact x
 base:=R.base
 bare:=R.bare
 os:=R.os
def Mem.wr {i:Nat} {p:Addr×Addr} {c:Cell} (R:Mem S κ M h s) (ei:M.m[i]?=some p) (k:∀ b o,b≠p.1->b≠p.2->s.heap.get? b=some o->s'.heap.get? b=some o) (ep:(∃ o,s'.heap.get? p.1=some o)/\∃ o,s'.heap.get? p.2=some o)
  (hg:AllBare s'.gens) (ho:s'.os=s.os) (x:CellOk S M s'.heap p c):Mem S κ M (h.set i c) s':=by
 have hp:=List.mem_of_getElem? ei;have o1:=R.off p hp p.1 (.inl rfl);have o2:=R.off p hp p.2 (.inr rfl);refine ⟨fun b u e=>k b u (fun z=>?_) (fun z=>?_) (R.z b u e),fun b t u e=>?_,by rw [List.length_set];exact R.len,R.ap,fun q hq b hb=>?_,fun j q d e1 e2=>?_,R.base,hg,ho.trans R.os⟩
 ·rw [z,o1.1] at e;cases e
 ·rw [z,o2.1] at e;cases e
 ·obtain ⟨h1,⟨sl,h2⟩,h3⟩:=R.k b t u e;have n1:b≠p.1:=fun z=>by rw [z,o1.2.1] at e;cases e
  have n2:b≠p.2:=fun z=>by rw [z,o2.2.1] at e;cases e
  exact ⟨fun z=>k b u n1 n2 (h1 z),⟨sl,k b _ n1 n2 h2⟩,h3⟩
 ·obtain ⟨h1,h2,u,h3⟩:=R.off q hq b hb;refine ⟨h1,h2,?_⟩
  by_cases z1:b=p.1
  ·rw [z1];exact ep.1
  by_cases z2:b=p.2
  ·rw [z2];exact ep.2
  exact ⟨u,k b u z1 z2 h3⟩
 ·by_cases ij:i=j
  ·subst ij;rw [ei] at e1;cases e1;rw [List.getElem?_set_self (by rw [<- R.len];exact (List.getElem?_eq_some_iff.mp ei).1)] at e2;cases e2;exact x
  ·rw [List.getElem?_set_ne ij] at e2;obtain ⟨a1,a2,a3,a4⟩:=R.ap i j p q ei e1 ij;refine (R.cel j q d e1 e2).go .refl fun b u hb e=>k b u ?_ ?_ e
   ·rcases hb with z | z;exact fun y=>a1 (y.symm.trans z);exact fun y=>a2 (y.symm.trans z)
   ·rcases hb with z | z;exact fun y=>a3 (y.symm.trans z);exact fun y=>a4 (y.symm.trans z)
def Mem.less {κ':Kp} (R:Mem S κ' M h s) (k:∀ a x,κ a=some x->κ' a=some x):Mem S κ M h s :=
 ⟨R.z,fun a b o e=>R.k a b o (k a _ e),R.len,R.ap,fun p hp a ha=>(by
  obtain ⟨h1,h2,h3⟩:=R.off p hp a ha;refine ⟨h1,?_,h3⟩;cases q:κ a with
  | none=>rfl
  | some x=>rw [k a x q] at h2;cases h2),R.cel,R.base,R.bare,R.os⟩
noncomputable def Kp.up (κ:Kp) (a:Addr) (x:Bool×Obj):Kp:=fun b=>if b=a then some x else κ b
def dY {x:Bool×Obj}:κ.up a x a=some x:=if_pos rfl
def bN {x:Bool×Obj} {b:Addr} (h:b≠a):κ.up a x b=κ b:=if_neg h
def Mem.more {b:Bool} (R:Mem S κ M h s) (f:M.Z a=none/\∀ p∈M.m,p.1≠a/\p.2≠a) (e:s.heap.get? a=some o):Mem S (κ.up a (b,o)) M h s :=
 ⟨R.z,fun c t u q=>by
  by_cases hc:c=a
  ·subst hc;rw [dY] at q;cases q;exact ⟨fun _=>e,⟨_,e⟩,f.1⟩
  ·rw [bN hc] at q;exact R.k c t u q,R.len,R.ap,fun p hp c hc=>(by
  obtain ⟨h1,h2,h3⟩:=R.off p hp c hc;refine ⟨h1,?_,h3⟩;rw [bN fun z=>?_];exact h2;rcases hc with q | q;exact (f.2 p hp).1 (q.symm.trans z);exact (f.2 p hp).2 (q.symm.trans z)),R.cel,R.base,R.bare,R.os⟩
def Mem.kc {x:Bool×Obj} (R:Mem S κ M h s) (ea:κ a=some x):∀ p∈M.m,p.1≠a/\p.2≠a:=fun p hp =>
 have t:∀ b,b=p.1\/b=p.2->b≠a:=fun b hb z=>by
  have:=(R.off p hp b hb).2.1;rw [z,ea] at this;cases this
 ⟨t _ (.inl rfl),t _ (.inr rfl)⟩
def Mem.own {x:Bool×Obj} {b:Bool} (R:Mem S κ M h s) (ea:κ a=some x) (k:∀ b o,b≠a->s.heap.get? b=some o->s'.heap.get? b=some o) (e:s'.heap.get? a=some o) (hg:AllBare s'.gens) (ho:s'.os=s.os):Mem S (κ.up a (b,o)) M h s':=by
 have za:=(R.k a x.1 x.2 ea).2.2;have ca:∀ p∈M.m,p.1≠a/\p.2≠a:=R.kc ea;refine ⟨fun c u q=>k c u (fun z=>by rw [z,za] at q;cases q) (R.z c u q),fun c t u q=>?_,R.len,R.ap,fun p hp c hc=>?_,fun i p d e1 e2=>?_,R.base,hg,ho.trans R.os⟩
 ·by_cases hc:c=a
  ·subst hc;rw [dY] at q;cases q;exact ⟨fun _=>e,⟨_,e⟩,za⟩
  ·rw [bN hc] at q;obtain ⟨h1,⟨sl,h2⟩,h3⟩:=R.k c t u q;exact ⟨fun z=>k c u hc (h1 z),⟨sl,k c _ hc h2⟩,h3⟩
 ·obtain ⟨h1,h2,u,h3⟩:=R.off p hp c hc;have hca:c≠a:=by rcases hc with q | q;exact q ▸ (ca p hp).1;exact q ▸ (ca p hp).2
  exact ⟨h1,by rw [bN hca];exact h2,u,k c u hca h3⟩
 ·have hp:=List.mem_of_getElem? e1;refine (R.cel i p d e1 e2).go .refl fun c u hc q=>k c u ?_ q;rcases hc with q | q;exact q ▸ (ca p hp).1;exact q ▸ (ca p hp).2
end
end DL

namespace HT
open PySem PyProof.Rows

section
open PySem.SeqAt
open PySem.AutoSeq1 (wpAny_loadPart')
open PySem.MeetsSeq PySem.MeetsSeq2 PySem.MeetsSeq3

end

section
variable {prog:Program} {w:World} {A:Around} {E:Value->Shared->Prop} {s:Shared}

def cat_tup {t b:Addr} {vs ws:List Value} {Q:Value->Shared->Prop} (ht:IsTup s.heap t vs.toArray) (hb:IsTup s.heap b ws.toArray) (hv:vs≠[])
  (h1:ws=[]->Q (.ref t) s) (h2:ws≠[]->Q (.ref s.heap.objs.size) { s with heap:=s.heap.push { cls:=.type "tuple",data:=.seq (vs++ws).toArray } })
  (hsz:vs.length+ws.length<=sizeLine):wpAny (model prog w) A (binaryOp .Add (.ref t) (.ref b)) Q E s:=by
 obtain ⟨⟨cls,dd,data,sl⟩,ho,hc,n,hd⟩:=id ht;obtain ⟨⟨cls2,dd2,data2,sl2⟩,ho2,hc2,n2,hd2⟩:=id hb;simp only at hc hd hc2 hd2;subst hc hd hc2 hd2;have e:vs.toArray++ws.toArray=(vs++ws).toArray:=by simp
 by_cases hw:ws=[]
 ·exact concat_meets ⟨_,ho,rfl⟩ ⟨_,ho2,rfl⟩ noFill_tuple_add seq_tuple_add PySem.F.slot_tuple_add PySem.F.entry_tuple_add (PySem.F.args_tuple_add_2 _ _)
   (tuple_addW1 t b vs.toArray ws.toArray n n2 dd dd2 sl sl2 (by simpa using hv) (by simp [hw])) ⟨ho,ho2,h1 hw⟩
 ·refine concat_meets ⟨_,ho,rfl⟩ ⟨_,ho2,rfl⟩ noFill_tuple_add seq_tuple_add PySem.F.slot_tuple_add PySem.F.entry_tuple_add (PySem.F.args_tuple_add_2 _ _)
   (tuple_addW2 t b vs.toArray ws.toArray n n2 dd dd2 sl sl2 (by simpa using hv) (by simpa using hw) (by rw [List.size_toArray,List.size_toArray];exact hsz)) ⟨ho,ho2,?_⟩
  rw [e];exact h2 hw

noncomputable def sIx (n d:Nat):Option Int->Nat
 | none=>d
 | some v=>if v < 0 then (v+(n:Int)).toNat else min v.toNat n
def bH6 (n d:Nat) (hd:d<=n) (o:Option Int):sIx n d o<=n:=by
 cases o with
 | none=>exact hd
 | some v =>
  show (if v < 0 then (v+(n:Int)).toNat else min v.toNat n)<=n
  by_cases hv:v < 0
  ·rw [if_pos hv];omega
  ·rw [if_neg hv];exact Nat.min_le_right _ _
def xT (v:Int) (n d:Nat):(if v < 0 then max (v+(n:Int)) 0 else min v (n:Int))=((sIx n d (some v):Nat):Int):=by
 show (if v < 0 then max (v+(n:Int)) 0 else min v (n:Int))=(((if v < 0 then (v+(n:Int)).toNat else min v.toNat n):Nat):Int)
 by_cases hv:v < 0
 ·simp only [if_pos hv];omega
 ·simp only [if_neg hv];omega
def vW (lo hi:Option Int) (n:Nat):Builtin.Slice.sliceAdjust lo hi 1 (n:Int)=(((sIx n 0 lo:Nat):Int),((sIx n n hi:Nat):Int)):=by
 have h1:¬ ((1:Int) < 0):=by omega
 unfold Builtin.Slice.sliceAdjust;simp only [h1,if_false];refine Prod.ext ?_ ?_
 ·cases lo with
  | none=>rfl
  | some v=>exact xT v n 0
 ·cases hi with
  | none=>rfl
  | some v=>exact xT v n n
def vX (i j:Nat):Builtin.Slice.slicePlaces (i:Int) (j:Int) 1=j - i:=by
 unfold Builtin.Slice.slicePlaces;have h1:(1:Int) > 0:=by omega
 simp only [h1,if_true,Int.ediv_one];split<;>omega
def nH {v:Value} {o:Option Int} {Q:Option Int->Shared->Prop} (p:IsPart v o) (h:Q o s):wpAny (model prog w) A (Builtin.Slice.slicePartIndex v) Q E s:=by
 cases p with
 | none=>exact slicePart_none h
 | int i t=>exact slicePart_int h
def sliceApplied_gen {sl:Addr} {vl vu:Value} {lo hi:Option Int} {n:Nat} {Q:Int×Int×Nat->Shared->Prop} (hs:s.heap.IsSliceOf sl vl vu .none) (pl:IsPart vl lo) (pu:IsPart vu hi)
  (h:Q (((sIx n 0 lo:Nat):Int),1,sIx n n hi - sIx n 0 lo) s):wpAny (model prog w) A (Builtin.Slice.sliceApplied (.ref sl) (pure (n:Int))) Q E s:=by
 obtain ⟨os,hos,hcs,hds⟩:=id hs;unfold Builtin.Slice.sliceApplied Builtin.Slice.sliceFields;refine wpAny_bind (wpAny_bind (wpAny_field hos hds (x:=vl) rfl (wpAny_bind (wpAny_field hos hds (x:=vu) rfl (wpAny_bind (wpAny_field hos hds (x:=.none) rfl (wpAny_pure ?_)))))));refine wpAny_bind (slicePart_none ?_);show wpAny _ _ (if ((1:Int)==0)=true then _ else _) _ _ s;rw [if_neg (by decide)];refine wpAny_bind (nH pl (wpAny_bind (nH pu (wpAny_bind (wpAny_pure ?_)))));show wpAny _ _ (match Builtin.Slice.sliceAdjust lo hi 1 (n:Int) with | (lo,hi)=>pure (lo,(1:Int),Builtin.Slice.slicePlaces lo hi 1)) _ _ s;rw [vW lo hi n];show wpAny _ _ (pure (((sIx n 0 lo:Nat):Int),(1:Int),Builtin.Slice.slicePlaces ((sIx n 0 lo:Nat):Int) ((sIx n n hi:Nat):Int) 1)) _ _ s;rw [vX];exact wpAny_pure h
def aF5 (xs:Array Value) (i k:Nat):((List.range k).filterMap fun (m:Nat)=>xs[((i:Int)+(m:Int)*1).toNat]?).toArray=((xs.toList.drop i).take k).toArray:=by
 have e:(fun (m:Nat)=>xs[((i:Int)+(m:Int)*1).toNat]?)=fun m=>xs[i+m]?:=by
  funext m
  have:((i:Int)+(m:Int)*1).toNat=i+m:=by omega
  rw [this]
 rw [e];have:=pick_run xs i k;rw [List.filterMap_map] at this;have e2:((fun x=>xs[x]?) ∘ fun x=>i+x)=fun m=>xs[i+m]?:=rfl;rw [e2] at this;rw [this]

def getItem_tuple_cut {t sl:Addr} {items:Array Value} {vl vu:Value} {lo hi:Option Int} {Q:Value->Shared->Prop} (ht:IsTup s.heap t items) (hs:s.heap.IsSliceOf sl vl vu .none) (pl:IsPart vl lo) (pu:IsPart vu hi)
  (hw:¬ (sIx items.size 0 lo=0/\sIx items.size items.size hi=items.size))
  (h:Q (.ref s.heap.objs.size) { s with heap:=s.heap.push { cls:=.type "tuple",data:=.seq ((items.toList.drop (sIx items.size 0 lo)).take (sIx items.size items.size hi - sIx items.size 0 lo)).toArray } })
  (hsz:items.size<=sizeLine):wpAny (model prog w) A (getItem (.ref t) (.ref sl)) Q E s:=by
 have htake:sizeOk (.seq ((items.toList.drop (sIx items.size 0 lo)).take (sIx items.size items.size hi - sIx items.size 0 lo)).toArray):=by
  show ((items.toList.drop (sIx items.size 0 lo)).take (sIx items.size items.size hi - sIx items.size 0 lo)).toArray.size<=sizeLine;rw [List.size_toArray,List.length_take,List.length_drop,Array.length_toList];omega
 have hj:sIx items.size items.size hi<=items.size:=bH6 _ _ (Nat.le_refl _) hi;obtain ⟨os,hos,hcs,hds⟩:=id hs;have hTs:s.TypeIs (.ref sl) "slice":=⟨os,hos,hcs⟩;unfold getItem;try with_reducible refine wpAny_holding ?_
 first | refine wpAny_bind (wpAny_pure ?_) | skip
 refine wpAny_bind (wpAny_sequenceKey ht.typeIs (by decide) ?_);refine wpAny_bind (wpAny_callSpecial?_slot (name:=Str.ofString "__getitem__") ht.typeIs PyProof.Rows.slot_tuple_getitem
  (wpAny_call_entry PyProof.Rows.slot_tuple_getitem ht.typeIs entry_tuple_getitem ?_ (args_tuple_getitem _ _)))
 show wpAny _ _ (Builtin.Tuple.tupleItemsOf (.ref t) >>= _) _ _ s;refine wpAny_bind (tupleItemsOf_ ht ?_);refine wpAny_bind (wpAny_typeOf hTs ?_);rw [if_pos (by decide)];refine wpAny_bind (sliceApplied_gen hs pl pu ?_);have hno:¬ ((((sIx items.size 0 lo:Nat):Int)==0&&(1:Int)==1&&(sIx items.size items.size hi - sIx items.size 0 lo)==items.size)=true):=by
  intro q;rw [Bool.and_eq_true,Bool.and_eq_true] at q;have q1:((sIx items.size 0 lo:Nat):Int)=0:=eq_of_beq q.1.1;have q2:sIx items.size items.size hi - sIx items.size 0 lo=items.size:=eq_of_beq q.2;exact hw ⟨by omega,by omega⟩
 show wpAny _ _ (if (((sIx items.size 0 lo:Nat):Int)==0&&(1:Int)==1&&(sIx items.size items.size hi - sIx items.size 0 lo)==items.size)=true then _ else _) _ _ s;rw [if_neg hno,aF5]
 first
  | exact wpAny_bind (m:=Builtin.Tuple.tupleExact _) (wpAny_newObj_type (wpAny_pure ⟨_,rfl,wpAny_pure h⟩) htake)
  | exact wpAny_bind (m:=Builtin.Tuple.tupleExact _) (wpAny_newObj_type (wpAny_bind (wpAny_pure (wpAny_pure ⟨_,rfl,wpAny_pure h⟩))) htake)
  | exact wpAny_bind (wpAny_bind (m:=Builtin.Tuple.tupleExact _) (wpAny_newObj_type (wpAny_pure (wpAny_pure ⟨_,rfl,wpAny_pure h⟩)) htake))
  | exact wpAny_bind (wpAny_bind (m:=Builtin.Tuple.tupleExact _) (wpAny_newObj_type (wpAny_pure ⟨_,rfl,wpAny_pure h⟩) htake))
end
end HT

namespace L2
open PySem
noncomputable def cM (s:Stmt):Arguments:=match s with
 | .FunctionDef _ a _ _ _ _ _ _ _ _=>a
 | _=>{ posonlyargs:=[],args:=[],vararg:=none,kwonlyargs:=[],kw_defaults:=[],kwarg:=none,defaults:=[] }
noncomputable def aN (s:Stmt):List Stmt:=match s with
 | .FunctionDef _ _ b _ _ _ _ _ _ _=>b
 | _=>[]
noncomputable def defScope (s:Stmt):Scope:=match s with
 | .FunctionDef _ _ _ _ _ _ sc _ _ _=>sc
 | _=>{ kind:=.module,names:=[],isGenerator:=false,isCoroutine:=false,more:=[] }
noncomputable def ixN (n:Nat) (i:Int):Option Nat:=if 0<=i then (if i < n then some i.toNat else none) else if -(n:Int)<=i then some (i+n).toNat else none
def atI {α:Type} (xs:List α) (i:Int):Option α:=(ixN xs.length i).bind fun j=>xs[j]?
end L2
namespace ST
open PySem PyProof.Rows
noncomputable def dd (ns:List Int):List Int:=ns.foldl step_dedup []
noncomputable def srt (ns:List Int):List Int:=ns.mergeSort fun a b=>decide (a<=b)
end ST
namespace DL
open PySem PySem.Spec PyProof.Rows L2
noncomputable def ref (h:aA):W->Option PyData
 | .d x=>some x
 | .c i=>match h[i]? with
  | some (.l xs)=>some (.list xs)
  | some (.k kvs)=>some (.dict kvs)
  | _=>none
noncomputable def bD5:W->List Nat
 | .c i=>[i]
 | _=>[]
def cRefs:Cell->List Nat
 | .o _ fs=>(fs.map fun p=>bD5 p.2).flatten
 | .r is=>(is.map bD5).flatten
 | _=>[]
def okP (h h1:aA):Prop:=∀ (i:Nat) (c:Cell),i < h.length->h1[i]?=some c->(∀ j∈cRefs c,j < h.length)\/h[i]?=some c
noncomputable def isSame:PyData->PyData->Option Bool
 | .none,.none=>some true
 | .bool a,.bool b=>some (a==b)
 | .none,.bool _=>some false
 | .bool _,.none=>some false
 | .int _,.none=>some false
 | .int _,.bool _=>some false
 | .str _,.none=>some false
 | .str _,.bool _=>some false
 | .list _,.none=>some false
 | .list _,.bool _=>some false
 | .tuple _,.none=>some false
 | .tuple _,.bool _=>some false
 | _,_=>none
noncomputable def cX:List PyData->Option (List Bool)
 | []=>some []
 | .bool b::r=>(cX r).map (b::·)
 | _::_=>none
noncomputable def fZ:PyData->String
 | .none=>"NoneType"
 | .bool _=>"bool"
 | .int _=>"int"
 | .str _=>"str"
 | .list _=>"list"
 | .tuple _=>"tuple"
 | .dict _=>"dict"
def noD:PyData->Bool
 | .dict kvs=>(kT kvs).isNone
 | _=>true
def isi (d:PyData) (T:String):Bool:=fZ d==T||(fZ d=="bool"&&T=="int")
def cut (xs:List PyData) (lo hi:Option Int):List PyData:=(xs.drop (HT.sIx xs.length 0 lo)).take (HT.sIx xs.length xs.length hi - HT.sIx xs.length 0 lo)
noncomputable def bW (ixs:List (Option Nat)) (δ:DSt):DSt:=ixs.map fun o=>o.bind fun i=>(δ[i]?).bind id
noncomputable def cH (N:List Str) (ws:List W):DSt:=ws.map some++List.replicate (N.length - ws.length) none
noncomputable def rng (lo:Int) (n:Nat):List PyData:=(List.range n).map fun (i:Nat)=>.int (lo+(i:Int))
noncomputable def nK:W->Option (List PyData)
 | .d (.list xs)=>some xs
 | .d (.tuple xs)=>some xs
 | _=>none
noncomputable def kU (xs ys:List PyData):List PyData:=List.zipWith (fun x y=>.tuple [x,y]) xs ys
noncomputable def jC (k:Nat):List PyData->List PyData
 | []=>[]
 | x::r=>.tuple [.int k,x]::jC (k+1) r
def bX (xs:List PyData):List PyData:=jC 0 xs
noncomputable def dG:List PyData->Option (List Int)
 | []=>some []
 | .int i::r=>(dG r).map (i::·)
 | _=>none
noncomputable def gM:List W->Option (List PyData)
 | []=>some []
 | .d x::r=>(gM r).map (x::·)
 | _::_=>none
end DL

namespace ST
open PySem PySem.Spec PyProof.Rows
def Ris (xs:Array Nat):Prop:=xs.toList.Pairwise (· < ·)
def Ris.lt {xs:Array Nat} (h:Ris xs) {i k:Nat} {a b:Nat} (hik:i < k) (ha:xs[i]?=some a) (hb:xs[k]?=some b):a < b:=by
 unfold Ris at h;rw [List.pairwise_iff_getElem] at h;rw [Array.getElem?_eq_some_iff] at ha hb;obtain ⟨h1,rfl⟩:=ha;obtain ⟨h2,rfl⟩:=hb;exact h i k (by simpa using h1) (by simpa using h2) hik
theorem rB {xs:Array Nat} {j:Nat} (hx:Ris xs):∀ (fuel lo hi:Nat),hi - lo<=fuel->lo<=hi->hi<=xs.size->(∀ i a,i < lo->xs[i]?=some a->a < j)->(∀ i a,hi<=i->xs[i]?=some a->j<=a) ->
  (∀ i a,i < SetTable.below.go xs j fuel lo hi->xs[i]?=some a->a < j)/\(∀ i a,SetTable.below.go xs j fuel lo hi<=i->xs[i]?=some a->j<=a)/\SetTable.below.go xs j fuel lo hi<=xs.size
 | 0,lo,hi,h1,h2,h3,h4,h5=>by
  have:lo=hi:=by omega
  subst this;exact ⟨h4,h5,h3⟩
 | fuel+1,lo,hi,h1,h2,h3,h4,h5=>by
  unfold SetTable.below.go;split
  ·rename_i hlt;have hm:(lo+hi) / 2 < xs.size:=by omega
   have em:xs[(lo+hi) / 2]?=some xs[(lo+hi) / 2]:=Array.getElem?_eq_getElem hm;have eg:xs.getD ((lo+hi) / 2) j=xs[(lo+hi) / 2]:=by simp [Array.getD,hm]
   dsimp only;rw [eg];split
   ·rename_i hj;refine rB hx fuel _ _ (by omega) (by omega) h3 (fun i a hi' ha=>?_) h5
    by_cases e:i=(lo+hi) / 2
    ·subst e;rw [em] at ha;cases ha;exact hj
    ·exact Nat.lt_trans (hx.lt (by omega) ha em) hj
   ·rename_i hj;refine rB hx fuel _ _ (by omega) (by omega) (by omega) h4 (fun i a hi' ha=>?_)
    by_cases e:i=(lo+hi) / 2
    ·subst e;rw [em] at ha;cases ha;omega
    ·have:=hx.lt (show (lo+hi) / 2 < i by omega) em ha;omega
  ·have:lo=hi:=by omega
   subst this;exact ⟨h4,h5,h3⟩
def vY {xs:Array Nat} (hx:Ris xs) (j:Nat):(∀ i a,i < SetTable.below xs j->xs[i]?=some a->a < j)/\(∀ i a,SetTable.below xs j<=i->xs[i]?=some a->j<=a)/\SetTable.below xs j<=xs.size :=
 rB hx xs.size 0 xs.size (by omega) (by omega) (Nat.le_refl _) (fun i a h=>by omega) (fun i a h e=>by
  rw [Array.getElem?_eq_none (by omega)] at e;cases e)
def vZ {xs:Array Nat} (hx:Ris xs) {j:Nat} (hj:xs[SetTable.below xs j]?≠some j):Ris (SetTable.insertAt xs (SetTable.below xs j) j):=by
 obtain ⟨h1,h2,h3⟩:=vY hx j;have e:(SetTable.insertAt xs (SetTable.below xs j) j).toList=xs.toList.take (SetTable.below xs j)++j::xs.toList.drop (SetTable.below xs j):=by
  simp [SetTable.insertAt,Array.toList_extract,List.extract_eq_take_drop,List.take_of_length_le]
 unfold Ris at hx ⊢;rw [e,List.pairwise_append,List.pairwise_cons];have mt:∀ a∈xs.toList.take (SetTable.below xs j),a < j:=fun a ha=>by
  obtain ⟨i,hi,ea⟩:=List.mem_iff_getElem.mp ha;rw [List.getElem_take] at ea;rw [List.length_take] at hi;refine h1 i a (by omega) ?_;rw [<- ea];exact Array.getElem?_eq_getElem (by simp at hi;omega)
 have md:∀ b∈xs.toList.drop (SetTable.below xs j),j < b:=fun b hb=>by
  obtain ⟨i,hi,eb⟩:=List.mem_iff_getElem.mp hb;rw [List.getElem_drop] at eb;rw [List.length_drop] at hi;have hlt:SetTable.below xs j+i < xs.size:=by simp at hi;omega
  have eg:xs[SetTable.below xs j+i]?=some b:=by rw [<- eb];exact Array.getElem?_eq_getElem hlt
  have q:=h2 _ b (by omega) eg;rcases Nat.lt_or_eq_of_le q with q | q
  ·exact q
  ·subst q;cases i with
   | zero=>exact absurd eg hj
   | succ i =>
    have e0:xs[SetTable.below xs j]?=some xs[SetTable.below xs j]:=Array.getElem?_eq_getElem (by omega);have:=Ris.lt hx (show SetTable.below xs j < SetTable.below xs j+(i+1) by omega) e0 eg;have q0:=h2 _ _ (Nat.le_refl _) e0;omega
 refine ⟨hx.sublist (List.take_sublist _ _),⟨md,hx.sublist (List.drop_sublist _ _)⟩,fun a ha b hb=>?_⟩;rcases List.mem_cons.mp hb with rfl | hb
 ·exact mt a ha
 ·exact Nat.lt_trans (mt a ha) (md b hb)
def zX (n:Nat):Ris (Array.range n):=by
 unfold Ris;rw [Array.toList_range];exact List.pairwise_lt_range
def free (t:SetTable) (j:Nat):Prop:=t.place[SetTable.below t.place j]?≠some j
def qA {t:SetTable} {j:Nat} (h:∀ i,t.slot j≠.live i):free t j:=by
 intro e;unfold SetTable.slot at h;dsimp only at h;rw [e] at h;simp at h
theorem jL {t:SetTable} {f:Nat->Int} {h:Int}:∀ (fuel:Nat) (p:SetTable.Probe),(∀ d,p.dummy=some d->free t d)->∀ j d,SetTable.probe.go t f h fuel p=some (.empty j d)->free t j/\∀ d',d=some d'->free t d'
 | 0,p,hp,j,d,e=>by simp [SetTable.probe.go] at e
 | fuel+1,p,hp,j,d,e=>by
  unfold SetTable.probe.go at e;split at e
  ·rename_i es;cases e;exact ⟨qA (fun i z=>by rw [es] at z;cases z),hp⟩
  ·rename_i es;refine jL fuel _ (fun d' ed=>?_) j d e;have:(t.advance { p with dummy:=some p.j }).dummy=some p.j:=by
    unfold SetTable.advance;split<;>rfl
   rw [this] at ed;cases ed;exact qA fun i z=>by rw [es] at z;cases z
  ·split at e
   ·cases e
   ·refine jL fuel _ (fun d' ed=>hp d' ?_) j d e;have:(t.advance p).dummy=p.dummy:=by
     unfold SetTable.advance;split<;>rfl
    rw [<- this];exact ed
def pO {t:SetTable} {h:Int} {j:Nat} {b:Bool} (e:t.freeSlot h=some (j,b)):free t j:=by
 unfold SetTable.freeSlot at e;split at e
 ·rename_i j' d ep;cases e;obtain ⟨f1,f2⟩:=jL _ _ (fun d ed=>by simp [SetTable.probeStart] at ed) _ _ ep;cases d with
  | none=>exact f1
  | some d=>exact f2 d rfl
 ·cases e
def Good (by_:Bool) (t:SetTable):Prop:=Ris t.place/\(by_=false->t.led=true)
def eU {by_:Bool} {t:SetTable} (h:Good by_ t) (n:Nat):Good by_ (t.standIn n):=⟨zX n,h.2⟩
def tK {by_:Bool} {t:SetTable} {es:Array (Int×Value)} {h:Int} {x:Value} (g:Good by_ t):Good by_ (layNew t es h x).2.1:=by
 unfold layNew;split
 ·rename_i slot wd e;dsimp only;have gp:Good by_ (t.put slot).1:=⟨vZ g.1 (pO e),g.2⟩;unfold SetTable.orStandIn;split
  ·exact gp
  ·exact eU gp _
 ·exact eU g _
def aF6 {owner:Array (Option Nat)} (n:Nat):(((List.range n).filterMap fun j=>(owner.getD j none).map (j,·)).map (·.1)).Pairwise (· < ·):=by
 rw [List.pairwise_map];refine List.Pairwise.filterMap (R:=(· < ·)) _ (fun a a' hlt b hb b' hb'=>?_) (List.pairwise_lt_range (n:=n));obtain ⟨_,_,rfl⟩:=Option.map_eq_some_iff.mp hb;obtain ⟨_,_,rfl⟩:=Option.map_eq_some_iff.mp hb';exact hlt
def wA {by_:Bool} {t:SetTable} {es:Array (Int×Value)} {n:Nat} (g:Good by_ t):Good by_ (relayAll t es n).2.1:=by
 unfold relayAll;split
 ·rename_i t' order e;dsimp only;split
  ·unfold SetTable.relaid SetTable.laid at e;dsimp only at e;obtain ⟨owner,_,e2⟩:=Option.bind_eq_some_iff.mp e;cases e2;refine ⟨?_,g.2⟩;unfold Ris;exact aF6 _
  ·exact eU g _
 ·exact eU g _
end ST

namespace ST
open PySem PySem.Spec PyProof.Rows
noncomputable def aF7:Value->Int
 | .int k _=>k
 | _=>0
section
variable {prog:Program} {w:World} {A:Around} {E:Value->Shared->Prop} {s:Shared}
abbrev txt (w:World):Bool:=w.params.followText "set-order"
structure Parts (prog:Program) (w:World) (o:Obj) (es:Array (Int×Value)) (ep:Nat) (t:SetTable) (ks:List Int):Prop where
 ex:o.ExactSet
 dat:o.data=.set es ep t
 el:ElemsOf (intKind prog w) es.toList
 ks:(es.toList.map fun e=>aF7 e.2).Perm ks
 few:es.size < scanBound
 fit:t.fits es.size=true
 good:Good (txt w) t
def SetI (prog:Program) (w:World) (h:Heap) (a:Addr) (ks:List Int):Prop:=∃ o es ep t,h.get? a=some o/\Parts prog w o es ep t ks
def SetI.keep {h h':Heap} {a:Addr} {ks:List Int} (x:SetI prog w h a ks) (e:∀ o,h.get? a=some o->h'.get? a=some o):SetI prog w h' a ks :=
 let ⟨o,es,ep,t,ho,p⟩:=x;⟨o,es,ep,t,e o ho,p⟩
def wB {k:Int} {v:Value} (h:(intKind prog w).is k v=true):∃ t,v=.int k t:=Value.isInt_shape h
def aF8 {es:List (Int×Value)} (h:ElemsOf (intKind prog w) es) {e:Int×Value} (he:e∈es):∃ t,e.2=.int (aF7 e.2) t:=by
 obtain ⟨⟨k,hk,_⟩,_⟩:=h e he;obtain ⟨t,q⟩:=wB hk;exact ⟨t,by rw [q];rfl⟩
def zZ {es:List (Int×Value)} (h:ElemsOf (intKind prog w) es) {k:Int} (hf:es.findIdx? (fun e=>(intKind prog w).is k e.2)=none):k∉es.map fun e=>aF7 e.2:=by
 intro z;obtain ⟨e,he,q⟩:=List.mem_map.mp z;obtain ⟨t,e2⟩:=aF8 h he;have:=List.findIdx?_eq_none_iff.mp hf e he;rw [e2,q] at this;rw [intKind_is] at this;cases this
def aA0 {es:List (Int×Value)} {k:Int} {j:Nat} (hf:es.findIdx? (fun e=>(intKind prog w).is k e.2)=some j):k∈es.map fun e=>aF7 e.2:=by
 obtain ⟨hj,hp,_⟩:=List.findIdx?_eq_some_iff_getElem.mp hf;obtain ⟨t,q⟩:=wB hp;exact List.mem_map.mpr ⟨es[j],List.getElem_mem hj,by rw [q];rfl⟩
def lW {a:Addr} {o:Obj} {es es':Array (Int×Value)} {ep:Nat} {t t':SetTable} {ks':List Int} {h:Heap} (ho:h.get? a=some o) (hd:o.data=.set es ep t) (hx:o.ExactSet)
  (p:Parts prog w { o with data:=.set es' (ep+1) t' } es' (ep+1) t' ks'):(h.update a (Obj.putSet es' t')).get? a=some { o with data:=.set es' (ep+1) t' } :=
 (SetOf_store (knd:=intKind prog w) (S':=fun k=>decide (k∈es'.toList.map fun e=>aF7 e.2)) ho hx hd p.el (fun k=>by
  rw [decide_eq_true_eq,List.mem_map];constructor
  ·rintro ⟨e,he,rfl⟩;obtain ⟨q,e2⟩:=aF8 p.el he;exact ⟨e,he,by rw [e2];exact intKind_is _ _ _ _⟩
  ·rintro ⟨e,he,q⟩;obtain ⟨tk,e2⟩:=wB q;exact ⟨e,he,by rw [e2];rfl⟩) p.few p.fit).1
def xU {g:Bool->Sem Unit} (hg:∀ (b:Bool) (s₁:Shared) (Q':Unit->Shared->Prop),Q' () s₁->wpAny (model prog w) A (g b) Q' E s₁) {a:Addr} {o:Obj} {es es1:Array (Int×Value)} {ep:Nat} {t t2:SetTable} {ks':List Int}
  (ho:s.heap.get? a=some o) (hd:o.data=.set es ep t) (hx:o.ExactSet) (p:Parts prog w { o with data:=.set es1 (ep+1) t2 } es1 (ep+1) t2 ks') {wd:Bool} {R:Option Bool->Shared->Prop}
  (h:∀ h',Heap.SameBut a s.heap h'->SetI prog w h' a ks'->R (some true) { s with heap:=h' }) :
  wpAny (model prog w) A (do
   storeSet a es1 t2
   if (!wd&&t2.tooFull)=true then do
    g (relayAll t2 es1 (SetTable.grown es1.size)).2.2
    storeSet a (relayAll t2 es1 (SetTable.grown es1.size)).1 (relayAll t2 es1 (SetTable.grown es1.size)).2.1
    pure (some true)
   else pure (some true)) R E s:=by
 refine wpAny_bind (wpAny_storeSet_of ho hd ?_ (fits_of_scanBound p.few));have ho1:=lW ho hd hx p;have sb1:=Heap.SameBut.update s.heap a (Obj.putSet es1 t2);split
 ·have hp:=relayAll_perm t2 es1 (SetTable.grown es1.size);have hf:=relayAll_fits t2 es1 (SetTable.grown es1.size);have hgd:=wA (es:=es1) (n:=SetTable.grown es1.size) p.good;have hz:(relayAll t2 es1 (SetTable.grown es1.size)).1.size=es1.size:=by simpa using hp.length_eq
  have p2:Parts prog w { o with data:=.set (relayAll t2 es1 (SetTable.grown es1.size)).1 (ep+1+1) (relayAll t2 es1 (SetTable.grown es1.size)).2.1 } (relayAll t2 es1 (SetTable.grown es1.size)).1 (ep+1+1) (relayAll t2 es1 (SetTable.grown es1.size)).2.1 ks' :=
   ⟨hx,rfl,p.el.perm hp,(hp.map _).trans p.ks,by rw [hz];exact p.few,hf,hgd⟩
  refine wpAny_bind (hg _ _ _ (wpAny_bind (wpAny_storeSet_of ho1 rfl (wpAny_pure (h _ (sb1.trans (Heap.SameBut.update _ a _)) ⟨_,_,_,_,lW ho1 rfl hx p2,p2⟩)) (fits_of_scanBound p2.few))))
 ·exact wpAny_pure (h _ sb1 ⟨_,_,_,_,ho1,p⟩)
def xV {ks:List Int} {k:Int}:(ks.any (·==k))=decide (k∈ks):=by
 rw [Bool.eq_iff_iff,List.any_eq_true,decide_eq_true_eq];constructor
 ·rintro ⟨x,hx,e⟩;rw [<- eq_of_beq e];exact hx
 ·exact fun hx=>⟨k,hx,beq_self_eq_true k⟩
def bH7 {ks:List Int} {k:Int} (h:k∈ks):step_dedup ks k=ks:=by unfold step_dedup;rw [xV,if_pos (decide_eq_true h)]
def bH8 {ks:List Int} {k:Int} (h:k∉ks):step_dedup ks k=ks++[k]:=by unfold step_dedup;rw [xV,if_neg (by rw [decide_eq_true_eq];exact h)]
def xW {a:Addr} {ks:List Int} {k:Int} {tk:Tok} {Q:Bool->Shared->Prop} (hS:SetI prog w s.heap a ks) (room:ks.length+1 < scanBound)
  (h:∀ b h',Heap.SameBut a s.heap h'->SetI prog w h' a (step_dedup ks k)->Q b { s with heap:=h' }):wpAny (model prog w) A (setAddHashed a (.int k tk) ((intKind prog w).hash k)) Q E s:=by
 obtain ⟨o,es,ep,t,ho,p⟩:=hS;have hk:(intKind prog w).is k (.int k tk)=true:=intKind_is _ _ _ _;have hsz:es.size=ks.length:=by have:=p.ks.length_eq;simpa using this
 unfold setAddHashed setAddHashedIn;refine wpAny_holding (wpAny_bind (wpAny_setState_of ho p.dat p.fit ?_));dsimp only;rw [byScan_of (x:=.int k tk) rfl p.few p.el];simp only [if_true];unfold setAddByScan;refine wpAny_bind (wpAny_bind (wpAny_rule (wpAny_bind (wpAny_setScan_of hk ho p.dat p.fit p.el ?_))));cases hr:List.findIdx? (fun e=>(intKind prog w).is k e.2) es.toList with
 | some j =>
  have hm:k∈ks:=p.ks.mem_iff.mp (aA0 hr);refine wpAny_pure (wpAny_pure ?_);have q:=h false s.heap (Heap.SameBut.refl a _) (by rw [bH7 hm];exact ⟨o,es,ep,t,ho,p⟩);cases s;exact q
 | none =>
  have hm:k∉ks:=fun z=>zZ p.el hr (p.ks.mem_iff.mpr z);dsimp only;have gw:∀ (b:Bool) {s₁:Shared} {Q':Unit->Shared->Prop},Q' () s₁->wpAny (model prog w) A (match b with | true=>rule "set.scan.the-table-gave-way" | false=>pure ()) Q' E s₁:=fun b s₁ Q' q=>by
   cases b
   ·exact wpAny_pure q
   ·exact wpAny_rule q
  have lp:=layNew_perm t es ((intKind prog w).hash k) (.int k tk);have lf:=layNew_fits t es ((intKind prog w).hash k) (.int k tk);have lg:Good (txt w) (layNew t es ((intKind prog w).hash k) (.int k tk)).2.1:=tK p.good;generalize layNew t es ((intKind prog w).hash k) (.int k tk)=L at lp lf lg;obtain ⟨es1,t1,wd,gv⟩:=L;dsimp only at lp lf lg ⊢;rw [Array.toList_push] at lp;have z1:es1.size=ks.length+1:=by have:=lp.length_eq;simp at this;omega
  have mk:∀ t2:SetTable,t2.fits es1.size=true->Good (txt w) t2->Parts prog w { o with data:=.set es1 (ep+1) t2 } es1 (ep+1) t2 (step_dedup ks k):=fun t2 f2 g2 =>
   ⟨p.ex,rfl,(p.el.push hk rfl).perm lp,by
    rw [bH8 hm];refine (lp.map _).trans ?_;rw [List.map_append];exact p.ks.append (List.Perm.refl _),by omega,f2,g2⟩
  refine wpAny_bind (gw _ ?_);have fin:∀ h',Heap.SameBut a s.heap h'->SetI prog w h' a (step_dedup ks k)->wpAny (model prog w) A (pure true) (fun b s'=>Q b s') E { s with heap:=h' }:=fun h' b c=>wpAny_pure (h true h' b c);split
  ·refine wpAny_bind ?_;rw [hashByValue_scannable 8 (x:=.int k tk) rfl];refine wpAny_pure (xU (fun b s₁ Q' q=>?_) ho p.dat p.ex (mk _ ?_ ?_) fun h' b c=>wpAny_pure (h _ h' b c))
   ·cases b
    ·exact wpAny_pure q
    ·exact wpAny_rule q
   ·split
    ·exact lf
    ·exact SetTable.fits_plain_off lf
   ·split
    ·exact lg
    ·exact lg
  ·refine wpAny_bind (wpAny_pure ?_);simp only [if_true];refine xU (fun b s₁ Q' q=>?_) ho p.dat p.ex (mk _ lf lg) fun h' b c=>wpAny_pure (h _ h' b c);cases b
   ·exact wpAny_pure q
   ·exact wpAny_rule q
end
end ST

namespace DL
open PySem PySem.Spec PyProof.Rows L2
def HkA (A:Around) (h:Heap):Prop:=A.handled=none\/∃ b ob ws,A.handled=some (.ref b)/\h.get? b=some ob/\ob.data=.fields ws/\ws[2]?=some .none
def HkA.keepN {A A':Around} {h h':Heap} (H:HkA A h) (e:A'.handled=A.handled) {it:Addr} {oi:Obj} (hi:h.get? it=some oi) (hn:∀ ws,oi.data=.fields ws->ws[2]?≠some .none) (k:∀ b o,b≠it->h.get? b=some o->h'.get? b=some o):HkA A' h':=by
 rcases H with H | ⟨b,ob,ws,h1,h2,h3,h4⟩
 ·exact .inl (e.trans H)
 ·refine .inr ⟨b,ob,ws,e.trans h1,k b ob (fun z=>?_) h2,h3,h4⟩;subst z;rw [hi] at h2;cases h2;exact hn ws h3 h4
def HkA.keep {A A':Around} {h h':Heap} (H:HkA A h) (e:A'.handled=A.handled) {it:Addr} {oi:Obj} {vi:Array Value} (hi:h.get? it=some oi) (hd:oi.data=.fields vi) (hs:vi.size<=2) (k:∀ b o,b≠it->h.get? b=some o->h'.get? b=some o):HkA A' h' :=
 H.keepN e hi (fun ws h3 h4=>by
  rw [hd] at h3;cases h3;have:=(Array.getElem?_eq_some_iff.mp h4).1;omega) k
def HkA.up {A:Around} {h h':Heap} (H:HkA A h) (k:∀ b o,h.get? b=some o->h'.get? b=some o):HkA A h' :=
 H.imp id fun ⟨b,ob,ws,h1,h2,h3⟩=>⟨b,ob,ws,h1,k _ _ h2,h3⟩
def pQ:entryFor table "proto.unchain"=some Builtin.«proto.unchain»:=entryFor_of_fast (by kernel_rfl)
section
variable {prog:Program} {w:World} {A:Around} {E:Value->Shared->Prop} {s:Shared}
def tL {α:Type} {a:Addr} {o:Obj} {vs:Array Value} {Q:α->Shared->Prop} {h0:Heap} (H:HkA A h0) (k0:∀ b o,A.handled=some (.ref b)->h0.get? b=some o->b≠a/\s.heap.get? b=some o) (ha:s.heap.get? a=some o) (had:o.data=.fields vs) (hz:2 < vs.size)
  (h:∀ h',(∀ x u,x≠a->s.heap.get? x=some u->h'.get? x=some u)->(∀ vs',(vs'=vs\/∃ b,A.handled=some (.ref b)/\vs'=vs.setIfInBounds 2 (.ref b))->∀ ob,ob={ o with data:=.fields vs' }->h'.get? a=some ob->E (.ref a) { s with heap:=h' })):wpAny (model prog w) A (raiseNew (α:=α) (.ref a)) Q E s:=by
 unfold raiseNew;refine wpAny_bind (wpAny_handled ?_);rcases H with H | ⟨b,ob,ws,h1,h2,h3,h4⟩
 ·rw [H];exact wpAny_throw (h s.heap (fun _ _ _ e=>e) vs (.inl rfl) o (by rw [<- had]) ha)
 ·obtain ⟨ne,hb⟩:=k0 b ob h1 h2;rw [h1];dsimp only;have e1:((Value.ref b) != (Value.ref a))=true:=by simp [ne]
  rw [e1];refine wpAny_bind (wpAny_holding (wpAny_runValue (codeAny_builtin pQ ?_)));unfold Builtin.«proto.unchain»;refine wpAny_bind (wpAny_field hb h3 h4 ?_);rw [if_pos (by decide)];refine wpAny_pure ?_;refine wpAny_bind ?_;unfold updateField;refine wpAny_bind (wpAny_load ha ?_);rw [had];dsimp only;rw [if_pos hz];refine wpAny_update ha (wpAny_throw (h _ (fun x u hx e=>(Heap.get?_update_other _ _ (Ne.symm hx)).trans e) _ (.inr ⟨b,h1,rfl⟩) _ rfl ?_));have:=Heap.get?_update_self (Obj.mapFields (·.setIfInBounds 2 (.ref b))) ha (Obj.isFreed_of_fields (Obj.data_mapFields had _));rw [this];obtain ⟨c1,d1,dt,sl⟩:=o;cases had;rfl
def xX {α:Type} {it:Addr} {oi:Obj} {vi:Array Value} {Q:α->Shared->Prop} {h0:Heap} (H:HkA A h0) (hi:h0.get? it=some oi) (hd:oi.data=.fields vi) (hs:vi.size<=2) (k:∀ b o,b≠it->h0.get? b=some o->s.heap.get? b=some o)
  (hE:∀ h' e,Heap.ExtBut it h0 h'->(∃ o,h'.get? e=some o/\o.cls=.type "StopIteration")->E (.ref e) { s with heap:=h' }):wpAny (model prog w) A (newExc (.type "StopIteration") [] >>= fun e=>raiseNew (α:=α) e) Q E s:=by
 refine wpAny_bind ?_;simp only [newExc,newTuple];refine wpAny_bind (wpAny_newObj_type ?_ (by size_fits));refine wpAny_bind (m:=firstArgMember _ _) (wpAny_of_eq (a:=Value.none) (by first | rfl | (simp only [firstArgMember];rfl)) ?_);refine wpAny_newObj_type ?_ (by size_fits);refine tL (H.keep rfl hi hd hs k) (fun b o _ e=>⟨Nat.ne_of_lt (Heap.lt_size (Heap.get?_push_of_some _ e)),Heap.get?_push_of_some _ (Heap.get?_push_of_some _ e)⟩) (Heap.get?_push_size _ rfl) rfl (by rw [Array.size_append];exact Nat.lt_of_lt_of_le (by decide:2 < 6) (Nat.le_add_right _ _)) fun h' kk vs' _ ob eo ho=>?_;refine hE h' _ (fun b o hb e=>kk b o (Nat.ne_of_lt (Heap.lt_size (Heap.get?_push_of_some _ (k b o hb e)))) (Heap.get?_push_of_some _ (Heap.get?_push_of_some _ (k b o hb e)))) ⟨ob,ho,by rw [eo]⟩
def aF9 {it l:Addr} {i:Nat} {items:Array Value} {Q:Fin->Shared->Prop} (H:HkA A s.heap) (hit:s.heap.IsListIter it l i) (hl:s.heap.IsList l items) (hx:items[i]?=none)
  (hE:∀ h' e,Heap.ExtBut it s.heap h'->(∃ o,h'.get? e=some o/\o.cls=.type "StopIteration")->E (.ref e) { s with heap:=h' }):wpAny (model prog w) A (Builtin.«list_iterator.__next__» ⟨[.ref it],[]⟩) Q E s:=by
 obtain ⟨oi,hoi,hci,hdi⟩:=id hit;obtain ⟨ol,hol,_,nl,hdl⟩:=hl;show wpAny _ _ (field (.ref it) 0 >>= _) _ _ s;refine wpAny_bind (wpAny_field hoi hdi (x:=.ref l) rfl ?_);show wpAny _ _ (if (Value.ref l==Value.none)=true then _ else _) _ _ s;rw [if_neg (show ¬ ((Value.ref l==Value.none)=true) from Bool.false_ne_true)];show wpAny _ _ (field (.ref it) 1 >>= _) _ _ s;refine wpAny_bind (wpAny_field hoi hdi (x:=.int i 0) rfl ?_);show wpAny _ _ (seqItems? (.ref l) >>= _) _ _ s;refine wpAny_bind (wpAny_seqItems hol hdl ?_);simp only [Int.toNat_natCast,hx];refine wpAny_bind (wpAny_rule (wpAny_bind (wpAny_setField hoi hdi (by simp) ?_)));exact xX H hoi hdi (by simp) (fun b o hb e=>(Heap.get?_update_other _ _ (Ne.symm hb)).trans e) hE
def aG0 {it l:Addr} {i:Nat} {items:Array Value} {Q:Fin->Shared->Prop} (H:HkA A s.heap) (hit:s.heap.IsTupleIter it l i) (hl:s.heap.IsTuple l items) (hx:items[i]?=none)
  (hE:∀ h' e,Heap.ExtBut it s.heap h'->(∃ o,h'.get? e=some o/\o.cls=.type "StopIteration")->E (.ref e) { s with heap:=h' }):wpAny (model prog w) A (Builtin.«tuple_iterator.__next__» ⟨[.ref it],[]⟩) Q E s:=by
 obtain ⟨o,ho,hc,hd⟩:=id hit;obtain ⟨ol,hol,hlc,nl,hdl⟩:=hl;refine wpAny_bind (wpAny_pure (a:=(Value.ref it,[])) ?_);refine wpAny_bind (wpAny_field ho hd rfl ?_);rw [if_neg (by exact Bool.false_ne_true)];refine wpAny_bind (wpAny_field ho hd rfl ?_);refine wpAny_bind (wpAny_seqItems hol hdl ?_);show wpAny _ _ (match items[((i:Int)).toNat]? with | some x=>_ | none=>_) _ _ _;rw [Int.toNat_natCast,hx];refine wpAny_bind (wpAny_rule ?_);refine wpAny_bind (wpAny_setField ho hd (by simp) ?_);exact xX H ho hd (by simp) (fun b o hb e=>(Heap.get?_update_other _ _ (Ne.symm hb)).trans e) hE
def HkA.in1 {h:Heap} (H:HkA A h):HkA A.in1 h:=H
def rD {it l:Addr} {i:Nat} {items:Array Value} {Q:Option Value->Shared->Prop} (H:HkA A s.heap) (hit:s.heap.IsListIter it l i) (hl:s.heap.IsList l items) (hx:items[i]?=none) (hQ:∀ h',Heap.ExtBut it s.heap h'->Q none { s with heap:=h' }):wpAny (model prog w) A (pyNext (.ref it)) Q E s:=by
 unfold pyNext;refine wpAny_bind (wpAny_attempt (wpAny_callSpecial?_slot (name:=Str.ofString "__next__") hit.typeIs slot_listiter_next (wpAny_call_entry slot_listiter_next hit.typeIs entry_listiter_next (aF9 (A:=A.in1) H.in1 hit hl hx fun h' e k ⟨o,ho,hc⟩=>?_) (args_listiter_next _))));exact wpAny_bind (wpAny_isInstance (T:="StopIteration") (b:=true) ⟨_,ho,hc⟩ isSubtype_stop (wpAny_pure (hQ _ k)))
def xY {it l:Addr} {i:Nat} {items:Array Value} {Q:Option Value->Shared->Prop} (H:HkA A s.heap) (hit:s.heap.IsTupleIter it l i) (hl:s.heap.IsTuple l items) (hx:items[i]?=none) (hQ:∀ h',Heap.ExtBut it s.heap h'->Q none { s with heap:=h' }):wpAny (model prog w) A (pyNext (.ref it)) Q E s:=by
 unfold pyNext;refine wpAny_bind (wpAny_attempt (wpAny_callSpecial?_slot (name:=Str.ofString "__next__") hit.typeIs F.slot_tuple_iterator_next (wpAny_call_entry F.slot_tuple_iterator_next hit.typeIs F.entry_tuple_iterator_next (aG0 (A:=A.in1) H.in1 hit hl hx fun h' e k ⟨o,ho,hc⟩=>?_) (F.args_tuple_iterator_next_1 _))));exact wpAny_bind (wpAny_isInstance (T:="StopIteration") (b:=true) ⟨_,ho,hc⟩ isSubtype_stop (wpAny_pure (hQ _ k)))
def nextOf_le {it l:Addr} {i:Nat} {items:Array Value} {Q:Value->Shared->Prop} (H:HkA A s.heap) (hit:s.heap.IsListIter it l i) (hl:s.heap.IsList l items) (hx:items[i]?=none)
  (hE:∀ h' e,Heap.ExtBut it s.heap h'->(∃ o,h'.get? e=some o/\o.cls=.type "StopIteration")->E (.ref e) { s with heap:=h' }):wpAny (model prog w) A (Builtin.SmallTypes.nextOf (.ref it)) Q E s:=by
 unfold Builtin.SmallTypes.nextOf;exact wpAny_bind (wpAny_callSpecial?_slot (hit.typeIs) slot_listiter_next (wpAny_call_entry slot_listiter_next hit.typeIs entry_listiter_next (aF9 (A:=A.in1) H.in1 hit hl hx hE) (args_listiter_next _)))
def nextOf_te {it l:Addr} {i:Nat} {items:Array Value} {Q:Value->Shared->Prop} (H:HkA A s.heap) (hit:s.heap.IsTupleIter it l i) (hl:s.heap.IsTuple l items) (hx:items[i]?=none)
  (hE:∀ h' e,Heap.ExtBut it s.heap h'->(∃ o,h'.get? e=some o/\o.cls=.type "StopIteration")->E (.ref e) { s with heap:=h' }):wpAny (model prog w) A (Builtin.SmallTypes.nextOf (.ref it)) Q E s:=by
 unfold Builtin.SmallTypes.nextOf;exact wpAny_bind (wpAny_callSpecial?_slot (hit.typeIs) F.slot_tuple_iterator_next (wpAny_call_entry F.slot_tuple_iterator_next hit.typeIs F.entry_tuple_iterator_next (aG0 (A:=A.in1) H.in1 hit hl hx hE) (F.args_tuple_iterator_next_1 _)))
def hkL (A:Around):List Addr:=match A.handled with
 | some (.ref b)=>[b]
 | _=>[]
def HkA.fp {h h':Heap} (H:HkA A h) (k:∀ b∈hkL A,∀ o,h.get? b=some o->h'.get? b=some o):HkA A h':=by
 rcases H with H | ⟨b,ob,ws,h1,h2,h3⟩
 ·exact .inl H
 ·exact .inr ⟨b,ob,ws,h1,k b (by unfold hkL;rw [h1];exact List.mem_cons_self) ob h2,h3⟩
def tM (I ax:Addr) (hne:ax≠I) (items:Array Value) :
  Walks prog w A I ([I,ax]++hkL A) [I] items.size (fun i v=>items[i]?=some v) (fun i h=>(h.IsListIter I ax i/\h.IsList ax items)/\HkA A h) where
 sub:=fun b hb=>by simp at hb;simp [hb]
 frame:=fun _ _ _ st hk=>⟨⟨st.1.1.at fun o e=>hk I (by simp) o e,st.1.2.at fun o e=>hk ax (by simp) o e⟩,st.2.fp fun b hb=>hk b (List.mem_append_right _ hb)⟩
 item:=fun i s Q E hi st hQ=>by
  obtain ⟨oi,h1,_,h3⟩:=id st.1.1;refine wpAny_pyNext_list_item st.1.1 st.1.2 (x:=items[i]) (by simp [hi]) fun h' hit' hs'=>?_;exact hQ _ h' s.toks (by simp [hi]) ⟨⟨hit',st.1.2.extBut hs'.extBut hne⟩,st.2.keep rfl h1 h3 (by simp) hs'.extBut⟩ fun b o hb e=>hs'.extBut b o (fun h=>hb (by simp [h])) e
 done:=fun s Q E st hQ=>rD st.2 st.1.1 st.1.2 (by simp) fun h' he'=>hQ h' s.toks fun b o hb e=>he' b o (fun h=>hb (by simp [h])) e
 self:=fun _ _ _ _ st hQ=>wpAny_pyIter_listiter st.1.1 hQ
def aA1 {t:Addr} {items:Array Value} {Q:List Value->Shared->Prop} (H:HkA A s.heap) (ht:s.heap.IsTuple t items) (hQ:∀ h',Heap.ExtBut s.heap.objs.size s.heap h'->Q items.toList { s with heap:=h' }):wpAny (model prog w) A (unpackItems (.ref t) items.size none) Q E s:=by
 have k0:∀ b o,s.heap.get? b=some o->(s.heap.push { cls:=.type "tuple_iterator",data:=.fields #[.ref t,.int 0 0] }).get? b=some o:=fun b o e=>Heap.get?_push_of_some _ e;have tlt:t < s.heap.objs.size:=by obtain ⟨o,e,_⟩:=id ht;exact Heap.lt_size e
 unfold unpackItems notIterableAtAll;refine wpAny_bind (wpAny_bind (wpAny_specialOf (ht.typeIs) slot_tuple_iter.lookup (wpAny_pure ?_)));refine wpAny_bind (wpAny_holding (wpAny_pyIter_tuple ht ?_));dsimp only;have hi:(s.heap.push { cls:=.type "tuple_iterator",data:=.fields #[.ref t,.int 0 0] }).get? s.heap.objs.size=some { cls:=.type "tuple_iterator",data:=.fields #[.ref t,.int 0 0] }:=Heap.get?_push_size _ rfl;refine wpAny_bind (wpAny_holding (wpAny_draw_tuple (Nat.ne_of_lt tlt) items.size 0 _ _ ⟨_,hi,rfl,rfl⟩ (ht.at fun o e=>k0 _ _ e) (by omega) fun h' hit sb=>?_));have el:List.take items.size (List.drop 0 items.toList)=items.toList:=by rw [List.drop_zero];exact List.take_of_length_le (by simp)
 rw [el,if_neg (by simp)];have k1:∀ b o,b≠s.heap.objs.size->s.heap.get? b=some o->h'.get? b=some o:=fun b o hb e=>(sb.2 b hb).trans (k0 b o e);obtain ⟨oi,h1,_,h3⟩:=id hit;refine wpAny_bind (wpAny_holding (xY (i:=0+items.size) (l:=t) (items:=items) ?_ hit (ht.at fun o e=>k1 _ _ (Nat.ne_of_lt tlt) e) (by simp) fun h2 k2=>wpAny_pure (hQ h2 fun b o hb e=>k2 b o hb (k1 b o hb e))));exact (H.up k0).keep rfl hi rfl (by simp) fun b o hb e=>(sb.2 b hb).trans e
def aA2 {env:Env} {elts:List Expr} {x1:Nat} {pos:Pos} {t:Addr} {items:Array Value} {Q:Unit->Shared->Prop} (H:HkA A s.heap) (ht:s.heap.IsTuple t items) (hl:(assignEach elts env).length=items.size) (hn:List.findIdx? (fun x=>x.fst) (assignEach elts env)=none)
  (hQ:∀ h',Heap.ExtBut s.heap.objs.size s.heap h'->wpAny (model prog w) A (assignInOrder (List.map (fun x=>x.snd) (assignEach elts env)) items.toList) Q E { s with heap:=h' }):wpAny (model prog w) A (assign (.Tuple elts x1 pos) env (.ref t)) Q E s:=by
 rw [arm_assign_Tuple];refine wpAny_bind (wpAny_standAt ?_);unfold unpack;rw [hl,hn];exact wpAny_bind (wpAny_holding (aA1 H ht hQ))
end
end DL

namespace PySem
open PyProof.Rows
section
variable {prog:Program} {w:World} {A:Around} {E:Value->Shared->Prop} {s:Shared}
def jQ {it t:Addr} {i:Nat} {items:Array Value} {x:Value} {Q:Value->Shared->Prop} (hit:s.heap.IsTupleIter it t i) (hl:s.heap.IsTuple t items) (hx:items[i]?=some x)
  (hQ:∀ h',h'.IsTupleIter it t (i+1)->Heap.SameBut it s.heap h'->Q x { s with heap:=h' }):wpAny (model prog w) A (Builtin.SmallTypes.nextOf (.ref it)) Q E s:=by
 obtain ⟨o,ho,hc,hd⟩:=id hit;obtain ⟨ol,hol,hlc,nl,hdl⟩:=hl;unfold Builtin.SmallTypes.nextOf;refine wpAny_bind (wpAny_callSpecial?_slot (hit.typeIs) F.slot_tuple_iterator_next (wpAny_call_entry F.slot_tuple_iterator_next hit.typeIs F.entry_tuple_iterator_next ?_ (F.args_tuple_iterator_next_1 _)));refine wpAny_bind (wpAny_pure (a:=(Value.ref it,[])) ?_);refine wpAny_bind (wpAny_field ho hd rfl ?_);rw [if_neg (by exact Bool.false_ne_true)];refine wpAny_bind (wpAny_field ho hd rfl ?_);refine wpAny_bind (wpAny_seqItems hol hdl ?_);show wpAny _ _ (match items[((i:Int)).toNat]? with | some x=>_ | none=>_) _ _ _;rw [Int.toNat_natCast,hx];refine wpAny_bind (wpAny_setField ho hd (by simp) ?_);refine wpAny_pure ⟨x,rfl,wpAny_pure (hQ _ ⟨_,Heap.get?_update_self _ ho (Obj.isFreed_of_fields (Obj.data_mapFields hd _)),(Obj.cls_mapFields o _).trans hc,?_⟩ (Heap.SameBut.update _ _ _))⟩;rw [Obj.data_mapFields hd];rfl
noncomputable def SqAt:Bool->Heap->Addr->Array Value->Prop
 | true,h,l,xs=>h.IsTuple l xs
 | false,h,l,xs=>h.IsList l xs
noncomputable def ItAt:Bool->Heap->Addr->Addr->Nat->Prop
 | true,h,it,l,k=>h.IsTupleIter it l k
 | false,h,it,l,k=>h.IsListIter it l k
def jR (b:Bool) (l:Addr):Obj:={ cls:=.type (if b=true then "tuple_iterator" else "list_iterator"),data:=.fields #[.ref l,.int 0 0] }
def SqAt.keep {b:Bool} {h h':Heap} {l:Addr} {xs:Array Value} (x:SqAt b h l xs) (k:∀ o,h.get? l=some o->h'.get? l=some o):SqAt b h' l xs:=by
 cases b<;>exact let ⟨o,h1,h2⟩:=x;⟨o,k o h1,h2⟩
def ItAt.keep {b:Bool} {h h':Heap} {it l:Addr} {i:Nat} (x:ItAt b h it l i) (k:∀ o,h.get? it=some o->h'.get? it=some o):ItAt b h' it l i:=by
 cases b<;>exact let ⟨o,h1,h2⟩:=x;⟨o,k o h1,h2⟩
def ItAt.new {b:Bool} {h:Heap} {it l:Addr} (e:h.get? it=some (jR b l)):ItAt b h it l 0:=by
 cases b<;>exact ⟨_,e,rfl,rfl⟩
def ItAt.hk {A:Around} {b:Bool} {h h':Heap} {it l:Addr} {i:Nat} (x:ItAt b h it l i) (H:DL.HkA A h) (k:∀ a,a≠it->h'.get? a=h.get? a):DL.HkA A h':=by
 cases b<;>exact let ⟨o,h1,_,h3⟩:=x;H.keep rfl h1 h3 (by simp) fun b o n e=>(k b n).trans e
def eY {b:Bool} {l:Addr} {xs:Array Value} {Q:Value->Shared->Prop} (hl:SqAt b s.heap l xs) (h:Q (.ref s.heap.objs.size) { s with heap:=s.heap.push (jR b l) }):wpAny (model prog w) A (pyIter (.ref l)) Q E s:=by
 cases b
 ·exact wpAny_pyIter_list hl h
 ·exact wpAny_pyIter_tuple hl h
def fS {b:Bool} {it l:Addr} {i:Nat} {items:Array Value} {x:Value} {Q:Value->Shared->Prop} (hit:ItAt b s.heap it l i) (hl:SqAt b s.heap l items) (hx:items[i]?=some x)
  (hQ:∀ h',ItAt b h' it l (i+1)->Heap.SameBut it s.heap h'->Q x { s with heap:=h' }):wpAny (model prog w) A (Builtin.SmallTypes.nextOf (.ref it)) Q E s:=by
 cases b
 ·exact wpAny_nextOf_list_item hit hl hx hQ
 ·exact jQ hit hl hx hQ
def jM {b:Bool} {it l:Addr} {i:Nat} {items:Array Value} {Q:Value->Shared->Prop} (hh:DL.HkA A s.heap) (hit:ItAt b s.heap it l i) (hl:SqAt b s.heap l items) (hx:items[i]?=none)
  (hE:∀ h' e,Heap.ExtBut it s.heap h'->(∃ o,h'.get? e=some o/\o.cls=.type "StopIteration")->E (.ref e) { s with heap:=h' }):wpAny (model prog w) A (Builtin.SmallTypes.nextOf (.ref it)) Q E s:=by
 cases b
 ·exact DL.nextOf_le hh hit hl hx hE
 ·exact DL.nextOf_te hh hit hl hx hE
abbrev zH1 (b:Bool) (h:Heap) (l1:Addr):Heap:=h.push (jR b l1)
abbrev zH2 (b c:Bool) (h:Heap) (l1 l2:Addr):Heap:=(zH1 b h l1).push (jR c l2)
abbrev zH3 (b c:Bool) (h:Heap) (l1 l2:Addr):Heap:=(zH2 b c h l1 l2).push { cls:=.type "tuple",data:=.seq #[.ref h.objs.size,.ref (zH1 b h l1).objs.size] }
abbrev zH4 (b c:Bool) (h:Heap) (l1 l2:Addr):Heap:=(zH3 b c h l1 l2).push { cls:=.type "tuple",data:=.seq #[.none,.none] }
abbrev zH5 (b c:Bool) (h:Heap) (l1 l2:Addr):Heap:=(zH4 b c h l1 l2).push { cls:=.type "zip",data:=.fields #[.none,.bool false,.bool false,.ref (zH2 b c h l1 l2).objs.size,.ref (zH3 b c h l1 l2).objs.size] }
def aU0 (b c:Bool) (l1 l2:Addr) (xs ys:Array Value):Meets (Builtin.«zip.__new__» { pos:=[.type "zip",.ref l1,.ref l2] }) fun _ R s=>SqAt b s.heap l1 xs/\SqAt c s.heap l2 ys /\
  R (.ok (.ret (.ref (zH4 b c s.heap l1 l2).objs.size))) { s with heap:=zH5 b c s.heap l1 l2 }:=by
 refine Meets.of_wp fun prog w A R s h=>?_;obtain ⟨h1,h2,h⟩:=h;unfold Builtin.«zip.__new__»;refine wpAny_bind (wpAny_pure (a:=(Value.type "zip",[Value.ref l1,Value.ref l2])) ?_);dsimp only;rw [if_neg (by decide)];refine wpAny_bind ?_;unfold Builtin.SmallTypes.iterAll;refine wpAny_bind ?_;rw [List.forIn_cons];refine wpAny_bind (wpAny_bind (wpAny_holding (eY h1 (wpAny_pure ?_))));dsimp only;rw [List.forIn_cons];refine wpAny_bind (wpAny_bind (wpAny_holding (eY (h2.keep fun o e=>Heap.get?_push_of_some _ e) (wpAny_pure ?_))));dsimp only;rw [List.forIn_nil];refine wpAny_pure (wpAny_pure ?_);refine wpAny_bind (wpAny_newObj_type ?_ (by show (_:Array Value).size<=sizeLine;simp [sizeLine_eq]));refine wpAny_bind (wpAny_newObj_type ?_ (by show (_:Array Value).size<=sizeLine;simp [sizeLine_eq]));refine wpAny_bind ?_;unfold Builtin.SmallTypes.newRecord;refine wpAny_newObj_type (wpAny_pure ⟨_,rfl,h⟩) ?_;simp [sizeOk,Builtin.SmallTypes.ownedTupleFields,sizeLine_eq]
def aG1 {b c:Bool} {l1 l2:Addr} {xs ys:Array Value} {Q:Value->Shared->Prop} (h1:SqAt b s.heap l1 xs) (h2:SqAt c s.heap l2 ys)
  (h:∀ h',IsZip h' (s.heap.objs.size+4) (s.heap.objs.size+2) (s.heap.objs.size+3) .none->IsPair h' (s.heap.objs.size+2) (.ref s.heap.objs.size) (.ref (s.heap.objs.size+1))->IsPair h' (s.heap.objs.size+3) .none .none ->
   ItAt b h' s.heap.objs.size l1 0->ItAt c h' (s.heap.objs.size+1) l2 0->h'.objs.size=s.heap.objs.size+5->(∀ a o,s.heap.get? a=some o->h'.get? a=some o)->Q (.ref (s.heap.objs.size+4)) { s with heap:=h' }) :
  wpAny (model prog w) A (call (.type "zip") [.ref l1,.ref l2]) Q E s:=by
 have z1:(zH1 b s.heap l1).objs.size=s.heap.objs.size+1:=Heap.size_push ..;have z2:(zH2 b c s.heap l1 l2).objs.size=s.heap.objs.size+2:=by rw [zH2,Heap.size_push,z1]
 have z3:(zH3 b c s.heap l1 l2).objs.size=s.heap.objs.size+3:=by rw [zH3,Heap.size_push,z2]
 have z4:(zH4 b c s.heap l1 l2).objs.size=s.heap.objs.size+4:=by rw [zH4,Heap.size_push,z3]
 have z5:(zH5 b c s.heap l1 l2).objs.size=s.heap.objs.size+5:=by rw [zH5,Heap.size_push,z4]
 have g5:(zH5 b c s.heap l1 l2).get? (zH4 b c s.heap l1 l2).objs.size=_:=Heap.get?_push_size _ rfl;have g4:(zH5 b c s.heap l1 l2).get? (zH3 b c s.heap l1 l2).objs.size=_:=Heap.get?_push_of_some _ (Heap.get?_push_size _ rfl);have g3:(zH5 b c s.heap l1 l2).get? (zH2 b c s.heap l1 l2).objs.size=_:=Heap.get?_push_of_some _ (Heap.get?_push_of_some _ (Heap.get?_push_size _ rfl));have g2:(zH5 b c s.heap l1 l2).get? (zH1 b s.heap l1).objs.size=_:=Heap.get?_push_of_some _ (Heap.get?_push_of_some _ (Heap.get?_push_of_some _ (Heap.get?_push_size _ rfl)));have g1:(zH5 b c s.heap l1 l2).get? s.heap.objs.size=_:=Heap.get?_push_of_some _ (Heap.get?_push_of_some _ (Heap.get?_push_of_some _ (Heap.get?_push_of_some _ (Heap.get?_push_size _ rfl))));refine callType_new F.called_zip (by decide) (F.typeCall_zip_2 _ _) (F.newCall_zip_2 _ _) (fun obj=>F.args_object_init_3 obj _ _) F.entry_zip_new (aU0 b c l1 l2 xs ys) ⟨h1,h2,?_⟩;have q:=h (zH5 b c s.heap l1 l2) (by rw [z4,z3,z2] at g5;exact g5) (by rw [z2,z1] at g3;exact g3) (by rw [z3] at g4;exact g4) (.new g1) (.new (by rw [z1] at g2;exact g2)) z5
  (fun a o e=>Heap.get?_push_of_some _ (Heap.get?_push_of_some _ (Heap.get?_push_of_some _ (Heap.get?_push_of_some _ (Heap.get?_push_of_some _ e)))))
 rw [<- z4] at q;exact ⟨⟨_,g5,rfl⟩,q⟩
def rE {h:Heap} {z TI TO:Addr} {f0 x:Value} (hz:IsZip h z TI TO f0):IsZip (h.update z (Obj.mapFields fun a=>a.setIfInBounds 0 x)) z TI TO x:=by
 refine (Heap.get?_update_self _ hz (Obj.isFreed_of_fields (Obj.data_mapFields rfl _))).trans ?_;rfl
def aG2 {h:Heap} {z TI TO:Addr} {f0:Value} (hz:IsZip h z TI TO f0):IsZip (h.update z (Obj.mapFields fun a=>a.setIfInBounds 1 (.bool false))) z TI TO f0:=by
 refine (Heap.get?_update_self _ hz (Obj.isFreed_of_fields (Obj.data_mapFields rfl _))).trans ?_;rfl
structure ZApart (z TI TO i1 i2:Addr):Prop where
 TIz:TI≠z
 TOz:TO≠z
 i1z:i1≠z
 i2z:i2≠z
 TITO:TI≠TO
 TOi1:TO≠i1
 TOi2:TO≠i2
 TIi1:TI≠i1
 TIi2:TI≠i2
 i12:i1≠i2
def aA3 {b c:Bool} {z TI TO i1 i2 l1 l2:Addr} {k:Nat} {xs ys:Array Value} {x y u v:Value} {Q:Value->Shared->Prop} (D:ZApart z TI TO i1 i2) (hz:IsZip s.heap z TI TO .none) (hTI:IsPair s.heap TI (.ref i1) (.ref i2)) (hTO:IsPair s.heap TO u v)
  (h1:ItAt b s.heap i1 l1 k) (h2:ItAt c s.heap i2 l2 k) (q1:SqAt b s.heap l1 xs) (q2:SqAt c s.heap l2 ys) (nz1:l1≠z) (nz2:l2≠z) (nT2:l2≠TO) (n21:l2≠i1) (hx:xs[k]?=some x) (hy:ys[k]?=some y)
  (hQ:∀ h',IsZip h' z TI TO (rawInt s.heap.objs.size)->IsPair h' TO x y->ItAt b h' i1 l1 (k+1)->ItAt c h' i2 l2 (k+1)->IsPair h' s.heap.objs.size x y->h'.objs.size=s.heap.objs.size+1 ->
   (∀ a o,a≠z->a≠TO->a≠i1->a≠i2->s.heap.get? a=some o->h'.get? a=some o)->Q (.ref s.heap.objs.size) { s with heap:=h' }) :
  wpAny (model prog w) A (Builtin.«zip.__next__» { pos:=[.ref z] }) (fun fin s'=>∃ v,fin=Fin.done (.ret v)/\Q v s') E s:=by
 unfold Builtin.«zip.__next__»;refine wpAny_bind (wpAny_pure (a:=(Value.ref z,[])) ?_);refine wpAny_bind (wpAny_field hz rfl rfl ?_);refine wpAny_bind (wpAny_field hz rfl rfl ?_);refine wpAny_bind (wpAny_seqItems hTI rfl ?_);dsimp only;rw [if_neg (by simp)];refine wpAny_bind ?_;unfold Builtin.SmallTypes.ownedTupleIsFree;refine wpAny_bind (wpAny_field hz rfl rfl ?_);refine wpAny_pure ?_;rw [if_pos rfl];refine wpAny_bind (wpAny_rule ?_);refine wpAny_bind (wpAny_field hz rfl rfl ?_);refine wpAny_bind (wpAny_setField hz rfl (by simp) ?_);have e1:=Heap.SameBut.update s.heap z (Obj.mapFields fun a=>a.setIfInBounds 0 Value.ellipsis);have hz1:=rE (x:=Value.ellipsis) hz;generalize s.heap.update z (Obj.mapFields fun a=>a.setIfInBounds 0 Value.ellipsis)=H1 at e1 hz1 ⊢;have h11:ItAt b H1 i1 l1 k:=h1.keep fun o e=>(e1.2 _ D.i1z).trans e;have q11:SqAt b H1 l1 xs:=q1.keep fun o e=>(e1.2 _ nz1).trans e;have hTO1:IsPair H1 TO u v:=(e1.2 _ D.TOz).trans hTO;refine wpAny_bind ?_;rw [show [Value.ref i1,Value.ref i2].zipIdx=[(Value.ref i1,0),(Value.ref i2,1)] from rfl,List.forIn_cons];refine wpAny_bind (wpAny_bind (wpAny_onRaise ?_))
 change wpAny _ _ (Builtin.SmallTypes.nextOf (Value.ref i1) >>= fun v=>pure (some v)) _ _ _
 refine wpAny_bind (fS h11 q11 hx fun H2 h12 e2=>wpAny_pure ?_);have hz2:IsZip H2 z TI TO .ellipsis:=(e2.2 _ D.i1z.symm).trans hz1;have hTO2:IsPair H2 TO u v:=(e2.2 _ D.TOi1).trans hTO1;refine wpAny_bind (wpAny_seqItems hTO2 rfl (wpAny_bind (wpAny_updateSeq_pair hTO2 fun H3 hTO3 e3=>wpAny_bind (wpAny_letGo (wpAny_pure ?_)))));have hTO3:IsPair H3 TO x v:=hTO3;have hz3:IsZip H3 z TI TO .ellipsis:=(e3.2 _ D.TOz.symm).trans hz2;have h23:ItAt c H3 i2 l2 k:=h2.keep fun o e=>(e3.2 _ D.TOi2.symm).trans ((e2.2 _ D.i12.symm).trans ((e1.2 _ D.i2z).trans e));have q23:SqAt c H3 l2 ys:=q2.keep fun o e=>(e3.2 _ nT2).trans ((e2.2 _ n21).trans ((e1.2 _ nz2).trans e));dsimp only;rw [List.forIn_cons];refine wpAny_bind (wpAny_bind (wpAny_onRaise ?_))
 change wpAny _ _ (Builtin.SmallTypes.nextOf (Value.ref i2) >>= fun v=>pure (some v)) _ _ _
 refine wpAny_bind (fS h23 q23 hy fun H4 h24 e4=>wpAny_pure ?_);have hz4:IsZip H4 z TI TO .ellipsis:=(e4.2 _ D.i2z.symm).trans hz3;have hTO4:IsPair H4 TO x v:=(e4.2 _ D.TOi2).trans hTO3;refine wpAny_bind (wpAny_seqItems hTO4 rfl (wpAny_bind (wpAny_updateSeq_pair hTO4 fun H5 hTO5 e5=>wpAny_bind (wpAny_letGo (wpAny_pure ?_)))));have hTO5:IsPair H5 TO x y:=hTO5;have hz5:IsZip H5 z TI TO .ellipsis:=(e5.2 _ D.TOz.symm).trans hz4;dsimp only;rw [List.forIn_nil];refine wpAny_pure ?_;refine wpAny_bind (wpAny_seqItems hTO5 rfl ?_);refine wpAny_bind (wpAny_newObj_type ?_ (by simp [sizeOk,sizeLine_eq]));have es:H5.objs.size=s.heap.objs.size:=by rw [e5.1,e4.1,e3.1,e2.1,e1.1]
 have g6:IsPair (H5.push { cls:=.type "tuple",data:=.seq #[x,y] }) H5.objs.size x y:=Heap.get?_push_size _ rfl;have k6:∀ a o,H5.get? a=some o->(H5.push { cls:=.type "tuple",data:=.seq #[x,y] }).get? a=some o:=fun a o e=>Heap.get?_push_of_some _ e;have s6:(H5.push { cls:=.type "tuple",data:=.seq #[x,y] }).objs.size=s.heap.objs.size+1:=by rw [Heap.size_push,es]
 have hz6:=k6 _ _ hz5;refine wpAny_bind ?_;unfold Builtin.SmallTypes.ownedTupleHandOut;refine wpAny_bind (wpAny_setField hz6 rfl (by simp) ?_);have hz7:=rE (x:=rawInt H5.objs.size) hz6;refine wpAny_setField hz7 rfl (by simp) ?_;have hz8:=aG2 hz7;have e7:=Heap.SameBut.update (H5.push { cls:=.type "tuple",data:=.seq #[x,y] }) z (Obj.mapFields fun a=>a.setIfInBounds 0 (rawInt H5.objs.size));have e8:=Heap.SameBut.update ((H5.push { cls:=.type "tuple",data:=.seq #[x,y] }).update z (Obj.mapFields fun a=>a.setIfInBounds 0 (rawInt H5.objs.size))) z (Obj.mapFields fun a=>a.setIfInBounds 1 (.bool false));have kk:∀ a o,a≠z->H5.get? a=some o->(((H5.push { cls:=.type "tuple",data:=.seq #[x,y] }).update z (Obj.mapFields fun a=>a.setIfInBounds 0 (rawInt H5.objs.size))).update z (Obj.mapFields fun a=>a.setIfInBounds 1 (.bool false))).get? a=some o :=
  fun a o n e=>(e8.2 a n).trans ((e7.2 a n).trans (k6 a o e))
 have nsz:H5.objs.size≠z:=fun e=>by
  have:=Heap.lt_size hz5;rw [<- e] at this;exact Nat.lt_irrefl _ this
 have g8:=(e8.2 _ nsz).trans ((e7.2 _ nsz).trans g6);have hs8:=e8.1.trans (e7.1.trans s6);have h15:ItAt b H5 i1 l1 (k+1):=h12.keep fun o e=>(e5.2 _ D.TOi1.symm).trans ((e4.2 _ D.i12).trans ((e3.2 _ D.TOi1.symm).trans e));have h25:ItAt c H5 i2 l2 (k+1):=h24.keep fun o e=>(e5.2 _ D.TOi2.symm).trans e;have q:=hQ _ (by rw [es] at hz8;rw [es];exact hz8) (kk _ _ D.TOz hTO5) (h15.keep fun o e=>kk _ _ D.i1z e) (h25.keep fun o e=>kk _ _ D.i2z e) (by rw [<- es];exact g8) hs8
  (fun a o n1 n2 n3 n4 e=>kk _ _ n1 ((e5.2 _ n2).trans ((e4.2 _ n4).trans ((e3.2 _ n2).trans ((e2.2 _ n3).trans ((e1.2 _ n1).trans e))))))
 refine wpAny_pure ⟨_,rfl,?_⟩;rw [<- es] at q;exact q
def aG3 {b c:Bool} {z TI TO i1 i2 l1 l2:Addr} {k:Nat} {xs ys:Array Value} {u v:Value} {Q:Fin->Shared->Prop} (hh:DL.HkA A s.heap) (D:ZApart z TI TO i1 i2) (hz:IsZip s.heap z TI TO .none) (hTI:IsPair s.heap TI (.ref i1) (.ref i2)) (hTO:IsPair s.heap TO u v)
  (h1:ItAt b s.heap i1 l1 k) (h2:ItAt c s.heap i2 l2 k) (q1:SqAt b s.heap l1 xs) (q2:SqAt c s.heap l2 ys) (nz1:l1≠z) (nz2:l2≠z) (nT2:l2≠TO) (n21:l2≠i1) (hn:xs[k]?=none\/ys[k]?=none)
  (hE:∀ h' e,(∀ a o,a≠z->a≠TO->a≠i1->a≠i2->s.heap.get? a=some o->h'.get? a=some o)->(∃ o,h'.get? e=some o/\o.cls=.type "StopIteration")->E (.ref e) { s with heap:=h' }) :
  wpAny (model prog w) A (Builtin.«zip.__next__» { pos:=[.ref z] }) Q E s:=by
 unfold Builtin.«zip.__next__»;refine wpAny_bind (wpAny_pure (a:=(Value.ref z,[])) ?_);refine wpAny_bind (wpAny_field hz rfl rfl ?_);refine wpAny_bind (wpAny_field hz rfl rfl ?_);refine wpAny_bind (wpAny_seqItems hTI rfl ?_);dsimp only;rw [if_neg (by simp)];refine wpAny_bind ?_;unfold Builtin.SmallTypes.ownedTupleIsFree;refine wpAny_bind (wpAny_field hz rfl rfl ?_);refine wpAny_pure ?_;rw [if_pos rfl];refine wpAny_bind (wpAny_rule ?_);refine wpAny_bind (wpAny_field hz rfl rfl ?_);refine wpAny_bind (wpAny_setField hz rfl (by simp) ?_);have e1:=Heap.SameBut.update s.heap z (Obj.mapFields fun a=>a.setIfInBounds 0 Value.ellipsis);have hz1:=rE (x:=Value.ellipsis) hz;generalize s.heap.update z (Obj.mapFields fun a=>a.setIfInBounds 0 Value.ellipsis)=H1 at e1 hz1 ⊢;have h11:ItAt b H1 i1 l1 k:=h1.keep fun o e=>(e1.2 _ D.i1z).trans e;have q11:SqAt b H1 l1 xs:=q1.keep fun o e=>(e1.2 _ nz1).trans e;have hTO1:IsPair H1 TO u v:=(e1.2 _ D.TOz).trans hTO;have hk1:DL.HkA A H1:=hh.keepN rfl hz (fun ws q=>by cases q;simp) fun b o n q=>(e1.2 b n).trans q;have ends:∀ (H4 H5:Heap) (e:Addr),IsZip H5 z TI TO .ellipsis->(∀ a o,a≠z->a≠TO->a≠i1->a≠i2->s.heap.get? a=some o->H5.get? a=some o)->(∃ o,H5.get? e=some o/\o.cls=.type "StopIteration") ->
   wpAny (model prog w) A (setField (.ref z) 0 .none) (fun _ s''=>E (.ref e) s'') E { s with heap:=H5 }:=fun H4 H5 e hz5 kk ⟨o,ho,hc⟩=>by
  refine wpAny_setField hz5 rfl (by simp) ?_;have e6:=Heap.SameBut.update H5 z (Obj.mapFields fun a=>a.setIfInBounds 0 Value.none);refine hE _ e (fun a o n1 n2 n3 n4 g=>(e6.2 _ n1).trans (kk a o n1 n2 n3 n4 g)) ⟨o,(e6.2 _ fun z'=>?_).trans ho,hc⟩;rw [z'] at ho;have hz5:H5.get? z=_:=hz5;rw [ho] at hz5;cases hz5;simp at hc
 refine wpAny_bind ?_;rw [show [Value.ref i1,Value.ref i2].zipIdx=[(Value.ref i1,0),(Value.ref i2,1)] from rfl,List.forIn_cons];refine wpAny_bind (wpAny_bind (wpAny_onRaise ?_))
 change wpAny _ _ (Builtin.SmallTypes.nextOf (Value.ref i1) >>= fun v=>pure (some v)) _ _ _
 by_cases hx:xs[k]?=none
 ·refine wpAny_bind (jM hk1 h11 q11 hx fun H2 e g2 he=>ends H2 H2 e ?_ (fun a o n1 n2 n3 n4 g=>?_) he)
  ·exact g2 _ _ D.i1z.symm hz1
  ·exact g2 _ _ n3 ((e1.2 _ n1).trans g)
 obtain ⟨x,hx⟩:=Option.ne_none_iff_exists'.mp hx;have hy:ys[k]?=none:=hn.resolve_left (by rw [hx];simp);refine wpAny_bind (fS h11 q11 hx fun H2 h12 e2=>wpAny_pure ?_);have hz2:IsZip H2 z TI TO .ellipsis:=(e2.2 _ D.i1z.symm).trans hz1;have hTO2:IsPair H2 TO u v:=(e2.2 _ D.TOi1).trans hTO1;refine wpAny_bind (wpAny_seqItems hTO2 rfl (wpAny_bind (wpAny_updateSeq_pair hTO2 fun H3 hTO3 e3=>wpAny_bind (wpAny_letGo (wpAny_pure ?_)))));have hz3:IsZip H3 z TI TO .ellipsis:=(e3.2 _ D.TOz.symm).trans hz2;have h23:ItAt c H3 i2 l2 k:=h2.keep fun o e=>(e3.2 _ D.TOi2.symm).trans ((e2.2 _ D.i12.symm).trans ((e1.2 _ D.i2z).trans e));have q23:SqAt c H3 l2 ys:=q2.keep fun o e=>(e3.2 _ nT2).trans ((e2.2 _ n21).trans ((e1.2 _ nz2).trans e));have hk3:DL.HkA A H3:=(h11.hk hk1 e2.2).keepN rfl hTO2 (fun ws q=>nomatch q) fun b o n q=>(e3.2 b n).trans q;dsimp only;rw [List.forIn_cons];refine wpAny_bind (wpAny_bind (wpAny_onRaise ?_))
 change wpAny _ _ (Builtin.SmallTypes.nextOf (Value.ref i2) >>= fun v=>pure (some v)) _ _ _
 refine wpAny_bind (jM hk3 h23 q23 hy fun H4 e g4 he=>ends H4 H4 e ?_ (fun a o n1 n2 n3 n4 g=>?_) he)
 ·exact g4 _ _ D.i2z.symm hz3
 ·exact g4 _ _ n4 ((e3.2 _ n2).trans ((e2.2 _ n3).trans ((e1.2 _ n1).trans g)))
end
end PySem
namespace PySem
open PySem.Spec PyProof.Rows
def SqAt.ob {b:Bool} {h:Heap} {l:Addr} {xs:Array Value} (x:SqAt b h l xs):∃ o,h.get? l=some o:=by cases b<;>exact ⟨_,x.choose_spec.1⟩
def ItAt.ob {b:Bool} {h:Heap} {it l:Addr} {i:Nat} (x:ItAt b h it l i):∃ o,h.get? it=some o:=by cases b<;>exact ⟨_,x.choose_spec.1⟩
def aG4 (b:Bool) (l:Addr) (xs:Array Value):Meets (Builtin.«enumerate.__new__» ⟨[.type "enumerate",.ref l],[]⟩) fun _ R s=>SqAt b s.heap l xs /\
  R (.ok (.ret (.ref (s.heap.push (jR b l)).objs.size))) { s with heap:=(s.heap.push (jR b l)).push { cls:=.type "enumerate",data:=.fields #[.none,.bool false,.ref s.heap.objs.size,rawInt 0,.none,.none] } }:=by
 refine Meets.of_wp fun prog w A R s h=>?_;obtain ⟨h1,h⟩:=h;obtain ⟨o,ho⟩:=h1.ob;obtain ⟨hp,g,d,tk,os⟩:=s;have hsub:=sub_enumerate
 wp_walk using AutoSeq1.wpAny_loadPart' ho
 refine wpAny_stack_any fun st=>wpAny_pure ?_;split
 ·rename_i c _ _ _ _ _;cases (c==Value.type "enumerate")
  ·wp_walk using AutoSeq1.wpAny_loadPart' ho,eY h1
   exact ⟨_,rfl,h⟩
  ·wp_walk using AutoSeq1.wpAny_loadPart' ho,eY h1
   exact ⟨_,rfl,h⟩
 ·wp_walk using AutoSeq1.wpAny_loadPart' ho,eY h1
  exact ⟨_,rfl,h⟩
section
variable {prog:Program} {w:World} {A:Around} {E:Value->Shared->Prop} {s:Shared}
def aU1 {b:Bool} {e it l:Addr} {i:Nat} {items:Array Value} {x old:Value} {Q:Option Value->Shared->Prop}
  (he:IsEnum s.heap e it i old) (hit:ItAt b s.heap it l i) (hl:SqAt b s.heap l items) (hx:items[i]?=some x) (hne:e≠it)
  (hQ:∀ h',IsEnumOut h' e it ((i:Int)+1) x s.heap.objs.size->ItAt b h' it l (i+1)->h'.get? s.heap.objs.size=some { cls:=.type "tuple",data:=.seq #[.int i s.toks,x] }->h'.objs.size=s.heap.objs.size+1 ->
   (∀ c o,c≠e->c≠it->s.heap.get? c=some o->h'.get? c=some o)->Q (some (.ref s.heap.objs.size)) { s with heap:=h',toks:=s.toks+1 }):wpAny (model prog w) A (pyNext (.ref e)) Q E s:=by
 have hT:s.TypeIs (.ref e) "enumerate":=⟨_,he,rfl⟩;have ne':∀ {h1 h2:Heap},Heap.SameBut e h1 h2->∀ o,h1.get? it=some o->h2.get? it=some o:=fun sb o q=>(sb.2 _ hne.symm).trans q;unfold pyNext;refine wpAny_bind (wpAny_attempt (wpAny_callSpecial?_slot (name:=Str.ofString "__next__") hT F.slot_enumerate_next (wpAny_call_entry F.slot_enumerate_next hT F.entry_enumerate_next ?_ (F.args_enumerate_next_1 _))));unfold Builtin.«enumerate.__next__»;refine wpAny_bind (wpAny_pure (a:=(Value.ref e,[])) (wpAny_bind (wpAny_field he rfl (x:=.ref it) rfl (wpAny_bind (fS hit hl hx fun H1 it1 e1=>?_)))));have he1:IsEnum H1 e it i old:=(e1.2 _ hne).trans he;refine wpAny_bind (wpAny_field he1 rfl (x:=rawInt i) rfl ?_);dsimp only [rawInt];refine wpAny_bind (wpAny_field he1 rfl (x:=.none) rfl ?_);rw [if_pos (by rfl)];refine wpAny_bind (wpAny_mkInt ?_);refine wpAny_bind (wpAny_setField_rec he1 (by simp) fun H2 he2 s2=>wpAny_bind (wpAny_setField_rec (s:={ s with heap:=H2,toks:=s.toks+1 }) he2 (by simp) fun H3 he3 s3=>?_));have he3':IsEnum H3 e it ((i:Int)+1) old:=he3;have z3:H3.objs.size=s.heap.objs.size:=by
  have q2:H2.objs.size=H1.objs.size:=s2.1;have q3:H3.objs.size=H2.objs.size:=s3.1;rw [q3,q2];exact e1.1
 refine wpAny_bind (wpAny_newTuple (items:=[.int i s.toks,x]) ?_);have he4:IsEnum (H3.push { cls:=.type "tuple",data:=.seq #[.int i s.toks,x] }) e it ((i:Int)+1) old:=Heap.get?_push_of_some _ he3';have g4:(H3.push { cls:=.type "tuple",data:=.seq #[.int i s.toks,x] }).get? s.heap.objs.size=some { cls:=.type "tuple",data:=.seq #[.int i s.toks,x] }:=by rw [<- z3];exact Heap.get?_push_size _ rfl
 have z4:(H3.push { cls:=.type "tuple",data:=.seq #[.int i s.toks,x] }).objs.size=s.heap.objs.size+1:=by rw [Heap.size_push,z3]
 have k4:∀ c o,c≠e->c≠it->s.heap.get? c=some o->(H3.push { cls:=.type "tuple",data:=.seq #[.int i s.toks,x] }).get? c=some o:=fun c o n1 n2 q=>Heap.get?_push_of_some _ ((s3.2 _ n1).trans ((s2.2 _ n1).trans ((e1.2 _ n2).trans q)));have it4:ItAt b (H3.push { cls:=.type "tuple",data:=.seq #[.int i s.toks,x] }) it l (i+1):=it1.keep fun o q=>Heap.get?_push_of_some _ (ne' s3 o (ne' s2 o q));refine wpAny_bind ?_;unfold Builtin.SmallTypes.ownedTupleIsFree;refine wpAny_bind (wpAny_field he4 rfl (x:=.none) rfl (wpAny_pure ?_));rw [if_pos rfl];have el:s.heap.objs.size≠e:=Nat.ne_of_gt (Heap.lt_size he);refine wpAny_bind (wpAny_rule (wpAny_bind (wpAny_field he4 rfl (x:=old) rfl (wpAny_bind (wpAny_setField_rec (s:={ s with heap:=H3.push { cls:=.type "tuple",data:=.seq #[.int i s.toks,x] },toks:=s.toks+1 }) he4 (by simp) fun H5 he5 s5=>wpAny_bind ?_)))));unfold Builtin.SmallTypes.ownedTupleHandOut;rw [z3];refine wpAny_bind (wpAny_setField_rec (s:={ s with heap:=H5,toks:=s.toks+1 }) he5 (by simp) fun H6 he6 s6=>wpAny_setField_rec (s:={ s with heap:=H6,toks:=s.toks+1 }) he6 (by simp) fun H7 he7 s7=>wpAny_bind (wpAny_letGo (wpAny_pure ⟨_,rfl,wpAny_pure (hQ H7 he7 ?_ ?_ ?_ fun c o n1 n2 q=>?_)⟩)))
 ·exact it4.keep fun o q=>ne' s7 o (ne' s6 o (ne' s5 o q))
 ·exact (s7.2 _ el).trans ((s6.2 _ el).trans ((s5.2 _ el).trans g4))
 ·have q5:H5.objs.size=_:=s5.1;have q6:H6.objs.size=H5.objs.size:=s6.1;have q7:H7.objs.size=H6.objs.size:=s7.1;rw [q7,q6,q5];exact z4
 ·exact (s7.2 _ n1).trans ((s6.2 _ n1).trans ((s5.2 _ n1).trans (k4 c o n1 n2 q)))
def bH9 {b:Bool} {e it l:Addr} {i:Nat} {items:Array Value} {old:Value} {Q:Option Value->Shared->Prop} (hh:DL.HkA A s.heap) (he:IsEnum s.heap e it i old) (hit:ItAt b s.heap it l i) (hl:SqAt b s.heap l items) (hx:items[i]?=none)
  (hQ:∀ h',(∀ c o,c≠it->s.heap.get? c=some o->h'.get? c=some o)->Q none { s with heap:=h' }):wpAny (model prog w) A (pyNext (.ref e)) Q E s:=by
 have hT:s.TypeIs (.ref e) "enumerate":=⟨_,he,rfl⟩;unfold pyNext;refine wpAny_bind (wpAny_attempt (wpAny_callSpecial?_slot (name:=Str.ofString "__next__") hT F.slot_enumerate_next (wpAny_call_entry F.slot_enumerate_next hT F.entry_enumerate_next ?_ (F.args_enumerate_next_1 _))));unfold Builtin.«enumerate.__next__»;refine wpAny_bind (wpAny_pure (a:=(Value.ref e,[])) (wpAny_bind (wpAny_field he rfl (x:=.ref it) rfl (wpAny_bind (jM (A:=A.in1) hh hit hl hx fun H1 x k1 ⟨o,ho,hc⟩=>?_)))));exact wpAny_bind (wpAny_isInstance ⟨o,ho,hc⟩ isSubtype_stop (wpAny_pure (hQ H1 k1)))
end
end PySem

namespace ST
open PySem PySem.Spec PyProof.Rows
section
variable {prog:Program} {w:World} {A:Around} {E:Value->Shared->Prop} {s:Shared} {R:Result->Shared->Prop}
def aG5 {I:Addr} {fp wr:List Addr} {n:Nat} {P:Nat->Value->Prop} {St:Nat->Heap->Prop} (W:Walks prog w A.in1 I fp wr n P St) (S:Addr) (hS:S∉fp) (val:Nat->Int) (hval:∀ i v,P i v->∃ t,v=.int (val i) t) (hb:n+1 < scanBound) :
  ∀ (k i:Nat) (s:Shared),n - i=k->i<=n->St i s.heap->SetI prog w s.heap S (firstMet val i) ->
   (∀ h' tk,SetI prog w h' S (firstMet val n)->(∀ b o,b≠S->b∉wr->s.heap.get? b=some o->h'.get? b=some o)->R (.ok (.ret .none)) { s with heap:=h',toks:=tk }) ->
   codeAny (model prog w) A (.builtin "set.update.loop" ⟨[.ref S,.ref I],[]⟩) R s:=by
 have hw:S∉wr:=fun z=>hS (W.sub _ z);intro k;induction k with
 | zero =>
  intro i s hk hi st si hR;have e:i=n:=by omega
  subst e;refine codeAny_builtin F.entry_set_update_loop ?_;rw [Around.under_plainId F.plain_set_update_loop _];refine wpAny_bind (W.done s _ _ st fun h' tk hm=>wpAny_pure ?_);exact hR h' tk (si.keep fun o e=>hm S o hw e) fun b o _ hb e=>hm b o hb e
 | succ k ih =>
  intro i s hk hi st si hR;have hlt:i < n:=by omega
  refine codeAny_builtin F.entry_set_update_loop ?_;rw [Around.under_plainId F.plain_set_update_loop _];refine wpAny_bind (W.item i s _ _ hlt st fun v h1 tk1 hP st1 hm=>?_);obtain ⟨t,rfl⟩:=hval i v hP;have s1:SetI prog w h1 S (firstMet val i):=si.keep fun o e=>hm S o hw e;have fl:=firstMet_length_le val i;refine wpAny_bind (wpAny_holding ?_);unfold setAdd;refine wpAny_holding (wpAny_bind ((intKind prog w).pyHash (k:=val i) (intKind_is _ _ _ _) ?_));refine xW (s:={ s with heap:=h1,toks:=tk1+1 }) s1 (by omega) fun b h2 sb s2=>?_;rw [<- firstMet_succ] at s2;refine wpAny_pure ⟨plainId_quiet F.plain_set_update_loop _,ih (i+1) _ (by omega) hlt (W.frame _ h1 _ st1 fun c hc o e=>?_) s2 fun h3 tk3 s3 k3=>hR h3 tk3 s3 fun c o n1 n2 e=>k3 c o n1 n2 ?_⟩
  ·rw [sb.2 c (fun z=>hS (by rw [<- z];exact hc))];exact e
  ·show h2.get? c=some o;rw [sb.2 c n1];exact hm c o n2 e
abbrev iW (w:World):Obj:={ cls:=.type "set",dict:=none,data:=.set #[] 0 (.fresh 0 0 (!txt w)) }
def aA4:Parts prog w (iW w) #[] 0 (.fresh 0 0 (!txt w)) [] where
 ex:=⟨rfl,rfl,rfl⟩
 dat:=rfl
 el:=fun e he=>by simp at he
 ks:=by simp
 few:=by decide
 fit:=rfl
 good:=⟨by simp [Ris,SetTable.fresh],fun e=>by rw [e];rfl⟩
def aG6 (a:Value) {Q₁:Value->Shared->Prop} (h:Q₁ (.ref s.heap.objs.size) { s with heap:=s.heap.push (iW w) }) :
  codeAny (model prog w) A (.call (.builtin "set.__new__") ⟨[.type "set",a],[]⟩) (wants Q₁ E) s:=by
 refine codeAny_of_tree ?_;show wpAny _ _ (checkBuiltinCall "set.__new__" ⟨[.type "set",a],[]⟩ >>= fun _=>again (.builtin "set.__new__" ⟨[.type "set",a],[]⟩)) _ _ s;refine wpAny_bind (wpAny_of_eq (PySem.F.newCall_set_1 a) (wpAny_pure ⟨plainId_quiet PySem.F.plain_set_new _,codeAny_builtin PySem.F.entry_set_new ?_⟩));rw [Around.under_plainId PySem.F.plain_set_new _];have sub:=sub_set_self;unfold Builtin.«set.__new__» Builtin.Frozenset.newClass;obtain ⟨hp,g,d,tk,os⟩:=s;dsimp only
 wp_walk
 refine wpAny_askSetting (wpAny_pure ?_);dsimp only;simp only [newObj];exact wpAny_bind (wpAny_alloc (wpAny_pure (wpAny_pure h)))
def wC (ns:List Int):(List.range ns.length).map (fun i=>ns.getD i 0)=ns:=by
 apply List.ext_getElem
 ·simp
 ·intro i h1 h2;simp [h2]
def aG7 (ns:List Int):firstMet (fun i=>ns.getD i 0) ns.length=dd ns:=by
 unfold firstMet dd;rw [wC]
def lX {b:Bool} {l:Addr} {items:Array Value} {ns:List Int} {Q:Value->Shared->Prop} (hh:A.handled=none) (hl:SqAt b s.heap l items) (hi:IntsAre items.toList ns) (hb:items.size+1 < scanBound)
  (h:∀ h' tk,SetI prog w h' s.heap.objs.size (dd ns)->(∀ b o,s.heap.get? b=some o->h'.get? b=some o)->Q (.ref s.heap.objs.size) { s with heap:=h',toks:=tk }) :
  wpAny (model prog w) A (call (.type "set") [.ref l]) Q E s:=by
 have hnz:ns.length=items.size:=by have:=IntsAre.length hi;simpa using this.symm
 obtain ⟨c,tl,mro⟩:=PySem.F.called_set.mro;have made:=PySem.F.called_set.made;have sub:=PySem.F.called_set.sub;refine wpAny_call (codeAny_of_tree (wpAny_pure ⟨Code.quiet_builtin _ (by decide +kernel),codeAny_builtin PySem.F.entry_type_call ?_⟩));rw [Around.under_plain (weight_type_call_type "set" [.ref l] []) rfl];have h1:=PySem.F.called_set.notType;have h2:=PySem.F.called_set.canCreate;have h3:=PySem.F.typeCall_set_1 (.ref l)
 repeat (any_goals (first | assumption | wp_step))
 refine codeAny_mono (aG6 (.ref l) (E:=E) (Q₁:=fun obj s₁=>obj=.ref s.heap.objs.size/\s₁={ s with heap:=s.heap.push (iW w) }) ⟨rfl,rfl⟩) fun r s₁ hr=>?_;cases r with
 | error e=>exact hr
 | ok fl =>
  cases fl with
  | ret obj =>
   obtain ⟨rfl,rfl⟩:=hr;have gS:(s.heap.push (iW w)).get? s.heap.objs.size=some (iW w):=Heap.get?_push_size _ rfl;have hT:Shared.TypeIs { s with heap:=s.heap.push (iW w) } (.ref s.heap.objs.size) "set":=⟨_,gS,rfl⟩;have look:=PySem.F.called_set.init.lookup;have bnd:=PySem.F.called_set.init.bind (.ref s.heap.objs.size)
   repeat (any_goals (first | assumption | wp_step))
   refine codeAny_mono (codeAny_call_builtin (R:=wants (fun r s₂=>r=.none/\∃ h' tk,s₂={ s with heap:=h',toks:=tk }/\SetI prog w h' s.heap.objs.size (dd ns)/\(∀ b o,s.heap.get? b=some o->h'.get? b=some o)) E)
    PySem.F.called_set.init.plain PySem.F.entry_set_init (check_set_init_1 hT ?_)) fun r₂ s₂ hr₂=>?_
   ·obtain ⟨cc,⟨⟨oc,od,odt,osl⟩,hol,hcl⟩,f1,f2,f3⟩:∃ cc,(∃ ol,s.heap.get? l=some ol/\ol.cls=.type cc)/\isSubtype (.type cc) (.type "set")=pure false/\isSubtype (.type cc) (.type "frozenset")=pure false/\(Value.type cc==Value.type "dict")=false:=by
     cases b
     ·obtain ⟨ol,hol,hcl,_⟩:=hl;exact ⟨_,⟨ol,hol,hcl⟩,PySem.F.sub_list_set,PySem.F.sub_list_frozenset,by decide⟩
     ·obtain ⟨ol,hol,hcl,_⟩:=hl;exact ⟨_,⟨ol,hol,hcl⟩,PySem.F.sub_tuple_set,PySem.F.sub_tuple_frozenset,by decide⟩
    dsimp only at hcl;subst hcl;have hol2:(s.heap.push (iW w)).get? l=some { cls:=.type cc,dict:=od,data:=odt,slots:=osl }:=Heap.get?_push_of_some _ hol;have il:SqAt b (s.heap.push (iW w)) l items:=hl.keep fun o e=>Heap.get?_push_of_some _ e;unfold Builtin.«set.__init__» noKeywords Builtin.Frozenset.updateFrom;generalize hPI:pyIter=PI
    wp_walk
    subst hPI;refine eY il (wpAny_bind (wpAny_runValue ?_));have lt:l < s.heap.objs.size:=Heap.lt_size hol;have sz:(s.heap.push (iW w)).objs.size=s.heap.objs.size+1:=by rw [Heap.size_push]
    have hne:l≠(s.heap.push (iW w)).objs.size:=by rw [sz];exact Nat.ne_of_lt (Nat.lt_succ_of_lt lt)
    have hSf:s.heap.objs.size∉[(s.heap.push (iW w)).objs.size,l]:=by
     rw [sz];simp only [List.mem_cons,List.not_mem_nil,or_false,not_or];exact ⟨Nat.ne_of_lt (Nat.lt_succ_self _),Nat.ne_of_gt lt⟩
    obtain ⟨P,St,W,st0,hP⟩:∃ P St,Walks prog w A.in1.in1.in1 (s.heap.push (iW w)).objs.size [(s.heap.push (iW w)).objs.size,l] [(s.heap.push (iW w)).objs.size] items.size P St/\St 0 ((s.heap.push (iW w)).push (jR b l))/\∀ i v,P i v->items[i]?=some v:=by
     have il2:SqAt b ((s.heap.push (iW w)).push (jR b l)) l items:=il.keep fun o e=>Heap.get?_push_of_some _ e;cases b
     ·exact ⟨_,_,Walks.list (by simp [hh]) _ l hne items,⟨⟨_,Heap.get?_push_size _ rfl,rfl,rfl⟩,il2⟩,fun _ _ e=>e⟩
     ·exact ⟨_,_,Walks.tuple (by simp [hh]) _ l hne items,⟨⟨_,Heap.get?_push_size _ rfl,rfl,rfl⟩,il2⟩,fun _ _ e=>e⟩
    refine aG5 W s.heap.objs.size hSf (fun i=>ns.getD i 0) (fun i v hv=>IntsAre.int_at hi i v (by rw [Array.getElem?_toList];exact hP i v hv)) hb (items.size - 0) 0 _ rfl (Nat.zero_le _)
     st0 ⟨_,_,_,_,Heap.get?_push_of_some _ gS,aA4⟩ fun h' tk si kp=>?_
    rw [<- hnz,aG7] at si;refine wpAny_pure (wpAny_pure ⟨rfl,h',tk,rfl,si,fun b o e=>?_⟩);have bl:b < s.heap.objs.size:=Heap.lt_size e;refine kp b o (Nat.ne_of_lt bl) ?_ (Heap.get?_push_of_some _ (Heap.get?_push_of_some _ e));simp only [List.mem_singleton];rw [sz];exact Nat.ne_of_lt (Nat.lt_succ_of_lt bl)
   ·cases r₂ with
    | error e=>exact hr₂
    | ok fl₂ =>
     cases fl₂ with
     | ret r =>
      obtain ⟨rfl,h',tk,rfl,si,kp⟩:=hr₂
      repeat (any_goals (first | assumption | wp_step))
      exact h _ _ si kp
     | _=>exact hr₂.elim
  | _=>exact hr.elim
end
end ST

namespace CI
open PySem PySem.Spec PyProof.Rows L2 DL ST

abbrev XR (α:Type):=DSt->aA->Option (α×aA)
set_option genInjectivity true in
inductive Fl where
 | nx (δ:DSt) | rt (w:W) | bk (δ:DSt) | ct (δ:DSt)
abbrev XS:=DSt->aA->Option (Fl×aA)
abbrev XG:=W->DSt->aA->Option (DSt×aA)
abbrev XF:=List W->aA->Option (PyData×aA)
abbrev XFW:=List W->aA->Option (W×aA)
structure ObS where
 fnW:Str->Option XFW
 cls:Str->Option (Addr×XFW)
 om:Str->Option (Addr×XFW)
 fo:Addr->Str->Bool
noncomputable def xno {α:Type}:XR α:=fun _ _=>none
noncomputable def aD {α:Type} (a:α):XR α:=fun _ h=>some (a,h)
noncomputable def xb {α β:Type} (x:XR α) (f:α->XR β):XR β:=fun δ h=>(x δ h).bind fun p=>f p.1 δ p.2
structure Sta where
 bl:List Str
 gc:Str->Option PyData
 tk:Str->Option (Str->Option PyData)
 fn:Str->Option XF
 ac:Str->List Nat
 cv:List Str
 N:List Str
 S:Scope
 top:Bool
 fuel:Nat
 ob:ObS
 qn:Option (Str×Pos)
 hm:Bool
structure Evs where
 E:Sta->Expr->XR W
 T:Sta->Expr->XR Bool
 F:Sta->Expr->XR (List PyData)
 G:Sta->Expr->XG
 S:Sta->Stmt->XS
def Evs.no:Evs:=⟨fun _ _=>xno,fun _ _=>xno,fun _ _=>xno,fun _ _ _ _ _=>none,fun _ _ _ _=>none⟩

noncomputable def aY (x:Str):Bool:=!(x==("__debug__":Str))&&(!(x==("__classdict__":Str))&&!(x==("__name__":Str)))
noncomputable def bI0 (S:Scope) (x:Str):Bool:=match S.names.lookup x with
 | some .local=>true
 | some .cell=>true
 | some .free=>true
 | _=>false
noncomputable def rF (S:Scope) (x:Str):Bool:=match S.names.lookup x with
 | some .local=>true
 | some .cell=>true
 | _=>false
noncomputable def dH (S:Scope) (x:Str):Bool:=match S.names.lookup x with
 | some .local=>true
 | _=>false
noncomputable def glB (S:Scope) (x:Str):Bool:=match S.names.lookup x with
 | some .globalImplicit=>true
 | _=>false
noncomputable def slot (st:Sta) (x:Str):Option Nat:=st.N.findIdx? (·==x)
noncomputable def aB (i:Nat):XR W:=fun δ h=>match δ[i]? with
 | some (some w)=>some (w,h)
 | _=>none
def cV (st:Sta) (x:Str):Bool:=aY x&&glB st.S x
def xZ (st:Sta) (x:Str):XR W:=if aY x=true then
  (match slot st x with
   | some i=>if bI0 st.S x=true then aB i else xno
   | none=>(match st.gc x with
    | some d=>if glB st.S x=true then aD (.d d) else xno
    | none=>xno))
 else xno
def aG8:Const->XR W
 | .none=>aD (.d .none)
 | .bool b=>aD (.d (.bool b))
 | .int i=>aD (.d (.int i))
 | .str x=>if PyData.strOk x=true then aD (.d (.str x)) else xno
 | _=>xno

noncomputable def gZ (i j:Int):Bool:=(decide (-(2^64) < i)&&decide (i < 2^64))||(decide (-(2^64) < j)&&decide (j < 2^64))
noncomputable def cP (j:Int):Bool:=decide (0 < j)&&(decide (j < 1073741824)||decide (j.natAbs.log2 < 8000))
noncomputable def lY (i j:Int):Bool:=decide (0<=j)&&(decide (j<=1000000)&&decide (i.natAbs < 2^64))
def bI1 (u w:W) (h:aA):Option (W×aA):=match u,w with
 | .d (.int i),.d (.int j)=>some (.d (.int (i+j)),h)
 | .d (.tuple xs),.d (.tuple ys)=>if xs.length+ys.length<=sizeLine then some (.d (.tuple (xs++ys)),h) else none
 | _,_=>(match ref h u,ref h w with
  | some (.list xs),some (.list ys)=>if xs.length+ys.length<=sizeLine then some (.d (.list (xs++ys)),h) else none
  | _,_=>none)
def bU1 (u w:W) (h:aA):Option (W×aA):=match u,w with
 | .d (.int i),.d (.int j)=>if gZ i j=true then some (.d (.int (i*j)),h) else none
 | _,_=>none
def hV (op:Operator) (u w:W) (h:aA):Option (W×aA):=match op with
 | .Add=>bI1 u w h
 | .Mult=>bU1 u w h
 | _=>(match u,w with
  | .d (.int i),.d (.int j)=>(match op with
   | .Sub=>some (.d (.int (i - j)),h)
   | .FloorDiv=>if cP j=true then some (.d (.int (i / j)),h) else none
   | .Mod=>if 0 < j then some (.d (.int (i%j)),h) else none
   | .Pow=>if lY i j=true then some (.d (.int (i^j.toNat)),h) else none
   | .RShift=>if 0<=j then some (.d (.int (i / 2^j.toNat)),h) else none
   | _=>none)
  | _,_=>none)
noncomputable def cL3:CmpOp->Option (Int->Int->Bool)
 | .Lt=>some fun i j=>decide (i < j)
 | .LtE=>some fun i j=>decide (i<=j)
 | .Gt=>some fun i j=>decide (j < i)
 | .GtE=>some fun i j=>decide (j<=i)
 | _=>none
def xEq (u w:W) (h:aA):Option Bool:=match ref h u,ref h w with
 | some a,some b=>if (aK 64 a&&aK 64 b)=true then some (PyData.eqv a b) else none
 | _,_=>none
def xIs (u w:W):Option Bool:=match u,w with
 | .d a,.d b=>DL.isSame a b
 | .c _,.d .none=>some false
 | _,_=>none
def xIn (u w:W) (h:aA):Option Bool:=match ref h u,ref h w with
 | some d,some (.list xs)=>if (aK 64 (.list xs)&&aK 64 d)=true then some (xs.any fun z=>PyData.eqv z d) else none
 | some d,some (.tuple xs)=>if (aK 64 (.tuple xs)&&aK 64 d)=true then some (xs.any fun z=>PyData.eqv z d) else none
 | _,_=>none
def dZ (op:CmpOp) (u w:W) (h:aA):Option (Bool×aA):=match op with
 | .Eq=>(xEq u w h).map fun b=>(b,h)
 | .NotEq=>(xEq u w h).map fun b=>(!b,h)
 | .Is=>(xIs u w).map fun b=>(b,h)
 | .IsNot=>(xIs u w).map fun b=>(!b,h)
 | .In=>(xIn u w h).map fun b=>(b,h)
 | .NotIn=>(xIn u w h).map fun b=>(!b,h)
 | _=>(match u,w with
  | .d (.int i),.d (.int j)=>(cL3 op).map fun p=>(p i j,h)
  | _,_=>none)
noncomputable def asW (p:Bool×aA):W×aA:=(.d (.bool p.1),p.2)
def xIr (u:W) (k:Int) (h:aA):Option (W×aA):=match u with
 | .c j=>(match h[j]? with
  | some (.r is)=>(atI is k).map fun m=>(m,h)
  | _=>none)
 | _=>none
def xIx (u w:W) (h:aA):Option (W×aA):=match ref h u,w with
 | some (.list xs),.d (.int i)=>(atI xs i).map fun v=>(.d v,h)
 | some (.tuple xs),.d (.int i)=>(atI xs i).map fun v=>(.d v,h)
 | none,.d (.int k)=>xIr u k h
 | _,_=>none
def xSl (u:W) (lo hi:Option Int) (h:aA):Option (W×aA):=match u with
 | .d (.tuple xs)=>some (.d (.tuple (cut xs lo hi)),h)
 | _=>(match ref h u with
  | some (.list xs)=>some (.d (.list (cut xs lo hi)),h)
  | _=>none)

noncomputable def bI2 (w:W) (h:aA):Option Nat:=match w with
 | .c j=>(match h[j]? with
  | some (.r is)=>some is.length
  | _=>none)
 | _=>none
def bJ:List W->aA->Option (W×aA)
 | [w],h=>(match ref h w with
  | some (.list xs)=>some (.d (.int xs.length),h)
  | some (.tuple xs)=>some (.d (.int xs.length),h)
  | none=>(bI2 w h).map fun n=>(.d (.int n),h)
  | _=>none)
 | _,_=>none
def bM:List W->aA->Option (W×aA)
 | [w],h=>(match ref h w with
  | some (.list xs)=>some (.d (.tuple xs),h)
  | some (.tuple xs)=>some (.d (.tuple xs),h)
  | _=>none)
 | _,_=>none
def gC:List W->aA->Option (W×aA)
 | [w],h=>(match ref h w with
  | some (.list xs)=>(cX xs).map fun bs=>(.d (.bool (bs.all id)),h)
  | _=>none)
 | _,_=>none
def tN:List W->aA->Option (W×aA)
 | [w],h=>(match ref h w with
  | some (.list xs)=>(cX xs).map fun bs=>(.d (.bool (bs.any id)),h)
  | _=>none)
 | _,_=>none
noncomputable def wD:List W->aA->Option (W×aA)
 | [.d (.bool b)],h=>some (.d (.int (if b then 1 else 0)),h)
 | _,_=>none
noncomputable def xMn (ws:List W) (h:aA):Option (W×aA):=match ws with
 | [.d (.int a),.d (.int b)]=>some (.d (.int (min a b)),h)
 | _=>none
def bI3 (hm:Bool) (x:Str):Option (List W->aA->Option (W×aA)) :=
 if x="len" then some bJ else if x="tuple" then some bM else if x="all" then some gC else if x="int" then some wD else if x="min" then (if hm=true then none else some xMn) else if x="any" then some tN else none
noncomputable def aU2 (T:Str):Option String :=
 if T="int" then some "int" else if T="bool" then some "bool" else if T="str" then some "str" else if T="tuple" then some "tuple" else if T="list" then some "list" else none

abbrev Cw:=Option (Nat×Bool)
def condB:Cw->List PyData->aA->Bool
 | none,_,_=>true
 | some (i,e),xs,h=>(match h[i]? with
  | some (.l ys)=>peqs (if e=true then bX ys else ys) xs
  | _=>false)
def iX (u:W) (h:aA):Option ((List PyData×Cw)×aA):=match nK u with
 | some xs=>some ((bX xs,none),h)
 | none=>(match u with
  | .c i=>(match h[i]? with
   | some (.l xs)=>some ((bX xs,some (i,true)),h)
   | _=>none)
  | _=>none)

def bQ (g:XG) (tb:XS) (c:Cw) (all:List PyData):List PyData->DSt->aA->Option (Fl×aA)
 | [],δ,h=>if condB c all h=true then some (.nx δ,h) else none
 | x::r,δ,h=>if condB c all h=true then
   (g (.d x) δ h).bind fun p=>(tb p.1 p.2).bind fun q=>(match q.1 with
    | .nx δ'=>bQ g tb c all r δ' q.2
    | .ct δ'=>bQ g tb c all r δ' q.2
    | .bk δ'=>some (.nx δ',q.2)
    | .rt w=>some (.rt w,q.2))
  else none
def aV (g:XG) (tt:XR Bool) (te:XR W) (c:Cw) (all:List PyData):List PyData->DSt->aA->List PyData->Option (List PyData×aA)
 | [],_,h,ac=>if condB c all h=true then some (ac,h) else none
 | x::r,δ,h,ac=>if condB c all h=true then
   (g (.d x) δ h).bind fun p=>(tt p.1 p.2).bind fun q=>if q.1=true then
     (te p.1 q.2).bind fun y=>(match y.1 with
      | .d z=>aV g tt te c all r p.1 y.2 (ac++[z])
      | _=>none)
    else aV g tt te c all r p.1 q.2 ac
  else none

noncomputable def aI:Expr->Bool
 | .Starred _ _=>false
 | _=>true
noncomputable def cA (x:XR (List PyData)):XR W:=fun δ h=>(x δ h).bind fun p=>some (.c p.2.length,p.2++[.l p.1])
noncomputable def aO (x:XR (List PyData)):XR W:=fun δ h=>(x δ h).bind fun p=>some (.d (.list p.1),p.2)
def lZ (f:Str->Option PyData) (x:XR W):XR Bool:=xb x fun w=>(match w with
 | .d (.str s)=>aD (!(f s).isSome)
 | .d .none=>aD true
 | _=>xno)
def xC1 (op:CmpOp) (x y:XR W):XR Bool:=xb x fun u=>xb y fun w=>fun _ h=>dZ op u w h
def xC2 (op op':CmpOp) (x y z:XR W):XR Bool:=xb x fun u=>xb y fun w=>fun δ h=>(dZ op u w h).bind fun p=>if p.1=true then (z δ p.2).bind fun q=>dZ op' w q.1 q.2 else some (false,p.2)
def xC3 (op op' op'':CmpOp) (x y z t:XR W):XR Bool:=xb x fun u=>xb y fun w=>fun δ h=>(dZ op u w h).bind fun p =>
 if p.1=true then (z δ p.2).bind fun q=>(dZ op' w q.1 q.2).bind fun p'=>if p'.1=true then (t δ p'.2).bind fun q'=>dZ op'' q.1 q'.1 q'.2 else some (false,p'.2) else some (false,p.2)
def bH (x:XR Bool):XR W:=fun δ h=>(x δ h).map asW
noncomputable def cW:List XG->List PyData->DSt->aA->Option (DSt×aA)
 | [],[],δ,h=>some (δ,h)
 | g::gs,x::xs,δ,h=>(g (.d x) δ h).bind fun p=>cW gs xs p.1 p.2
 | _,_,_,_=>none
def aR (gs:List XG):XG:=fun w δ h=>(match w with
 | .d (.tuple xs)=>cW gs xs δ h
 | _=>none)
section
variable (v:Evs) (st:Sta)
def aX:List Expr->XR (List W)
 | []=>aD []
 | e::es=>if aI e=true then xb (v.E st e) fun w=>xb (aX es) fun ws=>aD (w::ws) else xno
noncomputable def cL4:Expr->Bool
 | .Name _ _=>true
 | _=>false
def wE:Option Expr->XR (Option Int)
 | none=>aD none
 | some e=>xb (v.E st e) fun w=>(match w with
  | .d (.int i)=>aD (some i)
  | _=>xno)
def aG9:List Expr->XR W
 | []=>xno
 | [a]=>v.E st a
 | a::b::r=>xb (v.E st a) fun w=>(match w with
  | .d (.bool true)=>aG9 (b::r)
  | .d (.bool false)=>aD (.d (.bool false))
  | _=>xno)
def bI4:List Expr->XR W
 | []=>xno
 | [a]=>v.E st a
 | a::b::r=>xb (v.E st a) fun w=>(match w with
  | .d (.bool true)=>aD (.d (.bool true))
  | .d (.bool false)=>bI4 (b::r)
  | _=>xno)
def aH0:List Expr->XR Bool
 | []=>xno
 | [a]=>v.T st a
 | a::b::r=>xb (v.T st a) fun c=>if c=true then aH0 (b::r) else aD false
def bI5:List Expr->XR Bool
 | []=>xno
 | [a]=>v.T st a
 | a::b::r=>xb (v.T st a) fun c=>if c=true then aD true else bI5 (b::r)
def jS:Expr->Option (Str->Option PyData)
 | .Name x _=>if cV st x&&(slot st x).isNone then st.tk x else none
 | _=>none
def gE (a:Expr) (ops:List CmpOp) (cs:List Expr):XR Bool:=match ops,cs with
 | [op],[b]=>(match jS st b with
  | some f=>if op=.NotIn then lZ f (v.E st a) else xno
  | none=>if behindInMarks op b=true then xno else xC1 op (v.E st a) (v.E st b))
 | [op,op'],[b,c]=>if lastMarks [op,op'] [b,c]=true then xno else xC2 op op' (v.E st a) (v.E st b) (v.E st c)
 | _,_=>xno
def kW (a:Expr) (ops:List CmpOp) (cs:List Expr):XR Bool:=match ops,cs with
 | [op,op',op''],[b,c,d]=>if lastMarks [op,op',op''] [b,c,d]=true then xno else xC3 op op' op'' (v.E st a) (v.E st b) (v.E st c) (v.E st d)
 | _,_=>gE v st a ops cs
noncomputable def eV (i j:Int):Bool:=decide (j - i<=16000000)&&(decide (-(2^62)<=i)&&(decide (i < 2^62)&&(decide (-(2^62)<=j)&&decide (j < 2^62))))
def bB (x:XR W):XR (List PyData×Cw):=xb x fun w=>fun _ h=>(match w with
 | .d (.list xs)=>some ((xs,none),h)
 | .d (.tuple xs)=>some ((xs,none),h)
 | .c i=>(match h[i]? with
  | some (.l xs)=>some ((xs,some (i,false)),h)
  | _=>none)
 | _=>none)
noncomputable def gF:Expr->Bool
 | .Set _ _ _=>true
 | _=>false
noncomputable def yA:Expr->Bool
 | .Tuple _ _ _=>true
 | _=>false
noncomputable def itS:(e:Expr)->Option {y:Str×Expr×Option Expr // ∃ p q,e=.Call (.Name y.1 p) (y.2.1::y.2.2.toList) [] q}
 | .Call (.Name x p) [a] [] q=>some ⟨(x,a,none),p,q,rfl⟩
 | .Call (.Name x p) [a,b] [] q=>some ⟨(x,a,some b),p,q,rfl⟩
 | _=>none
def gG (tg e:Expr):XR (List PyData×Cw):=match itS e with
 | some ⟨(x,a,none),_⟩=>if x="range" then (if cV st x&&(slot st x).isNone&&st.bl.contains x&&aI a&&!st.hm then xb (v.E st a) fun w=>fun _ h=>(match w with
   | .d (.int j)=>if eV 0 j=true then some ((rng 0 j.toNat,none),h) else none
   | _=>none) else xno)
  else if x="enumerate" then (if cV st x&&(slot st x).isNone&&st.bl.contains x&&aI a&&yA tg then xb (v.E st a) fun u=>fun _ h=>iX u h else xno)
  else bB (v.E st e)
 | some ⟨(x,a,some b),_⟩=>if x="range" then (if cV st x&&(slot st x).isNone&&st.bl.contains x&&aI a&&aI b&&!st.hm then xb (v.E st a) fun u=>xb (v.E st b) fun w=>fun _ h=>(match u,w with
   | .d (.int i),.d (.int j)=>if eV i j=true then some ((rng i (j - i).toNat,none),h) else none
   | _,_=>none) else xno)
  else if x="zip" then (if cV st x&&(slot st x).isNone&&st.bl.contains x&&aI a&&aI b&&yA tg then xb (v.E st a) fun u=>xb (v.E st b) fun w=>fun _ h=>(match nK u,nK w with
   | some xs,some ys=>some ((kU xs ys,none),h)
   | _,_=>none) else xno)
  else bB (v.E st e)
 | none=>if gF e=true then xno else bB (v.E st e)
noncomputable def iY (sc:Scope):List Str:=(sc.names.filter fun p=>(p.2==.local||p.2==.free)&&!(p.1==(".0":Str))).map (·.1)
def fH (N:List Str) (sc:Scope):List (Option Nat):=(iY sc).map fun x=>if sc.names.lookup x=some .free then N.findIdx? (·==x) else none
noncomputable def bI6 (sc S:Scope):Scope:={ sc with names:=sc.names.map fun (n,k)=>if (k==.free&&S.kind==.function&&S.names.lookup n==some .cell) then (n,.cell) else (n,k) }
def jD (N:List Str) (sc S:Scope):Bool :=
 decide (sc.kind=.function)&&((sc.names.all fun y=>!(y.2==.cell))&&((sc.names.all fun y=>!(y.2==.local)||(sc.names.lookup y.1==some .local)) &&
  ((sc.names.all fun y=>!(y.2==.free)||(S.names.lookup y.1==some .cell||S.names.lookup y.1==some .free))&&(decide (iY sc).Nodup &&
   (((fH N sc).zip (iY sc)).all fun p=>match p.1 with
    | none=>true
    | some i=>decide (N[i]?=some p.2)&&decide (sc.names.lookup p.2=some NameKind.free))))))
def Sta.blk (sc:Scope):Sta:={ st with N:=iY sc,S:=bI6 sc st.S,top:=false,qn:=none }
def aH1:List Expr->XR Bool
 | []=>aD true
 | [c]=>v.T st c
 | _=>xno
def mB (elt tg iter:Expr) (ifs:List Expr) (sc:Scope):XR (List PyData) :=
 if jD st.N sc st.S&&!gF iter then xb (gG v st tg iter) fun p=>fun δ h=>aV (v.G (st.blk sc) tg) (aH1 v (st.blk sc) ifs) (v.E (st.blk sc) elt) p.2 p.1 p.1 (bW (fH st.N sc) δ) h [] else xno
noncomputable def prS:(z:PyData)->Option {k:Int // ∃ i j,z=.tuple [.int i,.int j]/\(0<=j/\j < 1000)/\k=i*1000+j}
 | .tuple [.int i,.int j]=>if h:0<=j/\j < 1000 then some ⟨i*1000+j,i,j,rfl,h,rfl⟩ else none
 | _=>none
def aA5:List PyData->Option (List Int)
 | []=>some []
 | z::zs=>((prS z).map (·.1)).bind fun k=>(aA5 zs).map fun ks=>k::ks
noncomputable def bD6 (ks:List Int) (xs:List PyData):List PyData:=((ks.zip xs).mergeSort fun a b=>decide (b.1<=a.1)).map (·.2)
def tO (ks:List Int) (xs:List PyData):List PyData:=bD6 (ks.map fun k=>-k) xs
def aA6 (xs:List PyData):Option (List PyData):=(match dG xs with
 | some ns=>if ns.length < 64 then some ((ST.srt ns).map .int) else none
 | none=>(aA5 xs).bind fun ks=>if ks.Nodup/\xs.length < 64 then some (tO ks xs) else none)
def nN:List W->aA->Option (List PyData×aA)
 | [w],h=>(match ref h w with
  | some (.list xs)=>(aA6 xs).map fun zs=>(zs,h)
  | some (.tuple xs)=>(aA6 xs).map fun zs=>(zs,h)
  | _=>none)
 | _,_=>none
noncomputable def gK (f:XR W) (δ:DSt) (i:Nat):List PyData->aA->Option (List PyData×aA)
 | [],h=>some ([],h)
 | x::xs,h=>(f (δ.set i (some (.d x))) h).bind fun p=>(match p.1 with
  | .d z=>(gK f δ i xs p.2).bind fun q=>some (z::q.1,q.2)
  | _=>none)
noncomputable def cL5:(kws:List Keyword)->Option {y:(Arg×Expr×Scope×Pos)×Bool // ∃ p1 r,kws=⟨some "key",.Lambda ⟨[],[y.1.1],none,[],[],none,[]⟩ y.1.2.1 y.1.2.2.1 y.1.2.2.2,p1⟩::r/\((y.2=false/\r=[])\/(y.2=true/\∃ j p3 p2,r=[⟨some "reverse",.Constant (.bool true) j p3,p2⟩]))}
 | [⟨some k1,.Lambda ⟨[],[a],none,[],[],none,[]⟩ body sc lp,p1⟩,⟨some k2,.Constant (.bool true) j p3,p2⟩]=>if h:k1="key"/\k2="reverse" then some ⟨((a,body,sc,lp),true),p1,[⟨some k2,.Constant (.bool true) j p3,p2⟩],by rw [h.1],.inr ⟨rfl,j,p3,p2,by rw [h.2]⟩⟩ else none
 | [⟨some k1,.Lambda ⟨[],[a],none,[],[],none,[]⟩ body sc lp,p1⟩]=>if h:k1="key" then some ⟨((a,body,sc,lp),false),p1,[],by rw [h],.inl ⟨rfl,rfl⟩⟩ else none
 | _=>none
def tP (kws:List Keyword):Option ((Arg×Expr×Scope×Pos)×Bool):=(cL5 kws).map (·.1)
def byK (b:Bool) (zs xs:List PyData):Option (List PyData):=if b=true then none else (dG zs).bind fun ks=>if ks.Nodup/\xs.length < 64 then some (tO ks xs) else none
noncomputable def atP (pos:Pos) (q:Pos×Str):Bool:=q.1.line==pos.line&&q.1.col==pos.col
def tQ (pos:Pos) (q:Str) (qs:List (Pos×Str)):Option (List (Pos×Str)):=match qs.find? (atP pos) with
 | some r=>if r.2=q then some qs else none
 | none=>some (qs++[(pos,q)])
def Sta.lam (sc:Scope):Sta:={ st with N:=iY sc,S:=sc,top:=false,qn:=none }
def aU3 (q:Str×Pos) (a:Arg) (sc:Scope) (lp:Pos):Bool:=decide (lp=q.2)&&(jD st.N sc st.S&&(!sc.isCoroutine&&(!sc.isGenerator&&decide (sc.names.lookup a.arg=some .local))))
def nO (b:Bool) (f:XR W) (ixs:List (Option Nat)) (i:Nat) (q:Str) (lp:Pos) (w:W):XR (List PyData):=fun δ h=>(match ref h w,(h[0]?:Option Cell) with
 | some (.list xs),some (.t ts)=>(tQ lp q ts).bind fun ts'=>(gK f (bW ixs δ) i xs (h.set 0 (.t ts'))).bind fun z=>(byK b z.1 xs).map fun r=>(r,z.2)
 | _,_=>none)
def aU4 (e:Expr) (kws:List Keyword):XR (List PyData):=match st.qn,tP kws with
 | some q,some ((a,body,sc,lp),r)=>if aU3 st q a sc lp=true then (match (iY sc).findIdx? (·==a.arg) with
  | some i=>xb (aX v st [e]) fun ws=>(match ws with
   | [w]=>nO r (v.E (st.lam sc) body) (fH st.N sc) i (q.1++"<lambda>") lp w
   | _=>xno)
  | none=>xno) else xno
 | _,_=>xno
def xPl (x:XR (List W)):XR (List PyData):=xb x fun ws=>fun _ h=>(match gM ws with
 | some xs=>if xs.length<=sizeLine then some (xs,h) else none
 | none=>none)
def okC (x:Str):Bool:=cV st x&&(slot st x).isNone&&st.bl.contains x
def cC (e:Expr):XR (List PyData):=match e with
 | .List es _=>xPl (aX v st es)
 | .ListComp elt [⟨tg,iter,ifs,a⟩] sc _=>if a=0 then mB v st elt tg iter ifs sc else xno
 | .BinOp a .Add b _=>xb (v.E st a) fun u=>xb (v.E st b) fun w=>fun _ h=>(match ref h u,ref h w with
  | some (.list xs),some (.list ys)=>if xs.length+ys.length<=sizeLine then some (xs++ys,h) else none
  | _,_=>none)
 | .BinOp (.List es p) .Mult b _=>xb (cA (xPl (aX v st es))) fun u=>xb (v.E st b) fun w=>fun _ h=>(match u,w with
  | .c i,.d (.int k)=>(match h[i]? with
   | some (.l xs)=>if -(2^63)<=k/\k < 2^63/\xs.length*k.toNat<=sizeLine then some ((List.replicate k.toNat xs).flatten,h) else none
   | _=>none)
  | _,_=>none)
 | .Call (.Name x _) (a::es) [] _=>if x="list" then (if cV st x&&(slot st x).isNone&&st.bl.contains x then xb (aX v st (a::es)) fun ws=>fun _ h=>(match ws with
  | [w]=>(match ref h w with
   | some (.list xs)=>some (xs,h)
   | some (.tuple xs)=>some (xs,h)
   | _=>none)
  | _=>none) else xno) else if x="sorted" then (if okC st x then xb (aX v st (a::es)) fun ws=>fun _ h=>nN ws h else xno) else xno
 | .Call (.Name x _) [a] (k::ks) _=>if x="sorted" then (if okC st x then aU4 v st a (k::ks) else xno) else xno
 | _=>xno
noncomputable def tS:Expr->Bool
 | .Slice _ _ _ _=>true
 | _=>false
noncomputable def nP:Expr->Bool
 | .Call _ _ _ _=>false
 | _=>true
noncomputable def tT (o:W) (ws:List W) (h:aA):Option (W×aA):=match o,ws with
 | .c j,[.d x]=>(match h[j]? with
  | some (.l xs)=>if xs.length < sizeLine then some (.d .none,h.set j (.l (xs++[x]))) else none
  | _=>none)
 | .c j,[.c k]=>(match h[j]? with
  | some (.r is)=>if is.length < sizeLine then some (.d .none,h.set j (.r (is++[.c k]))) else none
  | _=>none)
 | _,_=>none
def bI7 (m:Str):Option (W->List W->aA->Option (W×aA)) :=
 if m="append" then some tT
 else none
noncomputable def jT (m:Str) (w:W) (h:aA):Bool:=if m="append" then (match w with
  | .c j=>(match h[j]? with
   | some (.l _)=>true
   | some (.r _)=>true
   | _=>false)
  | _=>false) else true
def bD7 (o:Expr) (m:Str) (g:W->List W->aA->Option (W×aA)) (args:List Expr):XR W:=xb (v.E st o) fun w=>fun δ h=>if jT m w h=true then (aX v st args δ h).bind fun p=>g w p.1 p.2 else none
noncomputable def aH2 (w:W) (h:aA):Option (W×aA):=match w with
 | .c j=>(match h[j]? with
  | some (.l _)=>some (.d .none,h.set j (.l []))
  | _=>none)
 | _=>none
def bU2 (o:Expr):XR W:=xb (v.E st o) fun w=>fun _ h=>aH2 w h
noncomputable def bU3:(l:List Expr)->Option {y:Expr×Str // ∃ p,l=[y.1,.Name y.2 p]}
 | [e,.Name T p]=>some ⟨(e,T),p,rfl⟩
 | _=>none
def bI8 (args:List Expr):XR W:=match bU3 args with
 | some ⟨(e,T),_⟩=>if aI e&&cV st T&&(slot st T).isNone&&st.bl.contains T then (match aU2 T with
   | some Ts=>xb (v.E st e) fun w=>fun _ h=>(ref h w).bind fun d=>if noD d=true then some (.d (.bool (isi d Ts)),h) else none
   | none=>xno) else xno
 | none=>xno
def bI9 (o:Expr) (m:Str) (apos pos:Pos) (args:List Expr):XR W:=if nP o&&(apos.endLine==pos.line) then
   (match args with
    | []=>if m="clear" then bU2 v st o else xno
    | _::_=>if decide (args.length < 29) then (match bI7 m with
     | some g=>bD7 v st o m g args
     | none=>xno) else xno)
   else xno
def wF (x:Str) (args:List Expr):XR W:=match args with
 | []=>xno
 | _::_=>xb (xZ st x) fun w=>(match w with
  | .d (.dict kvs)=>(match kT kvs with
   | some g=>(match st.fn g with
    | some m=>xb (aX v st args) fun ws=>fun _ h=>(m ws h).bind fun p=>some (.d p.1,p.2)
    | none=>xno)
   | none=>xno)
  | _=>xno)
def yB (f:Expr) (args:List Expr) (pos:Pos):XR W:=match f with
 | .Name x _=>if cV st x&&(slot st x).isNone then
   (match st.ob.fnW x with
   | some m=>(match args with
     | []=>xno
     | _::_=>xb (aX v st args) fun ws=>fun _ h=>m ws h)
   | none=>match st.ob.cls x with
   | some _=>xno
   | none=>match st.fn x with
    | some m=>(match args with
     | []=>xno
     | _::_=>xb (aX v st args) fun ws=>fun _ h=>(m ws h).bind fun p=>some (.d p.1,p.2))
    | none=>if st.bl.contains x then
      (match bI3 st.hm x with
       | some g=>(match args with
        | []=>xno
        | _::_=>xb (aX v st args) fun ws=>fun _ h=>g ws h)
       | none=>if x="isinstance" then bI8 v st args
        else aO (cC v st (.Call f args [] pos)))
     else xno)
   else if (slot st x).isSome=true then wF v st x args else xno
 | .Attribute o m apos=>match st.ob.om m with
  | some _=>xno
  | none=>bI9 v st o m apos pos args
 | _=>xno
def xLS:List W->aA->Option (W×aA)
 | [.d (.tuple xs)],h=>(match dG xs with
  | some ns=>if ns.length<=62 then some (.d (.int (ST.dd ns).length),h) else none
  | none=>none)
 | [.d (.list xs)],h=>(match dG xs with
  | some ns=>if ns.length<=62 then some (.d (.int (ST.dd ns).length),h) else none
  | none=>none)
 | _,_=>none
def okB (x:Str):Bool:=cV st x&&(slot st x).isNone&&st.bl.contains x&&(st.fn x).isNone
noncomputable def fuS:(f:Expr)->(l:List Expr)->Option {a:Expr // ∃ p p2 q,f=.Name "len" p/\l=[.Call (.Name "set" p2) [a] [] q]}
 | .Name x p,[.Call (.Name y p2) [a] [] q]=>if h:x="len"/\y="set" then some ⟨a,p,p2,q,by rw [h.1],by rw [h.2]⟩ else none
 | _,_=>none
def aH3 (f:Expr) (args:List Expr) (pos:Pos):XR W:=match fuS f args with
 | some ⟨a,_⟩=>if okB st "len"&&okB st "set"&&aI a&&!st.hm then xb (aX v st [a]) fun ws=>fun _ h=>xLS ws h else xno
 | none=>yB v st f args pos
noncomputable def fJ (g:XG) (tt:XR Bool) (te:XR W) (co:aA->Bool):List W->DSt->aA->List W->Option (List W×aA)
 | [],_,h,ac=>if co h=true then some (ac,h) else none
 | x::r,δ,h,ac=>if co h=true then
   (g x δ h).bind fun p=>(tt p.1 p.2).bind fun q=>if q.1=true then
     (te p.1 q.2).bind fun y=>fJ g tt te co r p.1 y.2 (ac++[y.1])
    else fJ g tt te co r p.1 q.2 ac
  else none
noncomputable def wsC (j:Nat) (h:aA):Option (List W):=match h[j]? with
 | some (.l xs)=>some (xs.map .d)
 | some (.r ws)=>some ws
 | _=>none
def weq:W->W->Bool
 | .d x,.d y=>peq x y
 | .c i,.c j=>i==j
 | _,_=>false
def aA7:List W->List W->Bool
 | [],[]=>true
 | x::a,y::b=>weq x y&&aA7 a b
 | _,_=>false
def coW (j:Nat) (ws:List W) (h:aA):Bool:=match wsC j h with
 | some us=>aA7 us ws
 | none=>false
def rG (elt tg iter:Expr) (ifs:List Expr) (sc:Scope):XR W :=
 if jD st.N sc st.S&&!gF iter then xb (v.E st iter) fun w=>fun δ h=>(match w with
  | .c j=>(wsC j h).bind fun ws=>(fJ (v.G (st.blk sc) tg) (aH1 v (st.blk sc) ifs) (v.E (st.blk sc) elt) (coW j ws) ws (bW (fH st.N sc) δ) h []).bind fun q=>some (.c q.2.length,q.2++[.r q.1])
  | _=>none) else xno
noncomputable def gS (st:Sta):(gs:List Comprehension)->Option {y:Expr×Expr×List Expr // gs=[⟨y.1,y.2.1,y.2.2,0⟩]}
 | [⟨tg,.Name x p,ifs,a⟩]=>if h:a=0/\st.cv.contains (x++"[]")=true then some ⟨(tg,.Name x p,ifs),by rw [h.1]⟩ else none
 | _=>none
def gW (gs:List Comprehension):Option (Expr×Expr×List Expr):=(gS st gs).map (·.1)
def yC (e:Expr):XR W:=match e with
 | .Name x _=>xZ st x
 | .Constant c _ _=>aG8 c
 | .BinOp a op b _=>(match a,op with
  | .List es p,.Mult=>aO (cC v st (.BinOp (.List es p) .Mult b p))
  | _,_=>xb (v.E st a) fun u=>xb (v.E st b) fun w=>fun _ h=>hV op u w h)
 | .Compare a ops cs _=>bH (kW v st a ops cs)
 | .BoolOp .And vs _=>aG9 v st vs
 | .BoolOp .Or vs _=>bI4 v st vs
 | .UnaryOp .Not a _=>xb (v.E st a) fun w=>(match w with
  | .d (.bool b)=>aD (.d (.bool (!b)))
  | _=>xno)
 | .UnaryOp .USub a _=>xb (v.E st a) fun w=>(match w with
  | .d (.int i)=>aD (.d (.int (-i)))
  | _=>xno)
 | .IfExp c a b _=>xb (v.T st c) fun t=>if t=true then v.E st a else v.E st b
 | .Tuple es _ _=>xb (xPl (aX v st es)) fun xs=>aD (.d (.tuple xs))
 | .List es p=>aO (cC v st (.List es p))
 | .ListComp elt gs sc p=>(match gW st gs with
  | some (tg,iter,ifs)=>rG v st elt tg iter ifs sc
  | none=>aO (cC v st (.ListComp elt gs sc p)))
 | .Subscript a s _=>(match s with
  | .Slice lo hi none _=>xb (v.E st a) fun x=>xb (wE v st lo) fun l=>xb (wE v st hi) fun u=>fun _ h=>xSl x l u h
  | _=>if tS s=true then xno else (match jS st a with
   | some f=>xb (v.E st s) fun w=>(match w with
    | .d (.str z)=>(match f z with
     | some i=>aD (.d i)
     | none=>xno)
    | _=>xno)
   | none=>xb (v.E st a) fun x=>xb (v.E st s) fun y=>fun _ h=>xIx x y h))
 | .Call f args [] p=>aH3 v st f args p
 | .Call f args (k::ks) p=>aO (cC v st (.Call f args (k::ks) p))
 | .Dict [] [] _=>aD (.d (.dict []))
 | _=>xno
def bD8 (e:Expr):XR Bool:=match e with
 | .UnaryOp .Not a _=>xb (v.T st a) fun b=>aD (!b)
 | .BoolOp .And vs _=>aH0 v st vs
 | .BoolOp .Or vs _=>bI5 v st vs
 | .Compare a ops cs _=>gE v st a ops cs
 | .IfExp _ _ _ _=>xno
 | _=>xb (v.E st e) fun w=>(match w with
  | .d (.bool b)=>aD b
  | _=>xno)
noncomputable def nQ:List Expr->List XG
 | []=>[]
 | e::es=>v.G st e::nQ es
def kX (j:Nat) (y x:PyData) (δ:DSt) (h:aA):Option (DSt×aA):=match h[j]?,y with
   | some (.l xs),.int k=>(ixN xs.length k).map fun n=>(δ,h.set j (.l (xs.set n x)))
   | some (.r ws),.int k=>(ixN ws.length k).map fun n=>(δ,h.set j (.r (ws.set n (.d x))))
   | _,_=>none
def tU (j:Nat) (y:PyData) (i:Nat) (δ:DSt) (h:aA):Option (DSt×aA):=match h[j]?,y with
   | some (.l xs),.int k=>(ixN xs.length k).map fun n=>(δ,h.set j (.r ((xs.map .d).set n (.c i))))
   | some (.r ws),.int k=>(ixN ws.length k).map fun n=>(δ,h.set j (.r (ws.set n (.c i))))
   | _,_=>none
def tV (e:Expr):XG:=match e with
 | .Name x _=>(match slot st x with
  | some i=>if rF st.S x&&(st.top||dH st.S x) then fun w δ h=>some (δ.set i (some w),h) else fun _ _ _=>none
  | none=>fun _ _ _=>none)
 | .Tuple es _ _=>if es.all aI=true then aR (nQ v st es) else fun _ _ _=>none
 | .Subscript o i _=>if tS i=true then fun _ _ _=>none else fun w δ h=>(v.E st o δ h).bind fun p=>(v.E st i δ p.2).bind fun q=>(match p.1,q.1,w with
  | .c j,.d y,.d x=>kX j y x δ q.2
  | .c j,.d y,.c i=>tU j y i δ q.2
  | _,_,_=>none)
 | _=>fun _ _ _=>none
noncomputable def cvS (st:Sta) (tg e:Expr):Bool:=match tg,e with
 | .Subscript (.Name x _) _ _,.List _ _=>st.cv.contains (x++"[]")
 | _,_=>false
noncomputable def jN:Expr->Bool
 | .ListComp _ _ _ _=>true
 | .SetComp _ _ _ _=>true
 | .DictComp _ _ _ _ _=>true
 | _=>false
def aU5 (e tg:Expr):Bool:=yA e&&(match tg with
 | .Tuple _ _ _=>true
 | .List _ _=>true
 | _=>false)
noncomputable def xSs:List Stmt->XS
 | [],δ,h=>some (.nx δ,h)
 | s::r,δ,h=>(v.S st s δ h).bind fun p=>(match p.1 with
  | .nx δ'=>xSs r δ' p.2
  | f=>some (f,p.2))
noncomputable def wfC:Expr->Bool
 | .Call (.Name f _) _ [] _=>(st.ob.fnW f).isSome
 | _=>false
def bU4 (e:Expr):XR W:=cA (v.F st e)
noncomputable def aQ (i:Nat) (x:XR W):XS:=fun δ h=>(x δ h).bind fun p=>some (.nx (δ.set i (some p.1)),p.2)
def swB (e:Expr) (x:Str) (px:Pos):Bool:=match e with
 | .ListComp _ _ sc p=>dH st.S x&&(px.line==p.line)&&!(sc.names.any fun (n,k)=>n==x&&(k==.local||k==.cell))
 | _=>false
def tW (s:Stmt):XS:=match s with
 | .Return (some e) _=>fun δ h=>((if st.cv.contains "return"=true then bU4 v st e else v.E st e) δ h).bind fun p=>some (.rt p.1,p.2)
 | .If c a b _=>fun δ h=>(v.T st c δ h).bind fun p=>if p.1=true then xSs v st a δ p.2 else xSs v st b δ p.2
 | .Expr e _=>if jN e=true then fun _ _=>none else fun δ h=>(v.E st e δ h).bind fun p=>some (.nx δ,p.2)
 | .Pass _=>fun δ h=>some (.nx δ,h)
 | .Break _=>fun δ h=>some (.bk δ,h)
 | .Continue _=>fun δ h=>some (.ct δ,h)
 | .For tg iter body [] _=>if gF iter=true then fun _ _=>none else fun δ h=>(gG v st tg iter δ h).bind fun p=>bQ (v.G st tg) (xSs v st body) p.1.2 p.1.1 p.1.1 δ p.2
 | .Assign [.Name x px] e _=>(match slot st x with
  | some i=>if rF st.S x&&(st.top||dH st.S x) then
    (if jN e=true then (if (swB st e x px||!(dH st.S x))=true then aQ i (if st.cv.contains x=true then cA (cC v st e) else aO (cC v st e)) else fun _ _=>none)
    else if (st.cv.contains x&&!(cL4 e||wfC st e))=true then aQ i (cA (v.F st e)) else aQ i (v.E st e))
   else fun _ _=>none
  | none=>fun _ _=>none)
 | .Assign [.Attribute o f _] e _=>fun _ _=>none
 | .Assign [tg] e _=>if (jN e||aU5 e tg||!(aI tg))=true then fun _ _=>none else fun δ h=>((if cvS st tg e=true then cA (v.F st e) else v.E st e) δ h).bind fun p=>(v.G st tg p.1 δ p.2).bind fun q=>some (.nx q.1,q.2)
 | _=>fun _ _=>none
end
def step (v:Evs):Evs:=⟨yC v,bD8 v,cC v,tV v,tW v⟩
def evs:Nat->Evs
 | 0=>.no
 | n+1=>step (evs n)

def parsOf (s:Stmt):List Str:=(cM s).args.map (·.arg)
def aZ (s:Stmt):List Str:=parsOf s++((defScope s).names.filter fun p=>(p.2==.local||p.2==.cell)&&!((parsOf s).contains p.1)).map (·.1)
def fnB (s:Stmt):Bool:=decide ((defScope s).kind=.function)&&(!(defScope s).isCoroutine&&(!(defScope s).isGenerator&&(decide (aZ s).Nodup&&(((parsOf s).all fun x=>rF (defScope s) x)&&((defScope s).names.all fun y=>!(y.2==.free))))))
open Classical in
noncomputable def ends (h0:aA) (p:Fl×aA):Option (PyData×aA):=if okP h0 p.2 then (match p.1 with
 | .nx _=>some (.none,p.2.take h0.length)
 | .rt (.d z)=>some (z,p.2.take h0.length)
 | .rt (.c i)=>(match p.2[i]? with
  | some (.l xs)=>if h0.length<=i then some (.list xs,p.2.take h0.length) else none
  | some (.k kvs)=>if h0.length<=i then some (.dict kvs,p.2.take h0.length) else none
  | _=>none)
 | _=>none) else none
noncomputable def jE (p:Fl×aA):Option (W×aA):=match p.1 with
 | .nx _=>some (.d .none,p.2)
 | .rt w=>some (w,p.2)
 | _=>none
structure Top where
 bl:List Str
 gc:Str->Option PyData
 tk:Str->Option (Str->Option PyData)
 defs:Str->Option Stmt
 ac:Str->List Nat
 cv:Str->List Str
 fuel:Nat
 deep:Nat
 wf:Str->Bool
 ini:Str->Option (Addr×Stmt)
 mt:Str->Option (Addr×Stmt)
 fo:Addr->Str->Bool
 qn:Str->Option (Str×Pos)
 hm:Bool:=false
def Top.sta (t:Top) (fn:Str->Option XF) (ob:ObS) (x:Str) (s:Stmt):Sta:=⟨t.bl,t.gc,t.tk,fn,t.ac,t.cv x,aZ s,defScope s,true,t.fuel,ob,t.qn x,t.hm⟩
def tX (t:Top) (fn:Str->Option XF) (ob:ObS) (x:Str) (s:Stmt):XF:=fun ws h =>
 if fnB s=true/\ws.length=(parsOf s).length then (xSs (evs t.deep) (t.sta fn ob x s) (aN s) (cH (aZ s) ws) h).bind (ends h) else none
def jF (t:Top) (fn:Str->Option XF) (ob:ObS) (x:Str) (s:Stmt):XFW:=fun ws h =>
 if fnB s=true/\ws.length=(parsOf s).length then (xSs (evs t.deep) (t.sta fn ob x s) (aN s) (cH (aZ s) ws) h).bind jE else none
abbrev fnT (t:Top) (D:Str->XF):Str->Option XF:=fun y=>(t.defs y).map fun _=>D y
abbrev obT (t:Top) (W I M:Str->XFW):ObS:=⟨fun y=>if t.wf y=true then (t.defs y).map fun _=>W y else none,fun y=>(t.ini y).map fun p=>(p.1,I y),fun y=>(t.mt y).map fun p=>(p.1,M y),t.fo⟩
mutual
noncomputable def aE (t:Top):Nat->Str->XF
 | 0,_=>fun _ _=>none
 | d+1,x=>(match t.defs x with
  | some s=>tX t (fnT t fun y=>aE t d y) (obT t (fun y=>callW t d y) (fun y=>callI t d y) fun y=>callM t d y) x s
  | none=>fun _ _=>none)
noncomputable def callW (t:Top):Nat->Str->XFW
 | 0,_=>fun _ _=>none
 | d+1,x=>(match t.defs x with
  | some s=>jF t (fnT t fun y=>aE t d y) (obT t (fun y=>callW t d y) (fun y=>callI t d y) fun y=>callM t d y) x s
  | none=>fun _ _=>none)
noncomputable def callM (t:Top):Nat->Str->XFW
 | 0,_=>fun _ _=>none
 | d+1,x=>(match t.mt x with
  | some (_,s)=>jF t (fnT t fun y=>aE t d y) (obT t (fun y=>callW t d y) (fun y=>callI t d y) fun y=>callM t d y) x s
  | none=>fun _ _=>none)
noncomputable def callI (t:Top):Nat->Str->XFW
 | 0,_=>fun _ _=>none
 | 1,_=>fun _ _=>none
 | d+2,x=>(match t.ini x with
  | some (_,s)=>jF t (fnT t fun y=>aE t d y) (obT t (fun y=>callW t d y) (fun y=>callI t d y) fun y=>callM t d y) x s
  | none=>fun _ _=>none)
end
end CI

namespace CI
def bind_some {α β:Type} {x:Option α} {f:α->Option β} {b:β} (e:x.bind f=some b):∃ a,x=some a/\f a=some b:=Option.bind_eq_some_iff.mp e
def map_some {α β:Type} {x:Option α} {f:α->β} {b:β} (e:x.map f=some b):∃ a,x=some a/\f a=b:=Option.map_eq_some_iff.mp e
def aG {α:Type} {c:Prop} [Decidable c] {x:Option α} {b:α} (e:(if c then x else none)=some b):c/\x=some b:=by
 by_cases h:c
 ·rw [if_pos h] at e;exact ⟨h,e⟩
 ·rw [if_neg h] at e;cases e
end CI
namespace DL
open PySem PySem.Spec PyProof.Rows L2 CI
def thn {α:Type} {t:Sem α} {Q Q':α->Shared->Prop} {M:Model} {A:Around} {E:Value->Shared->Prop} {s:Shared} (h:wpAny M A t Q E s) (hQ:∀ a s,Q a s->Q' a s):wpAny M A t Q' E s:=wpAny_mono h hQ fun _ _ x=>x
abbrev Wp (S:Sx) (A:Around) {α:Type} (t:Sem α) (Q:α->Shared->Prop) (E:Value->Shared->Prop) (s:Shared):Prop:=wpAny (model S.P S.w) A t Q E s
def Pw (S:Sx) (κ:Kp) (M:Mp) (h:aA) (w:W) (u:Value) (s:Shared):Prop:=∃ M',Le M M'/\Mem S κ M' h s/\RepW S M' w u
def Pf (S:Sx) (κ:Kp) (M:Mp) (h:aA) (xs:List PyData) (u:Value) (s:Shared):Prop :=
 ∃ M',Le M M'/\Mem S κ M' h s/\∃ a us n,u=.ref a/\s.heap.get? a=some (bC us n)/\aU κ M' a/\us.length<=sizeLine/\Reps' S M' xs us
def Hk (A:Around) (M:Mp):Prop:=A.handled=none\/∃ b ob ws,A.handled=some (.ref b)/\M.Z b=some ob/\ob.data=.fields ws/\ws[2]?=some .none
def Hk.go {A:Around} {M M':Mp} (H:Hk A M) (l:Le M M'):Hk A M':=H.imp id fun ⟨b,ob,ws,h1,h2,h3⟩=>⟨b,ob,ws,h1,l.z _ _ h2,h3⟩
def Hk.at {S:Sx} {κ:Kp} {A:Around} {M:Mp} {h:aA} {s:Shared} (H:Hk A M) (R:Mem S κ M h s):HkA A s.heap:=H.imp id fun ⟨b,ob,ws,h1,h2,h3⟩=>⟨b,ob,ws,h1,R.z _ _ h2,h3⟩
def Hk.eq {A A1:Around} {M:Mp} (H:Hk A M) (e:A1.handled=A.handled):Hk A1 M:=H.imp e.trans fun ⟨b,ob,ws,h1,h2⟩=>⟨b,ob,ws,e.trans h1,h2⟩
structure Room (S:Sx) (k:Nat) (A:Around):Prop where
 hd:S.hm=false->A.handled=none
 dp:A.depth+3*k+5 < recursionLimit
 un:A.units+16*k+200 < cLine
section
variable {S:Sx} {κ:Kp} {M:Mp} {h h':aA} {s:Shared} {A:Around} {E:Value->Shared->Prop} {x y w:W} {u v:Value} {d:Nat}
def wi {i:Int}:RepW S M (.d (.int i)) u ↔ ∃ t,u=.int i t:=rep_i (S:=S) (Z:=M.Z)
def wb {i:Bool}:RepW S M (.d (.bool i)) u ↔ u=.bool i:=rep_b (S:=S) (Z:=M.Z)
def wn:RepW S M (.d .none) u ↔ u=.none:=rep_n (S:=S) (Z:=M.Z)
def Pw.go {M':Mp} (l:Le M M') (p:Pw S κ M' h w u s):Pw S κ M h w u s:=let ⟨N,a,b⟩:=p;⟨N,l.trans a,b⟩
def Mem.pw (R:Mem S κ M h s) (r:RepW S M w u):Pw S κ M h w u s:=⟨M,.refl,R,r⟩
def Mem.pi (R:Mem S κ M h s) {i:Int} {t t':Nat}:Pw S κ M h (.d (.int i)) (.int i t) { s with toks:=t' }:=(R.tok t').pw (wi.mpr ⟨_,rfl⟩)
def Mem.pb (R:Mem S κ M h s) {b:Bool}:Pw S κ M h (.d (.bool b)) (.bool b) s:=R.pw (wb.mpr rfl)
def Mem.pn (R:Mem S κ M h s):Pw S κ M h (.d .none) .none s:=R.pw (wn.mpr rfl)
def rH {xs:List PyData} (p:Pf S κ M h xs u s):Pw S κ M h (.d (.list xs)) u s:=by
 obtain ⟨N,l,R,a,us,n,rfl,e,f,z,r⟩:=p;exact ⟨N.add a (bC us n),l.trans (.add f.1),R.frz f e,rep_l.mpr ⟨a,_,us,rfl,gY,⟨⟨n,rfl⟩,z⟩,r.go (.add f.1)⟩⟩
def aH4 {xs:List PyData} (p:Pf S κ M h xs u s):Pw S κ M (h++[.l xs]) (.c h.length) u s:=by
 obtain ⟨N,l,R,a,us,n,rfl,e,f,z,r⟩:=p;exact ⟨N.cel (a,a),l.trans .cel,R.add f f ⟨⟨_,e⟩,_,e⟩ ⟨us,n,e,z,r.go .cel⟩,(a,a),by show (N.m++[(a,a)])[h.length]?=_;rw [<- R.len];simp,rfl⟩
def Mem.tup {xs:List PyData} {us:List Value} {t:Nat} (R:Mem S κ M h s) (r:Reps' S M xs us) (z:us.length<=sizeLine):Pw S κ M h (.d (.tuple xs)) (.ref s.heap.objs.size) { s with heap:=s.heap.push { cls:=.type "tuple",data:=.seq us.toArray },toks:=t }:=by
 have R1:Mem S κ M h { s with heap:=s.heap.push { cls:=.type "tuple",data:=.seq us.toArray },toks:=t }:=R.kept fun b o e=>Heap.get?_push_of_some _ e;exact ⟨_,.add R.size.1,R1.frz R.size (Heap.get?_push_size _ rfl),rep_t.mpr ⟨_,_,us,rfl,gY,⟨⟨_,rfl⟩,z⟩,r.go (.add R.size.1)⟩⟩
def Mem.lst {h2:Heap} {xs:List PyData} {us:List Value} {n t:Nat} (R:Mem S κ M h s) (k:∀ b o,s.heap.get? b=some o->h2.get? b=some o) (e:h2.get? s.heap.objs.size=some (bC us n)) (r:Reps' S M xs us) (z:us.length<=sizeLine) :
  Pf S κ M h xs (.ref s.heap.objs.size) { s with heap:=h2,toks:=t }:=⟨M,.refl,R.kept k,_,us,n,rfl,e,R.size,z,r⟩
def Mem.lstP {xs:List PyData} {us:List Value} {n t:Nat} (R:Mem S κ M h s) (r:Reps' S M xs us) (z:us.length<=sizeLine):Pf S κ M h xs (.ref s.heap.objs.size) { s with heap:=s.heap.push (bC us n),toks:=t } :=
 R.lst (fun b o e=>Heap.get?_push_of_some _ e) (Heap.get?_push_size _ rfl) r z
def dQ {xs:List PyData} (R:Mem S κ M h s) (r:RepW S M w u) (e:ref h w=some (.list xs)):∃ a us n,u=.ref a/\s.heap.get? a=some (bC us n)/\us.length<=sizeLine/\Reps' S M xs us:=by
 cases w with
 | d y =>
  cases e;obtain ⟨a,o,us,e,z,⟨⟨n,rfl⟩,l⟩,r⟩:=rep_l.mp (show Rep S M.Z (.list xs) u from r);exact ⟨a,us,n,e,R.z a _ z,l,r⟩
 | c i =>
  obtain ⟨p,e1,rfl⟩:=r;dsimp only [DL.ref] at e;cases q:h[i]? with
  | none=>rw [q] at e;cases e
  | some c =>
   cases c with
   | l ys=>rw [q] at e;cases e;obtain ⟨us,n,a,b,c⟩:=R.cel i p _ e1 q;exact ⟨_,us,n,rfl,a,b,c⟩
   | _=>rw [q] at e;cases e
def hH {xs:List PyData} (R:Mem S κ M h s) (r:RepW S M w u) (e:ref h w=some (.tuple xs)):∃ a us n,u=.ref a/\M.Z a=some { cls:=.type "tuple",data:=.seq us.toArray n }/\us.length<=sizeLine/\Reps' S M xs us:=by
 cases w with
 | d y =>
  cases e;obtain ⟨a,o,us,e,z,⟨⟨n,rfl⟩,l⟩,r⟩:=rep_t.mp (show Rep S M.Z (.tuple xs) u from r);exact ⟨a,us,n,e,z,l,r⟩
 | c i =>
  dsimp only [DL.ref] at e;cases q:h[i]? with
  | none=>rw [q] at e;cases e
  | some c=>cases c<;>(rw [q] at e;cases e)
def bU5 {kvs:List (PyData×PyData)} (R:Mem S κ M h s) (r:RepW S M w u) (hf:kT kvs=none) (e:ref h w=some (.dict kvs)):∃ a vs,u=.ref a/\s.heap.DictOf (mX S.P S.w) a vs/\RepK S M.Z kvs vs/\(a==sysModules)=false/\vs.length<=sizeLine:=by
 cases w with
 | d y =>
  cases e;obtain ⟨a,o,vs,e,z,q,r⟩:=(aF3 hf).mp (show Rep S M.Z (.dict kvs) u from r);exact ⟨a,vs,e,q.2.2 _ (R.z a o z),r,q.1,q.2.1⟩
 | c i =>
  obtain ⟨p,e1,rfl⟩:=r;dsimp only [DL.ref] at e;cases q:h[i]? with
  | none=>rw [q] at e;cases e
  | some c =>
   cases c with
   | k ys=>rw [q] at e;cases e;obtain ⟨vs,a,b,c⟩:=R.cel i p _ e1 q;exact ⟨_,vs,rfl,a,b,c⟩
   | _=>rw [q] at e;cases e
def cD {a:Addr} {us:List Value} {n:Nat} (e:s.heap.get? a=some (bC us n)):PlainL s.heap a us.toArray:=⟨_,n,e,rfl,rfl,rfl⟩
def hO {hp:Heap} {a:Addr} {us:List Value} {n:Nat} (e:hp.get? a=some { cls:=.type "tuple",data:=.seq us.toArray n }):IsTup hp a us.toArray:=⟨_,e,rfl,n,rfl⟩
def tY {x:W} {d:PyData} (R:Mem S κ M h s) (r:RepW S M x u) (e:ref h x=some d) (p:aK 64 d=true):(∃ as,Reads s.heap u d as)/\SeqAt.shaped d=true:=by
 have go:(∃ as,Reads s.heap u d as)/\d.canLay0=true/\d.depth<=64:=by
  cases x with
  | d y=>cases e;exact Rep.reads R.z 64 r p
  | c i =>
   cases d with
   | list xs =>
    obtain ⟨a,us,n,rfl,ho,_,rr⟩:=dQ R r e;obtain ⟨⟨as,q⟩,c,l⟩:=Reps.reads R.z 63 (reps_iff.mpr rr) (by simpa [aK] using p);exact ⟨⟨_,Reads.list ho rfl rfl (by simpa using q)⟩,by simp [PyData.canLay0,PyData.depth,c,l]⟩
   | dict _=>simp [aK] at p
   | _ =>
    dsimp only [DL.ref] at e;cases q:h[i]? with
    | none=>rw [q] at e;cases e
    | some c=>cases c<;>(rw [q] at e;cases e)
 exact ⟨go.1,by unfold SeqAt.shaped;rw [go.2.1];simpa using go.2.2⟩
def bJ0 {j:Int} (h:cP j=true):0 < j/\j.natAbs.log2 < 9000:=by
 unfold cP at h;simp only [Bool.and_eq_true,Bool.or_eq_true,decide_eq_true_eq] at h;refine ⟨h.1,?_⟩;rcases h.2 with z | z
 ·have h0:j.natAbs≠0:=by omega
  have:=(Nat.log2_lt h0 (k:=30)).mpr (by omega);omega
 ·omega
def wG (k:Nat):(0:Int)<=2^k:=by rw [two_pow_cast];exact Int.natCast_nonneg _
def bJ1 {i j:Int} (h:gZ i j=true):IntMulOk i j:=by
 unfold gZ at h;simp only [Bool.and_eq_true,Bool.or_eq_true,decide_eq_true_eq] at h;rcases h with ⟨h1,h2⟩ | ⟨h1,h2⟩
 ·exact .of_left (intBits_le_64 h1 h2)
 ·exact .of_right (intBits_le_64 h1 h2)
def bJ2 (R:Mem S κ M h s) (ra:RepW S M x u) (rb:RepW S M y v) (e:bI1 x y h=some (w,h')):Wp S A (binaryOp .Add u v) (Pw S κ M h' w) E s:=by
 unfold bI1 at e;split at e
 ·cases e;obtain ⟨t,rfl⟩:=wi.mp ra;obtain ⟨t',rfl⟩:=wi.mp rb;exact add_int R.pi
 ·obtain ⟨hz,e⟩:=aG e;cases e;obtain ⟨a,us,n,rfl,ea,la,ra'⟩:=hH (h:=h) R ra rfl;obtain ⟨b,vs,m,rfl,eb,lb,rb'⟩:=hH (h:=h) R rb rfl;have l1:=ra'.length;have l2:=rb'.length
  by_cases e1:us=[]
  ·subst e1;cases ra';refine concat_meets ⟨_,R.z _ _ ea,rfl⟩ ⟨_,R.z _ _ eb,rfl⟩ noFill_tuple_add seq_tuple_add PySem.F.slot_tuple_add PySem.F.entry_tuple_add (PySem.F.args_tuple_add_2 _ _) (tuple_addW0 a b _ _ n m none none #[] #[] rfl) ⟨R.z _ _ ea,R.z _ _ eb,?_⟩;exact R.pw rb
  ·refine HT.cat_tup (hO (R.z _ _ ea)) (hO (R.z _ _ eb)) e1 (fun z=>?_) (fun _=>?_) (by omega)
   ·subst z;cases rb';rw [List.append_nil];exact R.pw ra
   ·exact R.tup (t:=s.toks) (zW ra' rb') (by rw [List.length_append];omega)
 ·split at e
  ·rename_i ha hb;obtain ⟨hz,e⟩:=aG e;cases e;obtain ⟨a,us,n,rfl,ea,la,ra'⟩:=dQ R ra ha;obtain ⟨b,vs,m,rfl,eb,lb,rb'⟩:=dQ R rb hb;have l1:=ra'.length;have l2:=rb'.length;refine PySem.P.add_list ea eb ?_ (by rw [List.size_toArray,List.size_toArray];omega);have ea:us.toArray++vs.toArray=(us++vs).toArray:=by simp
   rw [ea];exact rH (R.lstP (t:=s.toks) (zW ra' rb') (by rw [List.length_append];omega))
  ·cases e
theorem qB (its:List Value):∀ (k:Nat) (acc:List Value),List.foldl (fun x1 x2=>x1++x2) acc.toArray (List.replicate k its.toArray)=(acc++(List.replicate k its).flatten).toArray
 | 0,acc=>by simp
 | k+1,acc=>by
  have e:acc.toArray++its.toArray=(acc++its).toArray:=by simp
  have e2:(acc++its)++(List.replicate k its).flatten=acc++(List.replicate (k+1) its).flatten:=by
   rw [List.replicate_succ,List.flatten_cons,List.append_assoc]
  rw [<- e2,<- qB its k (acc++its),<- e,List.replicate_succ,List.foldl_cons]
def aU6 {α:Type} (xs:List α) (k:Nat):(List.replicate k xs).flatten.length=k*xs.length:=by
 induction k with
 | zero=>simp
 | succ k ih=>rw [List.replicate_succ,List.flatten_cons,List.length_append,ih,Nat.succ_mul,Nat.add_comm]
theorem bU6 {S:Sx} {M:Mp} {xs:List PyData} {us:List Value} (r:Reps' S M xs us):∀ k,Reps' S M (List.replicate k xs).flatten (List.replicate k us).flatten
 | 0=>.nil
 | k+1=>by rw [List.replicate_succ,List.replicate_succ,List.flatten_cons,List.flatten_cons];exact zW r (bU6 r k)
def bin_ok {op:Operator} (R:Mem S κ M h s) (ra:RepW S M x u) (rb:RepW S M y v) (e:hV op x y h=some (w,h')):Wp S A (binaryOp op u v) (Pw S κ M h' w) E s:=by
 unfold hV at e;split at e
 ·exact bJ2 R ra rb e
 ·unfold bU1 at e;split at e
  ·obtain ⟨hm,e⟩:=aG e;cases e;obtain ⟨t,rfl⟩:=wi.mp ra;obtain ⟨t',rfl⟩:=wi.mp rb;exact mul_int R.pi (bJ1 hm)
  ·cases e
 ·split at e
  ·rename_i i j;obtain ⟨t,rfl⟩:=wi.mp ra;obtain ⟨t',rfl⟩:=wi.mp rb;split at e
   ·cases e;exact sub_int R.pi
   ·obtain ⟨hm,e⟩:=aG e;cases e;obtain ⟨h1,h2⟩:=bJ0 hm;exact floordiv_int (by omega) (by rw [Int.fdiv_eq_ediv_of_nonneg i (by omega)];exact R.pi) (.inl (PyProof.noPylong_of_log2 h2))
   ·obtain ⟨hm,e⟩:=aG e;cases e;exact mod_int' (by omega) (by rw [Int.fmod_eq_emod_of_nonneg i (by omega)];exact R.pi)
   ·obtain ⟨hm,e⟩:=aG e;cases e;unfold lY at hm;simp only [Bool.and_eq_true,decide_eq_true_eq] at hm;exact pow_int_small hm.1 hm.2.1 hm.2.2 R.pi
   ·obtain ⟨hm,e⟩:=aG e;cases e;exact rshift_int hm (by rw [Int.fdiv_eq_ediv_of_nonneg i (wG _)];exact R.pi)
   ·cases e
  ·cases e
def bJ3 {i:Int} (R:Mem S κ M h s) (ra:RepW S M (.d (.int i)) u):Wp S A (unaryOp .USub u) (Pw S κ M h (.d (.int (-i)))) E s:=by
 obtain ⟨t,rfl⟩:=wi.mp ra;exact neg_int R.pi
def nR {Z:Zm} {a b:PyData} {k:Bool} (ra:Rep S Z a u) (rb:Rep S Z b v) (e:isSame a b=some k):plainIs u v=true/\(u==v)=k:=by
 cases b with
 | none =>
  rw [Rep] at rb;subst rb;cases a with
  | none=>rw [Rep] at ra;subst ra;cases e;exact ⟨rfl,rfl⟩
  | bool c=>rw [Rep] at ra;subst ra;cases e;exact ⟨rfl,rfl⟩
  | int c=>rw [Rep] at ra;obtain ⟨t,rfl⟩:=ra;cases e;exact ⟨rfl,rfl⟩
  | str c=>rw [Rep] at ra;obtain ⟨⟨t,rfl⟩,_⟩:=ra;cases e;exact ⟨rfl,rfl⟩
  | list c=>rw [Rep] at ra;obtain ⟨p,o,vs,rfl,_⟩:=ra;cases e;exact ⟨rfl,rfl⟩
  | tuple c=>rw [Rep] at ra;obtain ⟨p,o,vs,rfl,_⟩:=ra;cases e;exact ⟨rfl,rfl⟩
  | dict c=>cases e
 | bool b =>
  rw [Rep] at rb;subst rb;cases a with
  | none=>rw [Rep] at ra;subst ra;cases e;exact ⟨rfl,rfl⟩
  | bool c=>rw [Rep] at ra;subst ra;cases e;cases b<;>cases c<;>exact ⟨rfl,rfl⟩
  | int c=>rw [Rep] at ra;obtain ⟨t,rfl⟩:=ra;cases e;exact ⟨rfl,rfl⟩
  | str c=>rw [Rep] at ra;obtain ⟨⟨t,rfl⟩,_⟩:=ra;cases e;exact ⟨rfl,rfl⟩
  | list c=>rw [Rep] at ra;obtain ⟨p,o,vs,rfl,_⟩:=ra;cases e;exact ⟨rfl,rfl⟩
  | tuple c=>rw [Rep] at ra;obtain ⟨p,o,vs,rfl,_⟩:=ra;cases e;exact ⟨rfl,rfl⟩
  | dict c=>cases e
 | _=>cases a<;>cases e
end
end DL

namespace DL
open PySem PySem.Spec PyProof.Rows L2 CI
section
variable {S:Sx} {κ:Kp} {M:Mp} {h h':aA} {s:Shared} {A:Around} {E:Value->Shared->Prop} {x y w:W} {u v:Value} {d:Nat} {b:Bool}
def Room.mono {j k:Nat} (r:Room S k A) (h:j<=k):Room S j A:=⟨r.hd,by have:=r.dp;omega,by have:=r.un;omega⟩
def Room.u64 (r:Room S d A):A.units+64 < cLine:=by have:=r.un;omega
def Room.u65 (r:Room S d A):A.units+65 < cLine:=by have:=r.un;omega
def bD9 {neg:Bool} (hr:Room S d A) (R:Mem S κ M h s) (ra:RepW S M x u) (rb:RepW S M y v) (e:xIn x y h=some b):Wp S A (compareOp (if neg then .NotIn else .In) u v) (Pw S κ M h (.d (.bool (neg ^^ b)))) E s:=by
 unfold xIn at e;split at e
 ·rename_i z xs ea eb;obtain ⟨hp,e⟩:=aG e;cases e;rw [Bool.and_eq_true] at hp;obtain ⟨⟨bs,z2⟩,q2⟩:=tY R rb eb hp.1;obtain ⟨⟨as,z1⟩,q1⟩:=tY R ra ea hp.2;cases neg
  ·exact SeqAt.in_list_reads z2 z1 (SeqAt.canLay_of_shaped q2) (SeqAt.canLay_of_shaped q1) (room_in_shaped q1 hr.u65) (by simpa using R.pb)
  ·exact SeqAt.notIn_list_reads z2 z1 (SeqAt.canLay_of_shaped q2) (SeqAt.canLay_of_shaped q1) (room_in_shaped q1 hr.u65) (by simpa using R.pb)
 ·rename_i z xs ea eb;obtain ⟨hp,e⟩:=aG e;cases e;rw [Bool.and_eq_true] at hp;obtain ⟨⟨bs,z2⟩,q2⟩:=tY R rb eb hp.1;obtain ⟨⟨as,z1⟩,q1⟩:=tY R ra ea hp.2;cases neg
  ·exact SeqAt.in_tuple_reads z2 z1 (SeqAt.canLay_of_shaped q2) (SeqAt.canLay_of_shaped q1) (room_in_shaped q1 hr.u65) (by simpa using R.pb)
  ·exact SeqAt.notIn_tuple_reads z2 z1 (SeqAt.canLay_of_shaped q2) (SeqAt.canLay_of_shaped q1) (room_in_shaped q1 hr.u65) (by simpa using R.pb)
 ·cases e
def gN {op:CmpOp} {p:Bool×aA} (hr:Room S d A) (R:Mem S κ M h s) (ra:RepW S M x u) (rb:RepW S M y v) (e:dZ op x y h=some p):p.2=h/\Wp S A (compareOp op u v) (Pw S κ M h (.d (.bool p.1))) E s:=by
 unfold dZ at e;split at e
 ·obtain ⟨b,e1,rfl⟩:=map_some e;refine ⟨rfl,?_⟩;unfold xEq at e1;split at e1
  ·rename_i ea eb;obtain ⟨hp,e1⟩:=aG e1;cases e1;rw [Bool.and_eq_true] at hp;obtain ⟨⟨as,z1⟩,q1⟩:=tY R ra ea hp.1;obtain ⟨⟨bs,z2⟩,q2⟩:=tY R rb eb hp.2;exact eq_dataH z1 z2 q1 q2 hr.u64 R.pb
  ·cases e1
 ·obtain ⟨b,e1,rfl⟩:=map_some e;refine ⟨rfl,?_⟩;unfold xEq at e1;split at e1
  ·rename_i ea eb;obtain ⟨hp,e1⟩:=aG e1;cases e1;rw [Bool.and_eq_true] at hp;obtain ⟨⟨as,z1⟩,q1⟩:=tY R ra ea hp.1;obtain ⟨⟨bs,z2⟩,q2⟩:=tY R rb eb hp.2;exact ne_dataH z1 z2 q1 q2 hr.u64 R.pb
  ·cases e1
 ·obtain ⟨b,e1,rfl⟩:=map_some e;unfold xIs at e1;split at e1
  ·obtain ⟨h1,h2⟩:=nR ra rb e1;exact ⟨rfl,wpAny_is_plain h1 (by rw [h2];exact R.pb)⟩
  ·cases e1;obtain ⟨p,_,rfl⟩:=ra;cases rep_n.mp (show Rep S M.Z .none v from rb);exact ⟨rfl,wpAny_is_plain rfl R.pb⟩
  ·cases e1
 ·obtain ⟨b,e1,rfl⟩:=map_some e;unfold xIs at e1;split at e1
  ·obtain ⟨h1,h2⟩:=nR ra rb e1;exact ⟨rfl,wpAny_isNot_plain h1 (by rw [h2];exact R.pb)⟩
  ·cases e1;obtain ⟨p,_,rfl⟩:=ra;cases rep_n.mp (show Rep S M.Z .none v from rb);exact ⟨rfl,wpAny_isNot_plain rfl R.pb⟩
  ·cases e1
 ·obtain ⟨b,e1,rfl⟩:=map_some e;exact ⟨rfl,by simpa using bD9 (neg:=false) (A:=A) (E:=E) hr R ra rb e1⟩
 ·obtain ⟨b,e1,rfl⟩:=map_some e;exact ⟨rfl,by simpa using bD9 (neg:=true) (A:=A) (E:=E) hr R ra rb e1⟩
 ·split at e
  ·obtain ⟨f,e1,rfl⟩:=map_some e;obtain ⟨t,rfl⟩:=wi.mp ra;obtain ⟨t',rfl⟩:=wi.mp rb;refine ⟨rfl,?_⟩;cases op<;>cases e1
   ·exact lt_int R.pb
   ·exact le_int R.pb
   ·exact gt_int R.pb
   ·exact ge_int R.pb
  ·cases e
def rI {n:Nat} {i:Int} {j:Nat} (h:ixN n i=some j):seqIndex? i n=some j/\j < n/\-(n:Int)<=i/\i < n:=by
 unfold ixN at h
 by_cases h0:0<=i
 ·rw [if_pos h0] at h;obtain ⟨h1,h⟩:=aG h;cases h;exact ⟨seqIndex_of h0 h1,by omega,by omega,h1⟩
 ·rw [if_neg h0] at h;obtain ⟨h1,h⟩:=aG h;cases h;exact ⟨seqIndex_neg (by omega) h1,by omega,h1,by omega⟩
def rJ {α β:Type} {F:α->β->Prop} {l:List α} {r:List β} {i:Int} {a:α} (p:Paired F l r) (e:atI l i=some a):∃ j b,seqIndex? i r.length=some j/\r[j]?=some b/\F a b/\-(r.length:Int)<=i/\i < r.length:=by
 obtain ⟨j,h1,h2⟩:=bind_some e;obtain ⟨b,h3,h4⟩:=mM p h2;rw [p.length] at h1;obtain ⟨q1,_,q3,q4⟩:=rI h1;exact ⟨j,b,q1,h3,h4,q3,q4⟩
def nT:(sizeLine:Nat) < 2^62:=by decide
def aH5 {us:List Value} {n:Nat} {a:Addr} {i:Int} {t:Tok} {j:Nat} {c:Value} {value slice:Expr} {Q:Value->Shared->Prop} (ho:s.heap.get? a=some (bC us n)) (hz:us.length<=sizeLine) (h1:seqIndex? i us.length=some j) (h2:us[j]?=some c) (h3:-(us.length:Int)<=i) (h4:i < us.length)
  (hs:subscripted slice false (.ref a) (.int i t)=operate [.ref a,.int i t] (getItem (.ref a) (.int i t))) (q:Q c s):Wp S A (subscriptTail value slice (.ref a) (.int i t)) Q E s:=by
 have hn:=nT
 by_cases h0:0<=i
 ·have hj:i.toNat=j:=by rw [seqIndex_of h0 h4] at h1;exact Option.some.inj h1
  exact item_listR (cD ho).isList h0 (by omega) (by rw [hj];simpa using h2) q hs
 ·have hj:(i+(us.toArray.size:Int)).toNat=j:=by rw [seqIndex_neg (by omega) h3] at h1;rw [List.size_toArray];exact Option.some.inj h1
  exact subscriptTail_builtinR (x:=c) (cD ho).isList.typeIs slot_list_getitem.lookup
   (wpAny_getItem_list_neg (Q:=fun r s'=>r=c/\Q r s') (cD ho).isList (by omega) (by rw [List.size_toArray]<;>omega) (by omega) (by rw [hj];simpa using h2) ⟨rfl,q⟩) hs
def aU7 {T id:String} {o i:Value} {value slice:Expr} {Q:Value->Shared->Prop} (hT:s.TypeIs o T) (hl:typeLookup (.type T) "__getitem__"=pure (some (.builtin id))) (hs:subscripted slice false o i=operate [o,i] (getItem o i)) (h:Wp S A (getItem o i) Q E s):Wp S A (subscriptTail value slice o i) Q E s:=by
 unfold subscriptTail;refine wpAny_bind ?_;rw [getitemInPython_of_ne hT.not_modules];refine wpAny_bind (wpAny_specialOf hT hl ?_);have fin:Wp S A (subscripted slice false o i) (fun r s₃=>Wp S A (letTemporaryGo value o r >>= fun _=>pure r) Q E s₃) E s:=by
  rw [hs];exact wpAny_operating (wpAny_mono h (fun r s₃ h₃=>wpAny_bind (wpAny_letTemporaryGo (wpAny_pure h₃))) fun _ _ x=>x)
 first
  | exact wpAny_pure (wpAny_bind fin)
  | exact wpAny_bind (wpAny_pure (wpAny_bind fin))
  | exact wpAny_bind fin
def bE0 {value slice:Expr} (hr:Room S d A) (R:Mem S κ M h s) (ra:RepW S M x u) (rb:RepW S M y v) (e:xIx x y h=some (w,h')) (hs:∀ o i,subscripted slice false o i=operate [o,i] (getItem o i)):Wp S A (subscriptTail value slice u v) (Pw S κ M h' w) E s:=by
 unfold xIx at e;cases ea:ref h x with
 | none =>
  rw [ea] at e;cases y with
  | c _=>cases e
  | d y =>
   cases y with
   | int k =>
    replace e:xIr x k h=some (w,h'):=e
    unfold xIr at e;split at e
    ·rename_i i;split at e
     ·rename_i is ei;obtain ⟨z,ez,e⟩:=map_some e;cases e;obtain ⟨t,rfl⟩:=wi.mp rb;obtain ⟨p,ep,rfl⟩:=ra;obtain ⟨us,n,ho,hz,rr⟩:=R.cel i p _ ep ei;obtain ⟨j,c,h1,h2,h3,h4,h5⟩:=rJ rr ez;exact aH5 ho hz h1 h2 h4 h5 (hs _ _) (R.pw h3)
     ·cases e
    ·cases e
   | _=>cases e
 | some t =>
  rw [ea] at e;cases t with
  | list xs =>
   cases y with
   | c _=>cases e
   | d y =>
    cases y with
    | int i =>
     obtain ⟨z,ez,e⟩:=map_some e;cases e;obtain ⟨t,rfl⟩:=wi.mp rb;obtain ⟨a,us,n,rfl,ho,hz,rr⟩:=dQ R ra ea;obtain ⟨j,c,h1,h2,h3,h4,h5⟩:=rJ rr ez;exact aH5 ho hz h1 h2 h4 h5 (hs _ _) (R.pw h3)
    | _=>cases e
  | tuple xs =>
   cases y with
   | c _=>cases e
   | d y =>
    cases y with
    | int i =>
     obtain ⟨z,ez,e⟩:=map_some e;cases e;obtain ⟨t,rfl⟩:=wi.mp rb;obtain ⟨a,us,n,rfl,ho,hz,rr⟩:=hH R ra ea;obtain ⟨j,c,h1,h2,h3,h4,h5⟩:=rJ rr ez;have pl:=hO (R.z _ _ ho);have hn:=nT;exact subscriptTail_builtinR (x:=c) pl.typeIs slot_tuple_getitem.lookup (getItem_tuple (j:=j) (Q:=fun r s'=>r=c/\Pw S κ M h (.d z) r s') pl (by omega) (by omega) (by rw [List.size_toArray];exact h1) (by simpa using h2) ⟨rfl,R.pw h3⟩) (hs _ _)
    | _=>cases e
  | _=>cases e
end
end DL

namespace DL
open PySem PySem.Spec PyProof.Rows L2 CI
section
variable {S:Sx} {κ:Kp} {M:Mp} {h h':aA} {s:Shared} {A:Around} {E:Value->Shared->Prop} {x y w:W} {u v:Value} {d:Nat} {b:Bool} {ws:List W} {us:List Value}
def aH6 {α:Type} (xs:List α) (lo hi:Option Int):((xs.drop (HT.sIx xs.length 0 lo)).take (HT.sIx xs.length xs.length hi - HT.sIx xs.length 0 lo)).length<=xs.length:=by rw [List.length_take,List.length_drop];omega
def rK (lo hi:Option Int) (n:Nat):(sliceBounds lo hi none n).1=((HT.sIx n 0 lo:Nat):Int)/\(sliceBounds lo hi none n).2.1=((HT.sIx n n hi:Nat):Int)/\(sliceBounds lo hi none n).2.2=1:=by
 refine ⟨?_,?_,rfl⟩
 ·cases lo with
  | none=>simp [sliceBounds,HT.sIx]
  | some i =>
   simp only [sliceBounds,HT.sIx,Option.getD_none,show (1:Int) > 0 by decide,if_true]
   by_cases h:i < 0
   ·simp only [h,if_true]<;>omega
   ·simp only [h,if_false]<;>omega
 ·cases hi with
  | none=>simp [sliceBounds,HT.sIx]
  | some i =>
   simp only [sliceBounds,HT.sIx,Option.getD_none,show (1:Int) > 0 by decide,if_true]
   by_cases h:i < 0
   ·simp only [h,if_true]<;>omega
   ·simp only [h,if_false]<;>omega
def pR (its:List Value) (lo hi:Option Int):slicePick its.toArray lo hi none=((its.drop (HT.sIx its.length 0 lo)).take (HT.sIx its.length its.length hi - HT.sIx its.length 0 lo)).toArray:=by
 obtain ⟨h1,h2,h3⟩:=rK lo hi its.toArray.size;unfold slicePick;rw [h1,h2,h3];simp only [sliceRange_one,pick_run,List.size_toArray]<;>rfl
def aA8 {prog:Program} {w:World} {A:Around} {E:Value->Shared->Prop} {s:Shared} {t sl:Addr} {items:Array Value} {vl vu:Value} {lo hi:Option Int} {Q:Value->Shared->Prop} (ht:IsTup s.heap t items) (hs:s.heap.IsSliceOf sl vl vu .none) (pl:IsPart vl lo) (pu:IsPart vu hi)
  (hw:HT.sIx items.size 0 lo=0/\HT.sIx items.size items.size hi=items.size) (h:Q (.ref t) s):wpAny (model prog w) A (getItem (.ref t) (.ref sl)) Q E s:=by
 obtain ⟨os,hos,hcs,hds⟩:=id hs;have hTs:s.TypeIs (.ref sl) "slice":=⟨os,hos,hcs⟩;unfold getItem;try with_reducible refine wpAny_holding ?_
 first | refine wpAny_bind (wpAny_pure ?_) | skip
 refine wpAny_bind (wpAny_sequenceKey ht.typeIs (by decide) ?_);refine wpAny_bind (wpAny_callSpecial?_slot (name:=Str.ofString "__getitem__") ht.typeIs PyProof.Rows.slot_tuple_getitem
  (wpAny_call_entry PyProof.Rows.slot_tuple_getitem ht.typeIs entry_tuple_getitem ?_ (args_tuple_getitem _ _)))
 show wpAny _ _ (Builtin.Tuple.tupleItemsOf (.ref t) >>= _) _ _ s;refine wpAny_bind (tupleItemsOf_ ht (wpAny_bind (wpAny_typeOf hTs ?_)));rw [if_pos (by decide)];refine wpAny_bind (HT.sliceApplied_gen hs pl pu ?_);have hy:(((HT.sIx items.size 0 lo:Nat):Int)==0&&(1:Int)==1&&(HT.sIx items.size items.size hi - HT.sIx items.size 0 lo)==items.size)=true:=by
  rw [hw.1,hw.2];simp
 show wpAny _ _ (if (((HT.sIx items.size 0 lo:Nat):Int)==0&&(1:Int)==1&&(HT.sIx items.size items.size hi - HT.sIx items.size 0 lo)==items.size)=true then _ else _) _ _ s;rw [if_pos hy];refine wpAny_bind (wpAny_bind (wpAny_typeOf ht.typeIs (wpAny_pure ?_)));rw [if_pos (by decide)];exact wpAny_bind (wpAny_rule (wpAny_pure ⟨_,rfl,wpAny_pure h⟩))
def sl_l {xs:List PyData} {vl vu:Value} {lo hi:Option Int} {sl:Addr} (R:Mem S κ M h s) (ra:RepW S M x u) (e:ref h x=some (.list xs)) (hs:s.heap.IsSliceOf sl vl vu .none) (pl:IsPart vl lo) (pu:IsPart vu hi):s.TypeIs u "list"/\Wp S A (getItem u (.ref sl)) (Pf S κ M h (cut xs lo hi)) E s:=by
 obtain ⟨a,us,n,rfl,ho,hz,rr⟩:=dQ R ra e;refine ⟨(cD ho).isList.typeIs,wpAny_getItem_list_slice (cD ho).isList hs pl pu .none (by simp) ?_ (by rw [List.size_toArray]<;>omega)⟩;rw [pR];unfold cut;rw [rr.length];exact R.lstP (t:=s.toks) (n:=0) (aF1 _ (aF2 _ rr)) (Nat.le_trans (aH6 us lo hi) hz)
def sl_t {xs:List PyData} {vl vu:Value} {lo hi:Option Int} {sl:Addr} (R:Mem S κ M h s) (ra:RepW S M (.d (.tuple xs)) u) (hs:s.heap.IsSliceOf sl vl vu .none) (pl:IsPart vl lo) (pu:IsPart vu hi):s.TypeIs u "tuple"/\Wp S A (getItem u (.ref sl)) (Pw S κ M h (.d (.tuple (cut xs lo hi)))) E s:=by
 obtain ⟨a,us,n,rfl,ho,hz,rr⟩:=hH (h:=h) R ra rfl;have ht:=hO (R.z _ _ ho);have hl:=rr.length;have hlen:us.toArray.size=us.length:=List.size_toArray;refine ⟨ht.typeIs,?_⟩
 by_cases hw:HT.sIx us.length 0 lo=0/\HT.sIx us.length us.length hi=us.length
 ·refine aA8 ht hs pl pu (by rw [hlen];exact hw) ?_;have ec:cut xs lo hi=xs:=by
   unfold cut;rw [hl,hw.1,hw.2,List.drop_zero,Nat.sub_zero,<- hl,List.take_length]
  rw [ec];exact R.pw ra
 ·refine HT.getItem_tuple_cut ht hs pl pu (by rw [hlen];exact hw) ?_ (by rw [hlen];exact hz);rw [hlen];unfold cut;rw [hl];exact R.tup (t:=s.toks) (aF1 _ (aF2 _ rr)) (Nat.le_trans (aH6 us lo hi) hz)
def w1 (r:RepWs S M [x] us):∃ u,us=[u]/\RepW S M x u:=by cases r with | cons a b=>cases b;exact ⟨_,rfl,a⟩
def w2 (r:RepWs S M [x,y] us):∃ u v,us=[u,v]/\RepW S M x u/\RepW S M y v:=by cases r with | cons a b=>obtain ⟨v,rfl,c⟩:=w1 b;exact ⟨_,v,rfl,a,c⟩
def BfS (S:Sx) (f:Value) (g:List W->aA->Option (W×aA)):Prop:=∀ {κ:Kp} {M:Mp} {h h':aA} {s:Shared} {A:Around} {E:Value->Shared->Prop} {ws:List W} {us:List Value} {w:W} {d:Nat},Room S d A->Hk A M->S.K.In S.base->(s.heap.objs.size==sysModules)=false->Mem S κ M h s->RepWs S M ws us->g ws h=some (w,h')->Wp S A (call f us) (Pw S κ M h' w) E s
def bU7:BfS S (.builtin "len") bJ:=by
 intro κ M h h' s A E ws us w d hr hk hK hsm R r e;have hn:=nT;unfold bJ at e;split at e
 ·obtain ⟨u,rfl,ra⟩:=w1 r;split at e
  ·rename_i ea;cases e;obtain ⟨a,vs,n,rfl,ho,hz,rr⟩:=dQ R ra ea;refine Calls.call_len_list (cD ho).isList (by simp only [List.size_toArray]<;>omega) ?_;rw [List.size_toArray,rr.length];exact R.pi
  ·rename_i ea;cases e;obtain ⟨a,vs,n,rfl,ho,hz,rr⟩:=hH R ra ea;refine len_tuple (hO (R.z _ _ ho)) (by simp only [List.size_toArray]<;>omega) ?_;rw [List.size_toArray,rr.length];exact R.pi
  ·rename_i ea;obtain ⟨k,ek,e⟩:=map_some e;cases e;rename_i x;unfold bI2 at ek;split at ek
   ·rename_i j;obtain ⟨p,ep,rfl⟩:=ra;split at ek
    ·rename_i is ei;cases ek;obtain ⟨vs,n,ho,hz,rr⟩:=R.cel j p _ ep ei;have hl:=rr.length;refine Calls.call_len_list (cD ho).isList (by simp only [List.size_toArray]<;>omega) ?_;rw [List.size_toArray,<- hl];exact R.pi
    ·cases ek
   ·cases ek
  ·cases e
 ·cases e
def aU8:BfS S (.type "tuple") bM:=by
 intro κ M h h' s A E ws us w d hr hk hK hsm R r e;unfold bM at e;split at e
 ·obtain ⟨u,rfl,ra⟩:=w1 r;split at e
  ·rename_i ea;cases e;obtain ⟨a,vs,n,rfl,ho,hz,rr⟩:=dQ R ra ea;refine call_tuple_list (cD ho).isList (fun h2 kp=>?_) (by simp only [List.size_toArray]<;>omega);exact (R.kept (t:=s.toks) kp).tup (t:=s.toks) rr hz
  ·rename_i ea;cases e;obtain ⟨a,vs,n,rfl,ho,hz,rr⟩:=hH R ra ea;exact call_tuple_same (hO (R.z _ _ ho)) (R.pw (rep_t.mpr ⟨a,_,vs,rfl,ho,⟨⟨n,rfl⟩,hz⟩,rr⟩))
  ·cases e
 ·cases e
theorem kY {Z:Zm}:∀ {xs:List PyData} {bs:List Bool} {us:List Value},cX xs=some bs->Paired (Rep S Z) xs us->us=bs.map .bool
 | [],_,_,e,h=>by cases e;cases h;rfl
 | x::r,bs,us,e,h=>by
  cases h with
  | cons a t =>
   cases x with
   | bool b =>
    unfold cX at e;obtain ⟨cs,q,rfl⟩:=map_some e;rw [rep_b.mp a,kY q t];rfl
   | _=>cases e
def aA9 {f:Nat->Bool} (bs:List Bool) (h:∀ i b,bs[i]?=some b->f i=b):(List.range bs.length).all f=bs.all id:=by
 rw [Bool.eq_iff_iff,List.all_eq_true,List.all_eq_true];constructor
 ·intro z b hb;obtain ⟨i,hi,e⟩:=List.mem_iff_getElem.mp hb;have:=z i (by simpa using hi);rw [h i b (by simp [hi,e])] at this;exact this
 ·intro z i hi;have hi':i < bs.length:=by simpa using hi
  rw [h i bs[i] (by simp [hi'])];exact z _ (List.getElem_mem hi')
def bU8:BfS S (.builtin "all") gC:=by
 intro κ M h h' s A E ws us w d hr hk hK hsm R r e;unfold gC at e;split at e
 ·obtain ⟨u,rfl,ra⟩:=w1 r;split at e
  ·rename_i ea;obtain ⟨bs,eb,e⟩:=map_some e;cases e;obtain ⟨p,vs,n,rfl,ho,hz,rr⟩:=dQ R ra ea;have ev:=kY eb rr;subst ev;have pl:=(cD ho).isList;refine call_all_walk (wpAny_pyIter_list pl ?_);refine ⟨s.heap.objs.size,_,_,(bs.map Value.bool).toArray.size,_,_,fun i=>(bs[i]?).getD true,rfl,tM (A:=A.in1) s.heap.objs.size p (Nat.ne_of_lt (Heap.lt_size ho)) (bs.map Value.bool).toArray,⟨⟨⟨_,Heap.get?_push_size _ rfl,rfl,rfl⟩,?_⟩,(hk.at R).up fun b o e=>Heap.get?_push_of_some _ e⟩,fun i v s' Q' E' hP hQ=>?_,fun h2 tk hk=>?_⟩
   ·obtain ⟨o,ho,r⟩:=pl;exact ⟨o,Heap.get?_push_of_some _ ho,r⟩
   ·have hP':(bs.map Value.bool)[i]?=some v:=by simpa using hP
    rw [List.getElem?_map] at hP';obtain ⟨b,eb,rfl⟩:=map_some hP';dsimp only at hQ;rw [eb] at hQ;exact wpAny_truthy_bool hQ
   ·have e:(List.range (bs.map Value.bool).toArray.size).all (fun i=>(bs[i]?).getD true)=bs.all id:=by
     have:=aA9 (f:=fun i=>(bs[i]?).getD true) bs (fun i b e=>by simp [e]);rw [List.size_toArray,List.length_map];exact this
    rw [e];refine (R.kept fun b o eo=>hk b o ?_ (Heap.get?_push_of_some _ eo)).pb;intro z;rw [List.mem_singleton.mp z] at eo;exact absurd (Heap.lt_size eo) (Nat.lt_irrefl _)
  ·cases e
 ·cases e
def aB0 {f:Nat->Bool} (bs:List Bool) (h:∀ i b,bs[i]?=some b->f i=b):(List.range bs.length).any f=bs.any id:=by
 rw [Bool.eq_iff_iff,List.any_eq_true,List.any_eq_true];constructor
 ·rintro ⟨i,hi,z⟩;have hi':i < bs.length:=by simpa using hi
  rw [h i bs[i] (by simp [hi'])] at z;exact ⟨_,List.getElem_mem hi',z⟩
 ·rintro ⟨b,hb,z⟩;obtain ⟨i,hi,e⟩:=List.mem_iff_getElem.mp hb;exact ⟨i,by simpa using hi,by rw [h i b (by simp [hi,e])];exact z⟩
def bU9:BfS S (.builtin "any") tN:=by
 intro κ M h h' s A E ws us w d hr hk hK hsm R r e;unfold tN at e;split at e
 ·obtain ⟨u,rfl,ra⟩:=w1 r;split at e
  ·rename_i ea;obtain ⟨bs,eb,e⟩:=map_some e;cases e;obtain ⟨p,vs,n,rfl,ho,hz,rr⟩:=dQ R ra ea;have ev:=kY eb rr;subst ev;have pl:=(cD ho).isList;refine call_any_walk (wpAny_pyIter_list pl ?_);refine ⟨s.heap.objs.size,_,_,(bs.map Value.bool).toArray.size,_,_,fun i=>(bs[i]?).getD false,rfl,tM (A:=A.in1) s.heap.objs.size p (Nat.ne_of_lt (Heap.lt_size ho)) (bs.map Value.bool).toArray,⟨⟨⟨_,Heap.get?_push_size _ rfl,rfl,rfl⟩,?_⟩,(hk.at R).up fun b o e=>Heap.get?_push_of_some _ e⟩,fun i v s' Q' E' hP hQ=>?_,fun h2 tk hk=>?_⟩
   ·obtain ⟨o,ho,r⟩:=pl;exact ⟨o,Heap.get?_push_of_some _ ho,r⟩
   ·have hP':(bs.map Value.bool)[i]?=some v:=by simpa using hP
    rw [List.getElem?_map] at hP';obtain ⟨b,eb,rfl⟩:=map_some hP';dsimp only at hQ;rw [eb] at hQ;exact wpAny_truthy_bool hQ
   ·have e:(List.range (bs.map Value.bool).toArray.size).any (fun i=>(bs[i]?).getD false)=bs.any id:=by
     have:=aB0 (f:=fun i=>(bs[i]?).getD false) bs (fun i b e=>by simp [e]);rw [List.size_toArray,List.length_map];exact this
    rw [e];refine (R.kept fun b o eo=>hk b o ?_ (Heap.get?_push_of_some _ eo)).pb;intro z;rw [List.mem_singleton.mp z] at eo;exact absurd (Heap.lt_size eo) (Nat.lt_irrefl _)
  ·cases e
 ·cases e
def bV0:BfS S (.type "int") wD:=by
 intro κ M h h' s A E ws us w d hr hk hK hsm R r e;unfold wD at e;split at e
 ·cases e;obtain ⟨u,rfl,ra⟩:=w1 r;cases wb.mp ra;exact call_int_bool R.pi
 ·cases e
def aH7 {xs:List PyData} (R:Mem S κ M h s) (ra:RepW S M x u) (e:ref h x=some (.list xs)\/ref h x=some (.tuple xs)):Wp S A (call (.type "list") [u]) (Pf S κ M h xs) E s:=by
 rcases e with e | e
 ·obtain ⟨a,vs,n,rfl,ho,hz,rr⟩:=dQ R ra e;exact call_list_seq a (.inl rfl) ho rfl rfl (fun h2 c kp e=>R.lst (t:=s.toks) kp e rr hz) (by simp only [List.size_toArray]<;>omega)
 ·obtain ⟨a,vs,n,rfl,ho,hz,rr⟩:=hH R ra e;exact call_list_seq a (.inr rfl) (R.z _ _ ho) rfl rfl (fun h2 c kp e=>R.lst (t:=s.toks) kp e rr hz) (by simp only [List.size_toArray]<;>omega)
def nU (T:String):Prop:=∀ (K:PySem.W.Frag) (d:PyData),PySem.W.kitOne K (.type (fZ d)) (.type T)=some (isi d T)
def aU9:nU "int":=fun K d=>by cases d<;>kernel_rfl
def aH8:nU "bool":=fun K d=>by cases d<;>kernel_rfl
def aV0:nU "str":=fun K d=>by cases d<;>kernel_rfl
def aB1:nU "tuple":=fun K d=>by cases d<;>kernel_rfl
def aH9:nU "list":=fun K d=>by cases d<;>kernel_rfl
def rL {z:PyData} (e:ref h x=some z) (n:(fZ z=="list"||fZ z=="dict")=false):x=.d z:=by
 cases x with
 | d y=>cases e;rfl
 | c i =>
  dsimp only [DL.ref] at e;cases q:h[i]? with
  | none=>rw [q] at e;cases e
  | some c=>cases c<;>(rw [q] at e;cases e)<;>cases n
def bV1 {z:PyData} (R:Mem S κ M h s) (r:RepW S M x u) (e:ref h x=some z) (hn:noD z=true):∃ H,PySem.W.KitX S.K u (.type (fZ z)) H/\H s.heap/\u≠.builtin "__main__.__loader__#opaque":=by
 cases z with
 | none=>cases rL e rfl;cases wn.mp r;exact ⟨_,PySem.W.kitx_none,True.intro,fun z=>nomatch z⟩
 | bool b=>cases rL e rfl;cases wb.mp r;exact ⟨_,PySem.W.kitx_bool,True.intro,fun z=>nomatch z⟩
 | int i=>cases rL e rfl;obtain ⟨t,rfl⟩:=wi.mp r;exact ⟨_,PySem.W.kitx_int,True.intro,fun z=>nomatch z⟩
 | str i=>cases rL e rfl;obtain ⟨⟨t,rfl⟩,_⟩:=rep_s.mp (show Rep S M.Z _ _ from r);exact ⟨_,PySem.W.kitx_str,True.intro,fun z=>nomatch z⟩
 | list xs=>obtain ⟨a,us,n,rfl,ho,_⟩:=dQ R r e;exact ⟨_,PySem.W.kitx_list,⟨_,ho,rfl⟩,fun z=>nomatch z⟩
 | tuple xs=>obtain ⟨a,us,n,rfl,ho,_⟩:=hH R r e;exact ⟨_,PySem.W.kitx_tuple,⟨_,R.z _ _ ho,rfl⟩,fun z=>nomatch z⟩
 | dict xs=>obtain ⟨a,vs,rfl,⟨o,_,_,ho,ex,_⟩,_⟩:=bU5 R r (by simpa [noD] using hn) e;exact ⟨_,PySem.W.kitx_dict,⟨o,ho,ex.1⟩,fun z=>nomatch z⟩
def bJ4 {z:PyData} {T:String} (hK:S.K.In S.base) (hk:nU T) (R:Mem S κ M h s) (r:RepW S M x u) (e:ref h x=some z) (hn:noD z=true):Wp S A (call (.builtin "isinstance") [u,.type T]) (Pw S κ M h (.d (.bool (isi z T)))) E s:=by
 obtain ⟨H,kx,p,n⟩:=bV1 R r e hn;exact PySem.W.kia_one kx (hK.keeps R.bk) p (hk S.K z) n fun tk=>(R.tok tk).pb
end
end DL

namespace DL
open PySem PySem.Spec PyProof.Rows L2 CI
abbrev NE:Value->Shared->Prop:=fun _ _=>False
structure Mod (S:Sx):Prop where
 kin:S.K.In S.base
 glob:S.base.Ns mainGlobals S.mg
 blt:∃ mb,S.base.Ns builtinsNs mb/\∀ x:Str,x≠"__name__"->mb x=bootBuiltins x
 nolimit:S.base.NoLimit
structure Cx where
 S:Sx
 A:Around
 N:List Str
 env:Env
 fn:Bool
def Vis (sc:Scope) (x:Str):Prop:=sc.names.lookup x=some .local\/sc.names.lookup x=some .cell\/sc.names.lookup x=some .free
def Loc (sc:Scope) (x:Str):Prop:=sc.names.lookup x=some .local\/sc.names.lookup x=some .cell
structure Cx.Ok (X:Cx):Prop where
 mod:Mod X.S
 kind:X.env.scope.kind=.function
 glob:X.env.globals=mainGlobals
 blt:X.env.builtins=builtinsNs
 inj:∀ x y c,X.env.cells.lookup x=some c->X.env.cells.lookup y=some c->x=y
 has:∀ x,(X.env.kindOf x=some .cell\/X.env.kindOf x=some .free)->∃ c,X.env.cells.lookup x=some c
 bsz:X.S.base.objs.size<=X.env.locals
 nd:X.N.Nodup
def jG (o:Obj) (m:Str->Option Value):Prop:=∃ es ep,o.data=.dict es ep/\StrKeys es/\∀ name,nsFind es name=m name
def bV2 (env:Env) (κ:Kp) (m:Str->Option Value) (x:Str) (u:Value):Prop :=
 (env.kindOf x=some .local/\m x=some u)\/((env.kindOf x=some .cell\/env.kindOf x=some .free)/\∃ c o,env.cells.lookup x=some c/\κ c=some (true,o)/\o.data=.cell (some u))
def FrO (κ:Kp) (A:Around):Prop:=∃ l,A.frames=some l/\∀ env∈l,env.scope.kind≠.module/\∃ L o,env.frame=some L/\κ L=some (false,o)/\∀ vs,o.data≠.fields vs
def FrO.kp {κ κ':Kp} {A:Around} (F:FrO κ A) (k:∀ a,(∃ l env,A.frames=some l/\env∈l/\env.frame=some a)->κ' a=κ a):FrO κ' A :=
 let ⟨l,e,f⟩:=F;⟨l,e,fun env he=>let ⟨h1,L,o,h2,h3,h4⟩:=f env he;⟨h1,L,o,h2,by rw [k L ⟨l,env,e,he,h2⟩];exact h3,h4⟩⟩
def FrO.up {κ:Kp} {A:Around} {a:Addr} {o:Obj} (F:FrO κ A) (ho:∀ vs,o.data≠.fields vs):FrO (fun b=>if b=a then some (false,o) else κ b) A :=
 let ⟨l,e,f⟩:=F;⟨l,e,fun env he=>let ⟨h1,L,o',h2,h3,h4⟩:=f env he;⟨h1,L,if L=a then o else o',h2,by dsimp only;split<;>first | rfl | exact h3,by split<;>assumption⟩⟩
def bV3 (X:Cx) (a:Addr):Prop:=a=X.env.locals\/(∃ x,X.env.cells.lookup x=some a)\/∃ l env,X.A.frames=some l/\env∈l/\env.frame=some a
structure Fra (X:Cx) (κ:Kp) (M:Mp) (δ:DSt):Prop where
 ok:X.Ok
 hk:Hk X.A M
 len:δ.length=X.N.length
 loc:∃ o m,κ X.env.locals=some (false,o)/\jG o m/\∀ (i:Nat) x w,X.N[i]?=some x->δ[i]?=some (some w)->Vis X.env.scope x->∃ u,RepW X.S M w u/\bV2 X.env κ m x u
 cell:∀ x c,X.env.cells.lookup x=some c->∃ o v,κ c=some (true,o)/\o.data=.cell v
 frs:FrO κ X.A
def Own (X:Cx) (κ κ':Kp):Prop:=∀ a,κ' a≠κ a->a=X.env.locals\/(X.fn=true/\∃ x,X.env.cells.lookup x=some a)
def Own.refl {X:Cx} {κ:Kp}:Own X κ κ:=fun _ h=>(h rfl).elim
def Own.trans {X:Cx} {κ κ' κ2:Kp} (a:Own X κ κ') (b:Own X κ' κ2):Own X κ κ2:=fun c h=>by
 by_cases e:κ' c=κ c
 ·exact b c (by rw [e];exact h)
 ·exact a c e
section
variable {X:Cx} {κ:Kp} {M M':Mp} {δ:DSt} {h h':aA} {s:Shared} {A:Around} {E:Value->Shared->Prop} {w:W} {u:Value} {d:Nat} {x:Str} {pos:Pos}
def Fra.go (F:Fra X κ M δ) (l:Le M M'):Fra X κ M' δ :=
 ⟨F.ok,F.hk.go l,F.len,let ⟨o,m,h1,h2,h3⟩:=F.loc;⟨o,m,h1,h2,fun i x w a b c=>let ⟨u,r,q⟩:=h3 i x w a b c;⟨u,r.go l,q⟩⟩,F.cell,F.frs⟩
def Fra.ns (F:Fra X κ M δ) (R:Mem X.S κ M h s):∃ m,s.heap.Ns X.env.locals m/\∀ (i:Nat) x w,X.N[i]?=some x->δ[i]?=some (some w)->Vis X.env.scope x->∃ u,RepW X.S M w u/\bV2 X.env κ m x u:=by
 obtain ⟨o,m,h1,⟨es,ep,h2,h3,h4⟩,h5⟩:=F.loc;obtain ⟨_,⟨sl,e⟩,_⟩:=R.k _ _ _ h1;exact ⟨m,⟨_,es,ep,e,h2,h3,h4⟩,h5⟩
def Fra.size (F:Fra X κ M δ) (R:Mem X.S κ M h s):X.S.base.objs.size<=s.heap.objs.size:=by
 obtain ⟨m,hn,_⟩:=F.ns R;exact Nat.le_trans F.ok.bsz (Nat.le_of_lt hn.lt)
def bV4 {i:Nat} (F:Fra X κ M δ) (R:Mem X.S κ M h s) (hi:X.N[i]?=some x) (e:δ[i]?=some (some w)) (hv:Vis X.env.scope x) (hn:aY x=true):Wp X.S X.A (eval (.Name x pos) X.env) (Pw X.S κ M h w) E s:=by
 unfold aY at hn;simp only [Bool.and_eq_true,Bool.not_eq_true'] at hn;obtain ⟨m,hns,hl⟩:=F.ns R;obtain ⟨u,r,l⟩:=hl i x w hi e hv;rcases l with ⟨hk,hm⟩ | ⟨hk,c,o,hc,ho,hd⟩
 ·exact wpAny_Name (wpAny_loadName_local F.ok.kind hk hns hm (R.pw r)) hn.1
 ·have hcell:s.heap.IsCell c (some u):=⟨o,(R.k _ _ _ ho).1 rfl,hd⟩;rcases hk with hk | hk
  ·exact wpAny_Name (wpAny_loadName_cell F.ok.kind hk hc hcell (R.pw r)) hn.1
  ·exact wpAny_Name (wpAny_loadName_free F.ok.kind hk hc hcell (R.pw r) hn.2.1) hn.1
def Gl (X:Cx) (x:Str):Prop:=X.env.kindOf x=some .globalImplicit
def fU {Q:Value->Shared->Prop} (F:Fra X κ M δ) (R:Mem X.S κ M h s) (hg:Gl X x) (hm:X.S.mg x=some u) (hn:aY x=true) (q:Q u s):Wp X.S X.A (eval (.Name x pos) X.env) Q E s:=by
 unfold aY at hn;simp only [Bool.and_eq_true,Bool.not_eq_true'] at hn;exact Calls.Name_function_global F.ok.kind hg (Calls.loadGlobal_global (by rw [F.ok.glob];exact F.ok.mod.glob.keeps R.bk) hm q) hn.1
def gO {Q:Value->Shared->Prop} (F:Fra X κ M δ) (R:Mem X.S κ M h s) (hg:Gl X x) (hm:X.S.mg x=none) (hv:bootBuiltins x=some u) (hn:aY x=true) (q:Q u s):Wp X.S X.A (eval (.Name x pos) X.env) Q E s:=by
 unfold aY at hn;simp only [Bool.and_eq_true,Bool.not_eq_true'] at hn;obtain ⟨mb,h1,h2⟩:=F.ok.mod.blt;exact Calls.Name_function_global F.ok.kind hg (Calls.loadGlobal_builtin (by rw [F.ok.glob];exact F.ok.mod.glob.keeps R.bk) hm (by rw [F.ok.blt];exact h1.keeps R.bk) ((h2 x (fun z=>by rw [z] at hn;exact absurd hn.2.2 (by decide))).trans hv) q) hn.1
def nV {N:List Str} (hN:N.Nodup) {i j:Nat} {x:Str} (a:N[i]?=some x) (b:N[j]?=some x):i=j:=by
 obtain ⟨h1,e1⟩:=List.getElem?_eq_some_iff.mp a;obtain ⟨h2,e2⟩:=List.getElem?_eq_some_iff.mp b;exact (List.getElem_inj hN).mp (e1.trans e2.symm)
def aI0 {i:Nat} {Md:Model} {Q:Unit->Shared->Prop} (F:Fra X κ M δ) (R:Mem X.S κ M h s) (hi:X.N[i]?=some x) (hx:Loc X.env.scope x) (hf:X.fn=true\/X.env.scope.names.lookup x=some .local) (r:RepW X.S M w u)
  (q:∀ s' κ',Own X κ κ'->Mem X.S κ' M h s'->Fra X κ' M (δ.set i (some w))->(∃ a,Heap.SameBut a s.heap s'.heap/\κ a≠none)->Q () s'):wpAny Md A (storeName X.env x u) Q E s:=by
 have hiδ:i < δ.length:=by rw [F.len];exact (List.getElem?_eq_some_iff.mp hi).1
 have hcls:(X.env.scope.kind==.class||(X.env.scope.kind==.module&&X.env.locals != X.env.globals))=false:=by rw [F.ok.kind];rfl
 obtain ⟨o,m,h1,⟨es,ep,h2,h3,h4⟩,h5⟩:=F.loc;obtain ⟨_,⟨sl,e⟩,_⟩:=R.k _ _ _ h1;have hn:s.heap.Ns X.env.locals m:=⟨_,es,ep,e,h2,h3,h4⟩;rcases hx with hk | hk
 ·refine wpAny_storeName_local hk hn (fun h' hn' hs=>?_) hcls;obtain ⟨o',es',ep',ho',hd',hk',hm'⟩:=hn';refine q _ (κ.up X.env.locals (false,o')) (fun a ha=>?_) (R.own h1 (fun b ob hb q=>(hs.2 b hb).trans q) ho' R.bare rfl) ⟨F.ok,F.hk,by rw [List.length_set];exact F.len,⟨o',_,dY,⟨es',ep',hd',hk',hm'⟩,fun j y w' e1 e2 e3=>?_⟩,fun y c ec=>?_,F.frs.up fun vs z=>by rw [hd'] at z;cases z⟩ ⟨_,hs,by rw [h1];exact fun z=>nomatch z⟩
  ·by_cases z:a=X.env.locals
   ·exact .inl z
   ·exact (ha (bN z)).elim
  ·by_cases hj:j=i
   ·subst hj;rw [hi] at e1;cases e1;rw [List.getElem?_set_self hiδ] at e2;cases e2;exact ⟨u,r,.inl ⟨hk,by simp⟩⟩
   ·rw [List.getElem?_set_ne (Ne.symm hj)] at e2;obtain ⟨u',r',l⟩:=h5 j y w' e1 e2 e3;refine ⟨u',r',?_⟩;rcases l with ⟨k,e⟩ | ⟨k,c,oc,ec,eo,ed⟩
    ·have:y≠x:=fun e=>hj (nV F.ok.nd e1 (e ▸ hi));exact .inl ⟨k,by simp [this,e]⟩
    ·exact .inr ⟨k,c,oc,ec,by rw [bN fun z=>by rw [z,h1] at eo;cases eo];exact eo,ed⟩
  ·obtain ⟨oc,v,h6,h7⟩:=F.cell y c ec;exact ⟨oc,v,by rw [bN fun z=>by rw [z,h1] at h6;cases h6];exact h6,h7⟩
 ·have hfn:X.fn=true:=by
   rcases hf with z | z
   ·exact z
   ·rw [z] at hk;cases hk
  obtain ⟨c,hc⟩:=F.ok.has x (.inl hk);obtain ⟨oc,v,h6,h7⟩:=F.cell x c hc;refine wpAny_storeName_cell F.ok.kind hk hc ⟨oc,(R.k _ _ _ h6).1 rfl,h7⟩ (fun h' hc' hs=>?_);obtain ⟨o',ho',hd'⟩:=hc';have nL:X.env.locals≠c:=fun z=>by rw [<- z,h1] at h6;cases h6
  refine q _ (κ.up c (true,o')) (fun a ha=>?_) (R.own h6 (fun b ob hb q=>(hs.2 b hb).trans q) ho' R.bare rfl) ⟨F.ok,F.hk,by rw [List.length_set];exact F.len,⟨o,m,by rw [bN nL];exact h1,⟨es,ep,h2,h3,h4⟩,fun j y w' e1 e2 e3=>?_⟩,fun y c2 ec=>?_,F.frs.kp fun a ⟨l,env,z1,z2,z3⟩=>bN fun z=>by
   obtain ⟨l',y1,y2⟩:=F.frs;rw [z1] at y1;cases y1;obtain ⟨_,L,o9,y3,y4,_⟩:=y2 env z2;rw [z3] at y3;cases y3;rw [z,h6] at y4;cases y4⟩ ⟨_,hs,by rw [h6];exact fun z=>nomatch z⟩
  ·by_cases z:a=c
   ·exact .inr ⟨hfn,x,z ▸ hc⟩
   ·exact (ha (bN z)).elim
  ·by_cases hj:j=i
   ·subst hj;rw [hi] at e1;cases e1;rw [List.getElem?_set_self hiδ] at e2;cases e2;exact ⟨u,r,.inr ⟨.inl hk,c,o',hc,dY,hd'⟩⟩
   ·rw [List.getElem?_set_ne (Ne.symm hj)] at e2;obtain ⟨u',r',l⟩:=h5 j y w' e1 e2 e3;refine ⟨u',r',?_⟩;rcases l with l | ⟨k,c2,oc2,ec,eo,ed⟩
    ·exact .inl l
    ·refine .inr ⟨k,c2,oc2,ec,?_,ed⟩;rw [bN fun z=>hj (nV F.ok.nd e1 (by rw [F.ok.inj y x c (by rw [<- z];exact ec) hc];exact hi))];exact eo
  ·by_cases z:c2=c
   ·exact ⟨o',_,by rw [z];exact dY,hd'⟩
   ·obtain ⟨o2,v2,h8,h9⟩:=F.cell y c2 ec;exact ⟨o2,v2,by rw [bN z];exact h8,h9⟩
end
end DL

namespace L2
open PySem PySem.Spec PyProof.Rows
structure ObjM (h:Heap) (x dx C:Addr) (mA:Str->Option Value):Prop where
 obj:h.get? x=some (PySem.W.instObj C dx)
 ns:h.Ns1 dx mA
 ne:dx≠x

def aB2 {h:Heap} {dx:Addr} {mA:Str->Option Value} (n:h.Ns1 dx mA):∃ od,h.get? dx=some od/\∀ name,PySem.W.lookIn name od=some (mA name):=by
 obtain ⟨o,es,ep,ho,hd,hk,_,hm⟩:=n;refine ⟨o,ho,fun name=>?_⟩;have e:=hm name;unfold nsFind findBy at e;rw [<- Array.find?_toList] at e;unfold PySem.W.lookIn;rw [hd];dsimp only;split
 ·rename_i y q;rw [q] at e;exact congrArg some e
 ·rename_i q;rw [q] at e;have a:es.toList.any (·.refKey)=false:=by
   rw [List.any_eq_false];intro y hy;obtain ⟨z,t,hkey⟩:=hk y (Array.mem_toList_iff.mp hy);simp [DictEntry.refKey,hkey]
  have a':¬ es.toList.any (·.refKey)=true:=by rw [a];exact Bool.false_ne_true
  rw [if_neg a'];exact congrArg some e

section
variable {prog:Program} {w:World} {A:Around} {E:Value->Shared->Prop} {s:Shared} {K:PySem.W.Frag} {x dx C f:Addr} {mA:Str->Option Value} {name:Str} {v:Value}

end

structure Cls (K:PySem.W.Frag) (C:Addr):Prop where
 pg:PySem.W.plainGet K C Str.empty=true
 hd:PySem.W.hasDictIn K C=true
 po:PySem.W.plainOver K C=true
 sa:PySem.W.findIn K (.ref C) "__setattr__"=some (some (.builtin "object.__setattr__"))
def wH (K:PySem.W.Frag) (C:Addr) (f:Str):Prop:=PySem.W.findIn K (.ref C) f=some none
structure Meth (K:PySem.W.Frag) (C:Addr) (m:Str) (f:Addr):Prop where
 at_:PySem.W.findIn K (.ref C) m=some (some (.ref f))
 fn:PySem.W.isFn K (.ref f)=true
 kp:PySem.W.keepIn K (.ref f)=true
end L2

namespace DL
open PySem PySem.Spec PyProof.Rows L2 CI
noncomputable def oIs:Option Str->Value->Bool
 | some x,v=>Value.isStrOf x v
 | none,.none=>true
 | none,_=>false
def oIs_shape {k:Option Str} {v:Value} (h:oIs k v=true):(∃ x t,k=some x/\v=.str x t)\/(k=none/\v=.none):=by
 cases k with
 | some x =>
  obtain ⟨t,e⟩:=Value.isStrOf_shape (x:=x) (v:=v) h;exact .inl ⟨x,t,rfl,e⟩
 | none=>cases v<;>first | exact .inr ⟨rfl,rfl⟩ | cases h
def rM (x:Str) (t:Tok):oIs (some x) (.str x t)=true:=by simp [oIs,Value.isStrOf]
noncomputable def bV5 (w:World):Option Str->Int
 | some x=>hashStr w x
 | none=>reduceHash 0xFCA86420
def bV6 (prog:Program) (w:World):PySem.KeyKind prog w (Option Str) where
 is:=oIs
 hash:=bV5 w
 inj:=fun v a b ha hb=>by
  rcases oIs_shape ha with ⟨x,t,rfl,rfl⟩ | ⟨rfl,rfl⟩
  ·rcases oIs_shape hb with ⟨y,u,rfl,e⟩ | ⟨rfl,e⟩
   ·injection e with e1 _;rw [e1]
   ·exact nomatch e
  ·rcases oIs_shape hb with ⟨y,u,rfl,e⟩ | ⟨rfl,e⟩
   ·exact nomatch e
   ·rfl
 byValue:=fun k v h=>by
  rcases oIs_shape h with ⟨x,t,rfl,rfl⟩ | ⟨rfl,rfl⟩<;>rfl
 pyHash:=fun {A E s k v Q} hv h=>by
  rcases oIs_shape hv with ⟨x,t,rfl,rfl⟩ | ⟨rfl,rfl⟩
  ·exact wpAny_pyHash_str h
  ·exact PySem.W.pyHash_slot (T:="NoneType") rfl PySem.F.slot_NoneType_hash PySem.F.entry_NoneType_hash (PySem.F.args_NoneType_hash_1 _) (by decide) (.inl rfl) (wpAny_bind (wpAny_pure (wpAny_bind (wpAny_mkInt (wpAny_pure ⟨_,_,rfl,h⟩)))))
 eqBool:=fun {A E s a b u v Q} hu hv h=>by
  rcases oIs_shape hu with ⟨x,t,rfl,rfl⟩ | ⟨rfl,rfl⟩
  ·rcases oIs_shape hv with ⟨y,u,rfl,rfl⟩ | ⟨rfl,rfl⟩
   ·refine wpAny_eqBool_str ?_;have e:decide (some x=some y)=decide (x=y):=by simp
    rwa [e] at h
   ·exact SeqAt.EqAt.str_none x t _ _ _ _ (by simpa using h)
  ·rcases oIs_shape hv with ⟨y,u,rfl,rfl⟩ | ⟨rfl,rfl⟩
   ·exact SeqAt.EqAt.none_str y u _ _ _ _ (by simpa using h)
   ·exact SeqAt.EqAt.same _ _ _ _ _ (by simpa using h)
 «strs»:=fun k x t v h=>by
  rcases oIs_shape h with ⟨y,u,rfl,e⟩ | ⟨rfl,e⟩
  ·injection e with e1 _
   subst e1;cases v<;>rfl
  ·exact nomatch e
structure TabK (S:Sx) (p:Addr) (f:Str->Option PyData):Prop where
 lk:∃ es n,S.K.lookup p=some ⟨.type "dict",none,.dict es n,#[]⟩/\PySem.W.KeysLit S.w.params es.toList/\(∀ x i,f x=some i->∃ u,findBy Value.isStrOf es x=some u/\Rep S S.base.get? i u)/\∀ x,f x=none->findBy Value.isStrOf es x=none
 sm:(p==sysModules)=false
def TabK.map {S:Sx} {p:Addr} {f:Str->Option PyData} {prog:Program} {h:Heap} (T:TabK S p f) (X:S.K.In h):∃ g:Option Str->Option Value,h.MapOf (bV6 prog S.w) p g/\g none=none/\(∀ x i,f x=some i->∃ u,g (some x)=some u/\Rep S S.base.get? i u)/\∀ x,f x=none->g (some x)=none:=by
 obtain ⟨es,n,l,hk,h1,h2⟩:=T.lk;refine ⟨fun k=>findBy oIs es k,⟨_,es,n,X _ _ l,⟨rfl,rfl,rfl⟩,rfl,fun e he=>?_,fun _=>rfl⟩,?_,h1,h2⟩
 ·obtain ⟨x,t,e1,e2⟩:=hk.all e (Array.mem_toList_iff.mpr he);exact ⟨some x,by rw [e1];exact rM x t,e2⟩
 ·unfold findBy;have e:es.find? (fun e=>oIs none e.key)=none:=by
   rw [Array.find?_eq_none];intro e he;obtain ⟨x,t,e1,_⟩:=hk.all e (Array.mem_toList_iff.mpr he);rw [e1];exact Bool.false_ne_true
  show Option.map _ (es.find? fun e=>oIs none e.key)=none;rw [e];rfl
def eO (K:PySem.W.Frag) (fd:FuncData) (ps:List Str):Prop:=∀ (s:Shared) (us:List Value),K.In s.heap->us.length=ps.length->BindsTo s fd ⟨us,[]⟩ (ps.zip us)
def CR (S:Sx) (κ:Kp) (M:Mp) (h:aA) (w:W) (r:Result) (s:Shared):Prop:=∃ u,r=.ok (.ret u)/\Pw S κ M h w u s
structure FnS (S:Sx) (d:Nat) (f:Addr) (fd:FuncData) (ps:List Str) (m:XFW):Prop where
 len:∀ ws h r,m ws h=some r->ws.length=ps.length
 run:∀ {A:Around} {κ:Kp} {M:Mp} {h h':aA} {s:Shared} {args:Args} {us:List Value} {ws:List W} {w:W},Room S d A->Hk A M->FrO κ A->Mod S->S.base.objs.size<=s.heap.objs.size->Mem S κ M h s->BindsTo s fd args (ps.zip us)->RepWs S M ws us->m ws h=some (w,h') ->
  codeAny (model S.P S.w) A (.call (.ref f) args) (CR S κ M h' w) s
def FnS.mono {S:Sx} {d d':Nat} {f:Addr} {fd:FuncData} {ps:List Str} {m:XFW} (F:FnS S d f fd ps m) (l:d<=d'):FnS S d' f fd ps m:=⟨F.len,fun hr=>F.run (hr.mono l)⟩
def FnG (S:Sx) (d:Nat) (x:Str) (m:XFW):Prop:=(∀ ws h,m ws h=none)\/∃ f fd ps,S.mg x=some (.ref f)/\PySem.W.keepIn S.K (.ref f)=true/\eO S.K fd ps/\FnS S d f fd ps m
abbrev toW (m:XF):XFW:=fun ws h=>(m ws h).bind fun p=>some (.d p.1,p.2)
structure Mk (K:PySem.W.Frag) (C f:Addr):Prop where
 makes:PySem.W.makesIn K C=true
 init:PySem.W.findIn K (.ref C) "__init__"=some (some (.ref f))
 fn:PySem.W.isFn K (.ref f)=true
 kp:PySem.W.keepIn K (.ref C)=true
structure TbS (S:Sx) (c0:Addr) (pos:Pos):Prop where
 hd:PySem.W.codeHdIn S.K c0 S.tp=true
 tr:TriplesOk S.tb.toList
 no:codeAmong pos S.tb.toList=none
 bm:S.base.BuiltinsAt S.mg S.tp
structure LamOk (X:Cx) (d:Nat) (q:Str×Pos):Prop where
 qual:X.env.qual=q.1
 code:∃ c0,X.env.code=.ref c0/\TbS X.S c0 q.2
 dp:X.A.depth+3*d+7 < recursionLimit
 un:X.A.units+16*d+212 < cLine
structure Good (X:Cx) (st:Sta) (d:Nat):Prop where
 bl:∀ x,st.bl.contains x=true->X.S.mg x=none
 gc:∀ x z,st.gc x=some z->∃ u,X.S.mg x=some u/\Rep X.S X.S.base.get? z u
 tk:∀ x f,st.tk x=some f->∃ p,X.S.mg x=some (.ref p)/\TabK X.S p f
 fn:∀ x m,st.fn x=some m->FnG X.S d x (toW m)
 fnW:∀ x m,st.ob.fnW x=some m->FnG X.S d x m
 cls:∀ x C m,st.ob.cls x=some (C,m)->(∀ ws h,m ws h=none)\/∃ k f fd ps,k+1<=d/\Mk X.S.K C f/\FnS X.S k f fd ps m/\X.S.mg x=some (.ref C)/\eO X.S.K fd ps
 om:∀ x C m,st.ob.om x=some (C,m)->(∀ ws h,m ws h=none)\/(Cls X.S.K C/\∃ f fd ps,Meth X.S.K C x f/\FnS X.S d f fd ps m/\eO X.S.K fd ps)
 fo:∀ C f,st.ob.fo C f=true->Cls X.S.K C/\wH X.S.K C f
 N:X.N=st.N
 S:X.env.scope=st.S
 top:st.top=true->X.fn=true
 rm:Room X.S d X.A
 hm:st.hm=X.S.hm
 qn:∀ q,st.qn=some q->LamOk X d q
def Pt (S:Sx) (κ:Kp) (M:Mp) (h:aA) (b:Bool) (c:Bool) (s:Shared):Prop:=c=b/\∃ M',Le M M'/\Mem S κ M' h s
def Pa (S:Sx) (κ:Kp) (M:Mp) (h:aA) (ws:List W) (us:List Value) (s:Shared):Prop:=∃ M',Le M M'/\Mem S κ M' h s/\RepWs S M' ws us
def SE (X:Cx) (e:Expr) (f:XR W):Prop:=∀ ⦃κ M δ h s w h'⦄,Mem X.S κ M h s->Fra X κ M δ->f δ h=some (w,h')->Wp X.S X.A (eval e X.env) (Pw X.S κ M h' w) NE s
def SF (X:Cx) (e:Expr) (f:XR (List PyData)):Prop:=∀ ⦃κ M δ h s w h'⦄,Mem X.S κ M h s->Fra X κ M δ->f δ h=some (w,h')->Wp X.S X.A (eval e X.env) (Pf X.S κ M h' w) NE s
def ST (X:Cx) (e:Expr) (f:XR Bool):Prop:=∀ ⦃κ M δ h s w h'⦄,Mem X.S κ M h s->Fra X κ M δ->f δ h=some (w,h')->Wp X.S X.A (isTrue e X.env (eval e X.env)) (Pt X.S κ M h' w) NE s
def SW (X:Cx) (e:Expr) (f:XR Bool):Prop:=∀ (wh:Sem Value) ⦃κ M δ h s w h'⦄,Mem X.S κ M h s->Fra X κ M δ->f δ h=some (w,h')->Wp X.S X.A (isTrue e X.env wh) (Pt X.S κ M h' w) NE s
def SA (X:Cx) (es:List Expr) (f:XR (List W)):Prop:=∀ (pos:Pos) ⦃κ M δ h s ws h'⦄,Mem X.S κ M h s->Fra X κ M δ->f δ h=some (ws,h')->Wp X.S X.A (spliced (backTo pos (starEach es X.env))) (Pa X.S κ M h' ws) NE s
def SO (X:Cx) (e:Option Expr) (f:XR (Option Int)):Prop:=∀ ⦃κ M δ h s o h'⦄,Mem X.S κ M h s->Fra X κ M δ->f δ h=some (o,h')->Wp X.S X.A (evalPart e X.env) (fun u s'=>IsPart u o/\∃ M',Le M M'/\Mem X.S κ M' h' s') NE s
def SG (X:Cx) (tg:Expr) (g:XG):Prop:=∀ ⦃κ M δ h s w u δ' h'⦄,Mem X.S κ M h s->Fra X κ M δ->RepW X.S M w u->g w δ h=some (δ',h')->Wp X.S X.A (assign tg X.env u) (fun _ s'=>∃ κ' M',Own X κ κ'/\Le M M'/\Mem X.S κ' M' h' s'/\Fra X κ' M' δ') NE s
def Fw (X:Cx) (κ:Kp) (M:Mp):Fl->Flow->Prop
 | .nx δ,.next=>Fra X κ M δ
 | .bk δ,.brk=>Fra X κ M δ
 | .ct δ,.cont=>Fra X κ M δ
 | .rt w,.ret u=>RepW X.S M w u
 | _,_=>False
def Ps (X:Cx) (κ:Kp) (M:Mp) (h:aA) (fl:Fl) (f:Flow) (s:Shared):Prop:=∃ κ' M',Own X κ κ'/\Le M M'/\Mem X.S κ' M' h s/\Fw X κ' M' fl f
def SS (X:Cx) (st:Stmt) (f:XS):Prop:=∀ ⦃κ M δ h s fl h'⦄,Mem X.S κ M h s->Fra X κ M δ->f δ h=some (fl,h')->Wp X.S X.A (exec st X.env) (Ps X κ M h' fl) NE s
def SSs (X:Cx) (st:List Stmt) (f:XS):Prop:=∀ ⦃κ M δ h s fl h'⦄,Mem X.S κ M h s->Fra X κ M δ->f δ h=some (fl,h')->Wp X.S X.A (execs st X.env) (Ps X κ M h' fl) NE s
structure Snd (v:Evs):Prop where
 E:∀ {X st d},Good X st d->∀ e,SE X e (v.E st e)
 T:∀ {X st d},Good X st d->∀ e,ST X e (v.T st e)
 F:∀ {X st d},Good X st d->∀ e,SF X e (v.F st e)
 G:∀ {X st d},Good X st d->∀ e,SG X e (v.G st e)
 S:∀ {X st d},Good X st d->∀ s,SS X s (v.S st s)
section
variable {X:Cx} {st:Sta} {d:Nat} {x:Str} {v:Evs} {a b c t:Expr} {pos:Pos} {es:List Expr} {κ:Kp} {M:Mp} {δ:DSt} {h h':aA} {s:Shared} {w:W} {E:Value->Shared->Prop}
def aF {α β:Type} {f:XR α} {g:α->XR β} {r:β×aA} (e:xb f g δ h=some r):∃ p h1,f δ h=some (p,h1)/\g p δ h1=some r:=let ⟨⟨p,h1⟩,e1,e2⟩:=bind_some e;⟨p,h1,e1,e2⟩
def mY (G:Good X st d) {i:Nat} (e:slot st x=some i):X.N[i]?=some x:=by
 rw [G.N];obtain ⟨h1,h2,_⟩:=List.findIdx?_eq_some_iff_getElem.mp e;rw [List.getElem?_eq_getElem h1,eq_of_beq h2]
def bJ5 (G:Good X st d) (h:bI0 st.S x=true):Vis X.env.scope x:=by
 unfold Vis;rw [G.S];unfold bI0 at h;split at h
 ·rename_i e;exact .inl e
 ·rename_i e;exact .inr (.inl e)
 ·rename_i e;exact .inr (.inr e)
 ·cases h
def aI1 (G:Good X st d) (h:(rF st.S x&&(st.top||dH st.S x))=true):Loc X.env.scope x/\(X.fn=true\/X.env.scope.names.lookup x=some .local):=by
 rw [Bool.and_eq_true,Bool.or_eq_true] at h;obtain ⟨h1,h2⟩:=h;unfold Loc;rw [G.S];refine ⟨?_,?_⟩
 ·unfold rF at h1;split at h1
  ·rename_i e;exact .inl e
  ·rename_i e;exact .inr e
  ·cases h1
 ·rcases h2 with h2 | h2
  ·exact .inl (G.top h2)
  ·unfold dH at h2;split at h2
   ·rename_i e;exact .inr e
   ·cases h2
def rN (G:Good X st d) (h:cV st x=true):aY x=true/\Gl X x:=by
 unfold cV at h;rw [Bool.and_eq_true] at h;refine ⟨h.1,?_⟩;unfold Gl Env.kindOf;rw [G.S];have h2:=h.2;unfold glB at h2;split at h2
 ·rename_i e;exact e
 ·cases h2
def dI {e:Expr}:SE X e xno:=fun _ _ _ _ _ _ _ _ _ e=>by cases e
def aI2 (G:Good X st d):SE X (.Name x pos) (xZ st x):=by
 unfold xZ;split
 ·rename_i hn;split
  ·rename_i i hi;split
   ·rename_i hv;intro κ M δ h s w h' R F e;unfold aB at e;split at e
    ·rename_i e';cases e;exact bV4 F R (mY G hi) e' (bJ5 G hv) hn
    ·cases e
   ·exact dI
  ·split
   ·rename_i z hz;split
    ·rename_i hg;intro κ M δ h s w h' R F e;cases e;obtain ⟨u,m,r⟩:=G.gc _ _ hz;exact fU F R (rN G (by unfold cV;rw [hn,hg];rfl)).2 m hn (R.pw (Rep.go R.base r))
    ·exact dI
   ·exact dI
 ·exact dI
def aV1 {c:Const} {j:Nat}:SE X (.Constant c j pos) (aG8 c):=by
 intro κ M δ h s w h' R F e;cases c with
 | none=>cases e;exact Constant_none R.pn
 | bool b=>cases e;exact Constant_bool R.pb
 | int i=>cases e;exact wpAny_Constant_int R.pi
 | str x =>
  have e:(if PyData.strOk x=true then aD (.d (.str x)) else xno:XR W) δ h=some (w,h'):=e
  by_cases hx:PyData.strOk x=true
  case neg=>rw [if_neg hx] at e;cases e
  rw [if_pos hx] at e;cases e;exact Calls.Constant_str ((R.tok _).pw (show Rep X.S M.Z _ _ from rep_s.mpr ⟨⟨_,rfl⟩,hx⟩))
 | _=>cases e
def two {fa fb:XR W} {k:W->W->aA->Option (W×aA)} (ha:SE X a fa) (hb:SE X b fb) {f:Value->Value->Sem Value} {r:W×aA} (R:Mem X.S κ M h s) (F:Fra X κ M δ) (e:xb fa (fun u=>xb fb fun w=>fun _ h=>k u w h) δ h=some r)
  (hf:∀ {M1 h1 s1 x y u v},Mem X.S κ M1 h1 s1->Fra X κ M1 δ->RepW X.S M1 x u->RepW X.S M1 y v->k x y h1=some r->Wp X.S X.A (f u v) (Pw X.S κ M1 r.2 r.1) NE s1) :
  Wp X.S X.A (eval a X.env) (fun u s₁=>Wp X.S X.A (eval b X.env) (fun v s₂=>Wp X.S X.A (f u v) (Pw X.S κ M r.2 r.1) NE s₂) NE s₁) NE s:=by
 obtain ⟨x,h1,e1,e⟩:=aF e;obtain ⟨y,h2,e2,e⟩:=aF e;refine thn (ha R F e1) fun u s1 ⟨M1,l1,R1,r1⟩=>thn (hb R1 (F.go l1) e2) fun v s2 ⟨M2,l2,R2,r2⟩=>?_;exact thn (hf R2 ((F.go l1).go l2) (r1.go l2) r2 e) fun _ _ q=>q.go (l1.trans l2)
def bV7 (S:Snd v) (G:Good X st d) {op:Operator}:SE X (.BinOp a op b pos) (xb (v.E st a) fun u=>xb (v.E st b) fun w=>fun _ h=>hV op u w h):=fun _ _ _ _ _ _ _ R F e =>
 wpAny_BinOp (two (S.E G a) (S.E G b) R F e fun R1 _ ra rb e=>bin_ok R1 ra rb e)
theorem bV8 (S:Snd v) (G:Good X st d):SE X (.UnaryOp .Not a pos) (xb (v.E st a) fun w=>(match w with
  | .d (.bool b)=>aD (.d (.bool (!b)))
  | _=>xno)):=by
 intro κ M δ h s w h' R F e;obtain ⟨x,h1,e1,e⟩:=aF e;refine UnaryOp_ (thn (S.E G a R F e1) fun u s1 ⟨M1,l1,R1,r1⟩=>?_);obtain ⟨b,rfl,e⟩:∃ b,x=.d (.bool b)/\aD (.d (.bool (!b))) δ h1=some (w,h'):=by rcases x with (_ | b | _ | _ | _ | _ | _) | _<;>first | cases e;done | exact ⟨_,rfl,e⟩
 cases e;cases wb.mp r1;exact not_of (wpAny_truthy_bool (R1.pb.go l1))
theorem bV9 (S:Snd v) (G:Good X st d):SE X (.UnaryOp .USub a pos) (xb (v.E st a) fun w=>(match w with
  | .d (.int i)=>aD (.d (.int (-i)))
  | _=>xno)):=by
 intro κ M δ h s w h' R F e;obtain ⟨x,h1,e1,e⟩:=aF e;refine UnaryOp_ (thn (S.E G a R F e1) fun u s1 ⟨M1,l1,R1,r1⟩=>?_);obtain ⟨b,rfl,e⟩:∃ b,x=.d (.int b)/\aD (.d (.int (-b))) δ h1=some (w,h'):=by rcases x with (_ | b | _ | _ | _ | _ | _) | _<;>first | cases e;done | exact ⟨_,rfl,e⟩
 cases e;exact thn (bJ3 R1 r1) fun _ _ q=>q.go l1
def bW0 (S:Snd v) (G:Good X st d):SE X (.IfExp c a b pos) (xb (v.T st c) fun t=>if t=true then v.E st a else v.E st b):=by
 intro κ M δ h s w h' R F e;obtain ⟨x,h1,e1,e⟩:=aF e;refine wpAny_IfExp (thn (S.T G c R F e1) fun t s1 ⟨et,M1,l1,R1⟩=>?_);subst et;cases t with
 | true=>exact thn (S.E G a R1 (F.go l1) e) fun _ _ q=>q.go l1
 | false=>exact thn (S.E G b R1 (F.go l1) e) fun _ _ q=>q.go l1
theorem aI3 (S:Snd v) (G:Good X st d):∀ vs,SE X (.BoolOp .And vs pos) (aG9 v st vs)
 | []=>fun _ _ _ _ _ _ _ R F e=>by cases e
 | [a]=>fun _ _ _ _ _ _ _ R F e=>BoolOp_one (S.E G a R F e)
 | a::b::r=>by
  intro κ M δ h s w h' R F e;obtain ⟨x,h1,e1,e⟩:=aF e;refine BoolOp_and (thn (S.E G a R F e1) fun u s1 ⟨M1,l1,R1,r1⟩=>?_);rcases x with (_ | b | _ | _ | _ | _ | _) | _<;>first | cases e;done | skip
  cases wb.mp r1;cases b
  ·cases e;exact wpAny_truthy_bool (R1.pb.go l1)
  ·exact wpAny_truthy_bool (thn (aI3 S G _ R1 (F.go l1) e) fun _ _ q=>q.go l1)
theorem bE1 (S:Snd v) (G:Good X st d):∀ vs,SE X (.BoolOp .Or vs pos) (bI4 v st vs)
 | []=>fun _ _ _ _ _ _ _ R F e=>by cases e
 | [a]=>fun _ _ _ _ _ _ _ R F e=>BoolOp_one (S.E G a R F e)
 | a::b::r=>by
  intro κ M δ h s w h' R F e;obtain ⟨x,h1,e1,e⟩:=aF e;refine BoolOp_or (thn (S.E G a R F e1) fun u s1 ⟨M1,l1,R1,r1⟩=>?_);rcases x with (_ | b | _ | _ | _ | _ | _) | _<;>first | cases e;done | skip
  cases wb.mp r1;cases b
  ·exact wpAny_truthy_bool (thn (bE1 S G _ R1 (F.go l1) e) fun _ _ q=>q.go l1)
  ·cases e;exact wpAny_truthy_bool (R1.pb.go l1)
def Pt.go {S:Sx} {M M':Mp} {b c:Bool} (l:Le M M') (p:Pt S κ M' h b c s):Pt S κ M h b c s:=let ⟨e,N,a,b⟩:=p;⟨e,N,l.trans a,b⟩
theorem bE2 (S:Snd v) (G:Good X st d):∀ vs,SW X (.BoolOp .And vs pos) (aH0 v st vs)
 | []=>fun _ _ _ _ _ _ _ _ R F e=>by cases e
 | [a]=>fun wh _ _ _ _ _ _ _ R F e=>isTrue_and (thn (S.T G a R F e) fun c s1 q=>by
  cases c with
  | true=>exact isTrue_and_nil q
  | false=>exact q)
 | a::b::r=>by
  intro wh κ M δ h s w h' R F e;obtain ⟨x,h1,e1,e⟩:=aF e;refine isTrue_and (thn (S.T G a R F e1) fun t s1 ⟨et,M1,l1,R1⟩=>?_);subst et;cases t with
  | true=>exact thn (bE2 S G (b::r) wh R1 (F.go l1) e) fun _ _ q=>q.go l1
  | false=>cases e;exact ⟨rfl,M1,l1,R1⟩
theorem bW1 (S:Snd v) (G:Good X st d):∀ vs,SW X (.BoolOp .Or vs pos) (bI5 v st vs)
 | []=>fun _ _ _ _ _ _ _ _ R F e=>by cases e
 | [a]=>fun wh _ _ _ _ _ _ _ R F e=>isTrue_or (thn (S.T G a R F e) fun c s1 q=>by
  cases c with
  | false=>exact isTrue_or_nil q
  | true=>exact q)
 | a::b::r=>by
  intro wh κ M δ h s w h' R F e;obtain ⟨x,h1,e1,e⟩:=aF e;refine isTrue_or (thn (S.T G a R F e1) fun t s1 ⟨et,M1,l1,R1⟩=>?_);subst et;cases t with
  | true=>cases e;exact ⟨rfl,M1,l1,R1⟩
  | false=>exact thn (bW1 S G (b::r) wh R1 (F.go l1) e) fun _ _ q=>q.go l1
def aI4 (G:Good X st d) {f:Str->Option PyData} (e:jS st b=some f):∃ y p p',b=.Name y p'/\aY y=true/\Gl X y/\X.S.mg y=some (.ref p)/\TabK X.S p f:=by
 unfold jS at e;cases b<;>first | (cases e;done) | skip
 obtain ⟨ht,e⟩:=aG e;rw [Bool.and_eq_true] at ht;obtain ⟨h1,h2⟩:=rN G ht.1;obtain ⟨p,h3,h4⟩:=G.tk _ _ e;exact ⟨_,p,_,rfl,h1,h2,h3,h4⟩
def bW2 (S:Snd v) (G:Good X st d) {f:Str->Option PyData} (hf:jS st b=some f) {r:Bool×aA} (R:Mem X.S κ M h s) (F:Fra X κ M δ) (e:lZ f (v.E st a) δ h=some r) :
  behindInMarks .NotIn b=false/\Wp X.S X.A (eval a X.env) (fun u s₁=>Wp X.S X.A (eval b X.env) (fun v s₂=>Wp X.S X.A (compareOp .NotIn u v) (Pw X.S κ M r.2 (.d (.bool r.1))) NE s₂) NE s₁) NE s:=by
 obtain ⟨y,p,p',rfl,hn,hg,hm,T⟩:=aI4 G hf;refine ⟨rfl,?_⟩;obtain ⟨x,h1,e1,e⟩:=aF e;refine thn (S.E G a R F e1) fun u s1 ⟨M1,l1,R1,r1⟩=>fU (F.go l1) R1 hg hm hn ?_;obtain ⟨g,m,g0,g1,g2⟩:=T.map (prog:=X.S.P) (F.ok.mod.kin.keeps R1.bk);rcases x with (_ | _ | _ | z | _ | _ | _) | _<;>first | cases e;done | skip
 ·cases e;cases wn.mp r1;refine wpAny_notIn_of (k:=none) rfl T.sm m ?_;rw [g0];exact (R1.tok _).pb.go l1
 ·cases e;obtain ⟨⟨t,rfl⟩,_⟩:=rep_s.mp (show Rep X.S M1.Z _ _ from r1);refine wpAny_notIn_of (k:=some z) (rM z t) T.sm m ?_;have eg:(g (some z)).isSome=(f z).isSome:=by
   cases q:f z with
   | none=>rw [g2 z q];rfl
   | some i=>obtain ⟨t',q',_⟩:=g1 z i q;rw [q'];rfl
  rw [eg];exact (R1.tok _).pb.go l1
def bE3 (S:Snd v) (G:Good X st d) {op:CmpOp} {r:Bool×aA} (R:Mem X.S κ M h s) (F:Fra X κ M δ) (e:gE v st a [op] [b] δ h=some r) :
  behindInMarks op b=false/\Wp X.S X.A (eval a X.env) (fun u s₁=>Wp X.S X.A (eval b X.env) (fun v s₂=>Wp X.S X.A (compareOp op u v) (Pw X.S κ M r.2 (.d (.bool r.1))) NE s₂) NE s₁) NE s:=by
 cases hf:jS st b with
 | some f =>
  have e:(match jS st b with
   | some f=>if op=CmpOp.NotIn then lZ f (v.E st a) else xno
   | none=>if behindInMarks op b=true then xno else xC1 op (v.E st a) (v.E st b)) δ h=some r:=e
  rw [hf] at e
  by_cases ho:op=CmpOp.NotIn
  ·subst ho;exact bW2 S G hf R F e
  ·have e:(if op=CmpOp.NotIn then lZ f (v.E st a) else xno) δ h=some r:=e;rw [if_neg ho] at e;cases e
 | none =>
  have e:(match jS st b with
   | some f=>if op=CmpOp.NotIn then lZ f (v.E st a) else xno
   | none=>if behindInMarks op b=true then xno else xC1 op (v.E st a) (v.E st b)) δ h=some r:=e
  rw [hf] at e;have e:(if behindInMarks op b=true then xno else xC1 op (v.E st a) (v.E st b)) δ h=some r:=e
  by_cases hb:behindInMarks op b=true
  ·rw [if_pos hb] at e;cases e
  ·rw [if_neg hb] at e;refine ⟨by simpa using hb,?_⟩;obtain ⟨x,h1,e1,e⟩:=aF e;obtain ⟨y,h2,e2,e⟩:=aF e;refine thn (S.E G a R F e1) fun u s1 ⟨M1,l1,R1,r1⟩=>thn (S.E G b R1 (F.go l1) e2) fun v s2 ⟨M2,l2,R2,r2⟩=>?_;obtain ⟨q1,q2⟩:=gN (A:=X.A) (E:=NE) G.rm R2 (r1.go l2) r2 e;rw [q1];exact thn q2 fun _ _ q=>q.go (l1.trans l2)
def bJ6 (S:Snd v) (G:Good X st d) {op op':CmpOp} {p:Bool×aA} (hm:lastMarks [op,op'] [b,c]=false) (R:Mem X.S κ M h s) (F:Fra X κ M δ) (e:xC2 op op' (v.E st a) (v.E st b) (v.E st c) δ h=some p):Wp X.S X.A (eval (.Compare a [op,op'] [b,c] pos) X.env) (Pw X.S κ M p.2 (.d (.bool p.1))) NE s:=by
 obtain ⟨x,h1,e1,e⟩:=aF e;obtain ⟨y,h2,e2,e⟩:=aF e;obtain ⟨p1,e3,e⟩:=bind_some e;refine Compare_chain (thn (S.E G a R F e1) fun u s1 ⟨M1,l1,R1,r1⟩=>chain_link (thn (S.E G b R1 (F.go l1) e2) fun v s2 ⟨M2,l2,R2,r2⟩=>?_)) hm;obtain ⟨q1,q2⟩:=gN (A:=X.A) (E:=NE) G.rm R2 (r1.go l2) r2 e3;obtain ⟨k,h3⟩:=p1;cases q1;refine thn q2 fun k' s3 ⟨M3,l3,R3,r3⟩=>?_;cases wb.mp r3;refine wpAny_truthy_bool ?_;dsimp only at e;cases k with
 | false=>cases e;exact ite_ff (R3.pb.go (l1.trans (l2.trans l3)))
 | true =>
  obtain ⟨⟨z,h4⟩,e4,e⟩:=bind_some e;refine ite_tt (chain_last (thn (S.E G c R3 ((F.go l1).go (l2.trans l3)) e4) fun t s4 ⟨M4,l4,R4,r4⟩=>?_));obtain ⟨q5,q6⟩:=gN (A:=X.A) (E:=NE) G.rm R4 (r2.go (l3.trans l4)) r4 e;rw [q5];exact thn q6 fun _ _ q=>q.go (l1.trans (l2.trans (l3.trans l4)))
def bJ7 (S:Snd v) (G:Good X st d) {op op':CmpOp} {p:Bool×aA} (hm:lastMarks [op,op'] [b,c]=false) (R:Mem X.S κ M h s) (F:Fra X κ M δ) (e:xC2 op op' (v.E st a) (v.E st b) (v.E st c) δ h=some p) {wh:Sem Value}:Wp X.S X.A (isTrue (.Compare a [op,op'] [b,c] pos) X.env wh) (Pt X.S κ M p.2 p.1) NE s:=by
 obtain ⟨x,h1,e1,e⟩:=aF e;obtain ⟨y,h2,e2,e⟩:=aF e;obtain ⟨p1,e3,e⟩:=bind_some e;refine isTrue_chain (thn (S.E G a R F e1) fun u s1 ⟨M1,l1,R1,r1⟩=>test_link (thn (S.E G b R1 (F.go l1) e2) fun v s2 ⟨M2,l2,R2,r2⟩=>?_)) hm;obtain ⟨q1,q2⟩:=gN (A:=X.A) (E:=NE) G.rm R2 (r1.go l2) r2 e3;obtain ⟨k,h3⟩:=p1;cases q1;refine thn q2 fun k' s3 ⟨M3,l3,R3,r3⟩=>?_;cases wb.mp r3;refine wpAny_truthy_bool ?_;dsimp only at e;cases k with
 | false=>cases e;exact ite_ff ⟨rfl,M3,l1.trans (l2.trans l3),R3⟩
 | true =>
  obtain ⟨⟨z,h4⟩,e4,e⟩:=bind_some e;refine ite_tt (test_last (thn (S.E G c R3 ((F.go l1).go (l2.trans l3)) e4) fun t s4 ⟨M4,l4,R4,r4⟩=>?_));obtain ⟨q5,q6⟩:=gN (A:=X.A) (E:=NE) G.rm R4 (r2.go (l3.trans l4)) r4 e;refine thn q6 fun k2 s5 ⟨M5,l5,R5,r5⟩=>?_;cases wb.mp r5;rw [q5];exact wpAny_truthy_bool ⟨rfl,M5,l1.trans (l2.trans (l3.trans (l4.trans l5))),R5⟩
def mE (S:Snd v) (G:Good X st d) {ops:List CmpOp} {cs:List Expr}:SE X (.Compare a ops cs pos) (bH (gE v st a ops cs)):=by
 intro κ M δ h s w h' R F e;obtain ⟨p,e2,ew⟩:=map_some (show (gE v st a ops cs δ h).map asW=_ from e);cases ew;clear e;have e:=e2;clear e2;rcases ops with _ | ⟨op,_ | ⟨op',_ | ⟨_,_⟩⟩⟩
 ·cases e
 ·rcases cs with _ | ⟨b,_ | ⟨_,_⟩⟩
  ·cases e
  ·obtain ⟨q1,q2⟩:=bE3 S G R F e;exact wpAny_Compare1 q2 q1
  ·cases e
 ·rcases cs with _ | ⟨b,_ | ⟨c,_ | ⟨_,_⟩⟩⟩
  ·cases e
  ·cases e
  ·have e:(if lastMarks [op,op'] [b,c]=true then xno else xC2 op op' (v.E st a) (v.E st b) (v.E st c)) δ h=some _:=e
   by_cases hm:lastMarks [op,op'] [b,c]=true
   ·rw [if_pos hm] at e;cases e
   ·rw [if_neg hm] at e;exact bJ6 S G (by simpa using hm) R F e
  ·cases e
 ·cases e
def bW3 (S:Snd v) (G:Good X st d) {ops:List CmpOp} {cs:List Expr}:ST X (.Compare a ops cs pos) (gE v st a ops cs):=by
 intro κ M δ h s w h' R F e;rcases ops with _ | ⟨op,_ | ⟨op',_ | ⟨_,_⟩⟩⟩
 ·cases e
 ·rcases cs with _ | ⟨b,_ | ⟨_,_⟩⟩
  ·cases e
  ·obtain ⟨q1,q2⟩:=bE3 S G R F e;refine wpAny_isTrue_Compare1 (thn q2 fun u s1 q=>thn q fun v s2 q=>thn q fun k s3 ⟨M3,l3,R3,r3⟩=>?_) q1;cases wb.mp r3;exact wpAny_truthy_bool ⟨rfl,M3,l3,R3⟩
  ·cases e
 ·rcases cs with _ | ⟨b,_ | ⟨c,_ | ⟨_,_⟩⟩⟩
  ·cases e
  ·cases e
  ·have e:(if lastMarks [op,op'] [b,c]=true then xno else xC2 op op' (v.E st a) (v.E st b) (v.E st c)) δ h=some _:=e
   by_cases hm:lastMarks [op,op'] [b,c]=true
   ·rw [if_pos hm] at e;cases e
   ·rw [if_neg hm] at e;exact bJ7 S G (by simpa using hm) R F e
  ·cases e
 ·cases e
def bS (e:Expr) (hs:aI e=true):starEach (e::es) X.env=(false,eval e X.env)::starEach es X.env:=by
 cases e<;>first | rfl | cases hs
theorem bU (S:Snd v) (G:Good X st d):∀ es,SA X es (aX v st es)
 | []=>fun pos _ _ _ _ _ _ _ R F e=>by cases e;exact Calls.spliced_nil ⟨_,.refl,R,.nil⟩
 | a::es=>by
  intro pos κ M δ h s ws h' R F e;have e:(if aI a=true then xb (v.E st a) fun w=>xb (aX v st es) fun ws=>aD (w::ws) else xno) δ h=some (ws,h'):=e
  by_cases hs:aI a=true
  ·rw [if_pos hs] at e;obtain ⟨x,h1,e1,e⟩:=aF e;obtain ⟨y,h2,e2,e⟩:=aF e;cases e;rw [bS a hs];show Wp _ _ (spliced ((false,eval a X.env)::backTo pos (starEach es X.env))) _ _ s;refine Calls.spliced_cons (thn (S.E G a R F e1) fun u s1 ⟨M1,l1,R1,r1⟩=>?_);exact thn (bU S G es pos R1 (F.go l1) e2) fun us s2 ⟨M2,l2,R2,r2⟩=>⟨M2,l1.trans l2,R2,.cons (r1.go l2) r2⟩
  ·rw [if_neg hs] at e;cases e
theorem eZ {v:Evs} {st:Sta}:∀ {es:List Expr} {δ:DSt} {h:aA} {r:List W×aA},aX v st es δ h=some r->es.all aI=true
 | [],_,_,_,_=>rfl
 | a::es,δ,h,r,e=>by
  have e:(if aI a=true then xb (v.E st a) fun w=>xb (aX v st es) fun ws=>aD (w::ws) else xno) δ h=some r:=e
  by_cases hs:aI a=true
  ·rw [if_pos hs] at e;obtain ⟨x,h1,e1,e⟩:=aF e;obtain ⟨y,h2,e2,e⟩:=aF e;rw [List.all_cons,hs,eZ e2];rfl
  ·rw [if_neg hs] at e;cases e
theorem cL (pos:Pos):∀ (es:List Expr),es.all aI=true->(backTo pos (starEach es X.env)).any (·.1)=false
 | [],_=>rfl
 | e::es,h=>by
  rw [List.all_cons,Bool.and_eq_true] at h;have:=cL pos es h.2;rw [bS e h.1];show (false||(backTo pos (starEach es X.env)).any (·.1))=false;rw [this];rfl
theorem nW {S:Sx} {M:Mp}:∀ {ws:List W} {xs:List PyData} {us:List Value},gM ws=some xs->RepWs S M ws us->Reps' S M xs us
 | [],_,_,e,h=>by cases e;cases h;exact .nil
 | .d x::ws,_,_,e,h=>by
  unfold gM at e;obtain ⟨ys,q,rfl⟩:=map_some e;cases h with
  | cons a t=>exact .cons a (nW q t)
 | .c _::ws,_,_,e,h=>by cases e
def yD (S:Snd v) (G:Good X st d) {xs:List PyData} {Q:List Value->Shared->Prop} (R:Mem X.S κ M h s) (F:Fra X κ M δ) (e:xPl (aX v st es) δ h=some (xs,h'))
  (q:∀ {M1 s1 us},Le M M1->Mem X.S κ M1 h' s1->Reps' X.S M1 xs us->us.length<=sizeLine->Q us s1):Wp X.S X.A (spliced (backTo pos (starEach es X.env))) Q NE s:=by
 obtain ⟨ws,h1,e1,e⟩:=aF e;refine thn (bU S G es pos R F e1) fun us s1 ⟨M1,l1,R1,r1⟩=>?_;split at e
 ·rename_i ys ey;obtain ⟨hl,e⟩:=aG e;cases e;have r:=nW ey r1;exact q l1 R1 r (by rw [<- r.length];exact hl)
 ·cases e
def bW4 (S:Snd v) (G:Good X st d) {k}:SE X (.Tuple es k pos) (xb (xPl (aX v st es)) fun xs=>aD (.d (.tuple xs))):=by
 intro κ M δ h s w h' R F e;obtain ⟨x,h1,e1,e⟩:=aF e;cases e;exact wpAny_Tuple_spliced (yD S G R F e1 fun l1 R1 r z=>⟨z,(R1.tup (t:=_) r z).go l1⟩)
def aI5 (S:Snd v) (G:Good X st d):SF X (.List es pos) (xPl (aX v st es)):=by
 intro κ M δ h s w h' R F e;refine wpAny_List_spliced (yD S G R F e fun {M1 s1 us} l1 R1 r z=>⟨z,?_⟩);obtain ⟨N,a,b⟩:=R1.lstP (t:=s1.toks) (n:=0) r z;exact ⟨N,l1.trans a,b⟩
theorem bE4 (S:Snd v) (G:Good X st d):∀ o,SO X o (wE v st o)
 | none=>fun _ _ _ _ _ _ _ R F e=>by cases e;rw [evalPart_none];exact wpAny_pure ⟨.none,_,.refl,R⟩
 | some a=>by
  intro κ M δ h s o h' R F e;obtain ⟨x,h1,e1,e⟩:=aF (show xb (v.E st a) (fun w=>match w with
   | .d (.int i)=>aD (some i)
   | _=>xno) δ h=some (o,h') from e)
  rw [evalPart_some];refine thn (S.E G a R F e1) fun u s1 ⟨M1,l1,R1,r1⟩=>?_;rcases x with (_ | _ | i | _ | _ | _ | _) | _<;>first | cases e;done | skip
  cases e;obtain ⟨t,rfl⟩:=wi.mp r1;exact ⟨.int _ t,M1,l1,R1⟩
def cL6 (S:Snd v) (G:Good X st d) {lo hi:Option Expr} {p2:Pos} {α:Type} {Q:α->Value->Shared->Prop} {k:W->Option Int->Option Int->aA->Option (α×aA)} {r:α×aA} (R:Mem X.S κ M h s) (F:Fra X κ M δ) (e:xb (v.E st a) (fun x=>xb (wE v st lo) fun l=>xb (wE v st hi) fun u=>fun _ h=>k x l u h) δ h=some r)
  (q:∀ {M1 h1 s1 x u vl vu l hh sl},Le M M1->Mem X.S κ M1 h1 s1->RepW X.S M1 x u->s1.heap.IsSliceOf sl vl vu .none->IsPart vl l->IsPart vu hh->k x l hh h1=some r->∃ T id,typeLookup (.type T) "__getitem__"=pure (some (.builtin id))/\s1.TypeIs u T/\Wp X.S X.A (getItem u (.ref sl)) (Q r.1) NE s1) :
  Wp X.S X.A (eval (.Subscript a (.Slice lo hi none p2) pos) X.env) (Q r.1) NE s:=by
 obtain ⟨x,h1,e1,e⟩:=aF e;obtain ⟨l,h2,e2,e⟩:=aF e;obtain ⟨hh,h3,e3,e⟩:=aF e;refine Subscript_ (thn (S.E G a R F e1) fun u s1 ⟨M1,l1,R1,r1⟩=>?_);refine wpAny_Slice (thn (bE4 S G lo R1 (F.go l1) e2) fun vl s2 ⟨pl,M2,l2,R2⟩=>thn (bE4 S G hi R2 ((F.go l1).go l2) e3) fun vu s3 ⟨pu,M3,l3,R3⟩=>?_);rw [evalPart_none];refine wpAny_pure ?_;have R4:Mem X.S κ M3 h3 { s3 with heap:=s3.heap.push { cls:=.type "slice",data:=.fields #[vl,vu,.none] } }:=R3.kept (t:=s3.toks) fun b ob q=>Heap.get?_push_of_some _ q;obtain ⟨T,id,hT,ht,hg⟩:=q (l1.trans (l2.trans l3)) R4 (r1.go (l2.trans l3)) (Heap.IsSliceOf.new ..) pl pu e;show Wp X.S X.A (subscriptTail a (.Slice lo hi none p2) u (.ref s3.heap.objs.size)) _ _ { s3 with heap:=s3.heap.push { cls:=.type "slice",data:=.fields #[vl,vu,.none] } };exact tail_any (ops:=[.ref s3.heap.objs.size,u]) ht hT hg (by with_unfolding_all rfl)
end
end DL

namespace DL
open PySem PySem.Spec PyProof.Rows L2 CI
structure Turn (S:Sx) (tg:Expr) (all:List PyData) (c:Cw) (M0:Mp) (fp:List Addr) (it:Addr) (tn:Nat->Heap->Prop):Prop where
 keep:∀ i h h',tn i h->(∀ b∈fp,∀ o,h.get? b=some o->h'.get? b=some o)->tn i h'
 obj:∀ i h,tn i h->∀ b∈fp,∃ o,h.get? b=some o
 item:∀ {A:Around} {κ:Kp} {M:Mp} {h:aA} {s:Shared} {E:Value->Shared->Prop} {i:Nat} {x:PyData},(S.hm=false->A.handled=none)->Hk A M->Mem S κ M h s->Le M0 M->(∀ b∈fp,aU κ M b)->tn i s.heap->all[i]?=some x->condB c all h=true ->
  Wp S A (pyNext (.ref it)) (fun r s1=>∃ u,r=some u/\Wp S A (letOwnedTupleGo tg (.ref it) u) (fun _ s2=>∃ M',Le M M'/\Mem S κ M' h s2/\Rep S M'.Z x u/\tn (i+1) s2.heap/\∀ b∈fp,aU κ M' b) E s1) E s
 done:∀ {A:Around} {κ:Kp} {M:Mp} {h:aA} {s:Shared} {E:Value->Shared->Prop} {i:Nat},(S.hm=false->A.handled=none)->Hk A M->Mem S κ M h s->Le M0 M->(∀ b∈fp,aU κ M b)->tn i s.heap->all.length<=i->condB c all h=true ->
  Wp S A (pyNext (.ref it)) (fun r s1=>r=none/\Mem S κ M h s1) E s
 self:∀ (A:Around) (i:Nat) (s:Shared) (Q:Value->Shared->Prop) (E:Value->Shared->Prop),tn i s.heap->Q (.ref it) s->Wp S A (pyIter (.ref it)) Q E s
structure TurnW (S:Sx) (tg:Expr) (all:List W) (co:aA->Bool) (M0:Mp) (fp:List Addr) (it:Addr) (tn:Nat->Heap->Prop):Prop where
 keep:∀ i h h',tn i h->(∀ b∈fp,∀ o,h.get? b=some o->h'.get? b=some o)->tn i h'
 obj:∀ i h,tn i h->∀ b∈fp,∃ o,h.get? b=some o
 item:∀ {A:Around} {κ:Kp} {M:Mp} {h:aA} {s:Shared} {E:Value->Shared->Prop} {i:Nat} {x:W},(S.hm=false->A.handled=none)->Hk A M->Mem S κ M h s->Le M0 M->(∀ b∈fp,aU κ M b)->tn i s.heap->all[i]?=some x->co h=true ->
  Wp S A (pyNext (.ref it)) (fun r s1=>∃ u,r=some u/\Wp S A (letOwnedTupleGo tg (.ref it) u) (fun _ s2=>∃ M',Le M M'/\Mem S κ M' h s2/\RepW S M' x u/\tn (i+1) s2.heap/\∀ b∈fp,aU κ M' b) E s1) E s
 done:∀ {A:Around} {κ:Kp} {M:Mp} {h:aA} {s:Shared} {E:Value->Shared->Prop} {i:Nat},(S.hm=false->A.handled=none)->Hk A M->Mem S κ M h s->Le M0 M->(∀ b∈fp,aU κ M b)->tn i s.heap->all.length<=i->co h=true ->
  Wp S A (pyNext (.ref it)) (fun r s1=>r=none/\Mem S κ M h s1) E s
 self:∀ (A:Around) (i:Nat) (s:Shared) (Q:Value->Shared->Prop) (E:Value->Shared->Prop),tn i s.heap->Q (.ref it) s->Wp S A (pyIter (.ref it)) Q E s
def Turn.w {S:Sx} {tg:Expr} {all:List PyData} {c:Cw} {M0:Mp} {fp:List Addr} {it:Addr} {tn:Nat->Heap->Prop} (T:Turn S tg all c M0 fp it tn):TurnW S tg (all.map .d) (condB c all) M0 fp it tn where
 keep:=T.keep
 obj:=T.obj
 item:=fun {A κ M h s E i x} hd hk R l hf st hx co=>by
  rw [List.getElem?_map] at hx;obtain ⟨y,hy,rfl⟩:=map_some hx;exact T.item hd hk R l hf st hy co
 done:=fun hd hk R l hf st hx co=>T.done hd hk R l hf st (by simpa using hx) co
 self:=T.self
def Pi (S:Sx) (κ:Kp) (M:Mp) (h:aA) (tg:Expr) (p:List PyData×Cw) (u:Value) (s:Shared):Prop :=
 ∃ M' it fp tn,Le M M'/\Mem S κ M' h s/\u=.ref it/\Turn S tg p.1 p.2 M' fp it tn/\tn 0 s.heap/\(∀ b∈fp,aU κ M' b)/\p.1.length<=sizeLine
def SI (X:Cx) (tg iter:Expr) (f:XR (List PyData×Cw)):Prop:=∀ ⦃κ M δ h s p h'⦄,Mem X.S κ M h s->Fra X κ M δ->f δ h=some (p,h')->Wp X.S X.A (eval iter X.env) (fun v s1=>Wp X.S X.A (pyIter v) (Pi X.S κ M h' tg p) NE s1) NE s
def yF {M:Model} {A:Around} {E:Value->Shared->Prop} {s:Shared} {tg:Expr} {it:Addr} {u:Value} {o:Obj} {n:String} {vs:Array Value} {Q:Unit->Shared->Prop} (ho:s.heap.get? it=some o) (hc:o.cls=.type n) (hd:o.data=.fields vs)
  (hn:["enumerate","zip","dict_itemiterator","dict_reverseitemiterator","odict_iterator","itertools.zip_longest","itertools.pairwise"].contains n=false) (hQ:Q () s):wpAny M A (letOwnedTupleGo tg (.ref it) u) Q E s:=by
 unfold letOwnedTupleGo;cases tg<;>first
  | exact wpAny_pure hQ
  | (cases u<;>first
    | exact wpAny_pure hQ
    | (refine wpAny_bind (wpAny_load ho ?_)
       rw [hc,hd];show wpAny M A (if (["enumerate","zip","dict_itemiterator","dict_reverseitemiterator","odict_iterator","itertools.zip_longest","itertools.pairwise"].contains n&&vs[0]?==some (rawInt _))=true then _ else _) Q E s;rw [if_neg (by intro h;rw [hn,Bool.false_and] at h;cases h)];exact wpAny_pure hQ))
mutual
theorem nX:∀ {a b:PyData},peq a b=true->a=b
 | .none,b,h=>by cases b<;>first | rfl | cases h
 | .bool x,b,h=>by cases b<;>first | cases h;done | (rw [eq_of_beq (show (x==_)=true from h)])
 | .int x,b,h=>by cases b<;>first | cases h;done | (rw [eq_of_beq (show (x==_)=true from h)])
 | .str x,b,h=>by cases b<;>first | cases h;done | (rw [eq_of_beq (show (x==_)=true from h)])
 | .list x,b,h=>by cases b<;>first | cases h;done | (rw [peqs_eq (show peqs x _=true from h)])
 | .tuple x,b,h=>by cases b<;>first | cases h;done | (rw [peqs_eq (show peqs x _=true from h)])
 | .dict x,b,h=>by cases b<;>cases h
theorem peqs_eq:∀ {a b:List PyData},peqs a b=true->a=b
 | [],b,h=>by cases b<;>first | rfl | cases h
 | x::a,b,h=>by
  cases b with
  | nil=>cases h
  | cons y b=>replace h:(peq _ y&&peqs _ b)=true:=h;rw [Bool.and_eq_true] at h;rw [nX h.1,peqs_eq h.2]
end
section
variable {S:Sx} {κ:Kp} {M M0:Mp} {h:aA} {s:Shared} {A:Around} {E:Value->Shared->Prop} {tg:Expr} {all:List PyData} {c:Cw} {a it:Addr} {us:List Value} {n:Nat}
def Mem.turn {h2:Heap} {t:Nat} {fp:List Addr} (R:Mem S κ M h s) (hf:∀ b∈fp,aU κ M b) (k:∀ b o,b∉fp->s.heap.get? b=some o->h2.get? b=some o):Mem S κ M h { s with heap:=h2,toks:=t } :=
 R.keep (fun b o e nf=>k b o (fun z=>nf (hf b z)) e) R.bare rfl
def aI6 {hc:c=none->∃ us n,M0.Z a=some (bC us n)/\us.length<=sizeLine/\Reps' S M0 all us} {hi:∀ q,c=some q->q.2=false/\∃ p,M0.m[q.1]?=some p/\p.1=a} (R:Mem S κ M h s) (l:Le M0 M) (co:condB c all h=true) :
  ∃ us n,s.heap.get? a=some (bC us n)/\us.length<=sizeLine/\Reps' S M all us:=by
 cases c with
 | none =>
  obtain ⟨us,n,e,z,r⟩:=hc rfl;exact ⟨us,n,R.z _ _ (l.z _ _ e),z,r.go l⟩
 | some q =>
  obtain ⟨i,q2⟩:=q;obtain ⟨h0,p,e,rfl⟩:=hi _ rfl;cases (show q2=false from h0);have co:(match h[i]? with
   | some (.l ys)=>peqs ys all
   | _=>false)=true:=co
  split at co
  ·rename_i ys ey;rw [<- peqs_eq co];obtain ⟨us,n,e1,e2,e3⟩:=R.cel i p _ (l.at e) ey;exact ⟨us,n,e1,e2,e3⟩
  ·cases co
def qC (hc:c=none->∃ us n,M0.Z a=some (bC us n)/\us.length<=sizeLine/\Reps' S M0 all us) (hi:∀ q,c=some q->q.2=false/\∃ p,M0.m[q.1]?=some p/\p.1=a):Turn S tg all c M0 [it] it (fun i h=>h.IsListIter it a i) where
 keep:=fun i h h' st k=>st.at fun o e=>k it (by simp) o e
 obj:=fun i h st b hb=>by
  rw [List.mem_singleton.mp hb];obtain ⟨o,e,_⟩:=st;exact ⟨o,e⟩
 item:=by
  intro A κ M h s E i x hd hk R l hf st hx co;obtain ⟨us,n,ho,hz,rr⟩:=aI6 (hc:=hc) (hi:=hi) R l co;obtain ⟨u,hu,ru⟩:=mM rr hx;refine wpAny_pyNext_list_item st (cD ho).isList (x:=u) (by simpa using hu) fun h' st' sb=>?_;have R1:Mem S κ M h { s with heap:=h' }:=R.turn (t:=s.toks) hf fun b o hb e=>(sb.2 b fun z=>hb (by simp [z])).trans e;obtain ⟨o,e,c,d⟩:=id st';exact ⟨u,rfl,yF (s:={ s with heap:=h' }) e c d (by decide) ⟨M,.refl,R1,ru,st',hf⟩⟩
 done:=by
  intro A κ M h s E i hd hk R l hf st hx co;obtain ⟨us,n,ho,hz,rr⟩:=aI6 (hc:=hc) (hi:=hi) R l co;have hl:=rr.length;exact rD (hk.at R) st (cD ho).isList (by simp;omega) fun h' eb=>⟨rfl,R.turn (t:=s.toks) hf fun b o hb e=>eb b o (fun z=>hb (by simp [z])) e⟩
 self:=fun _ _ _ _ _ st h=>wpAny_pyIter_listiter st h
def wI (e0:M0.Z a=some { cls:=.type "tuple",data:=.seq us.toArray n }) (r0:Reps' S M0 all us):Turn S tg all none M0 [it] it (fun i h=>h.IsTupleIter it a i) where
 keep:=fun i h h' st k=>st.at fun o e=>k it (by simp) o e
 obj:=fun i h st b hb=>by
  rw [List.mem_singleton.mp hb];obtain ⟨o,e,_⟩:=st;exact ⟨o,e⟩
 item:=by
  intro A κ M h s E i x hd hk R l hf st hx co;obtain ⟨u,hu,ru⟩:=mM (r0.go l) hx;refine wpAny_pyNext_tuple_item st (show s.heap.IsTuple a us.toArray from hO (R.z _ _ (l.z _ _ e0))) (x:=u) (by simpa using hu) fun h' st' sb=>?_;have R1:Mem S κ M h { s with heap:=h' }:=R.turn (t:=s.toks) hf fun b o hb e=>(sb.2 b fun z=>hb (by simp [z])).trans e;obtain ⟨o,e,c,d⟩:=id st';exact ⟨u,rfl,yF (s:={ s with heap:=h' }) e c d (by decide) ⟨M,.refl,R1,ru,st',hf⟩⟩
 done:=by
  intro A κ M h s E i hd hk R l hf st hx co;have hl:=r0.length;exact xY (hk.at R) st (show s.heap.IsTuple a us.toArray from hO (R.z _ _ (l.z _ _ e0))) (by simp;omega) fun h' eb=>⟨rfl,R.turn (t:=s.toks) hf fun b o hb e=>eb b o (fun z=>hb (by simp [z])) e⟩
 self:=fun _ _ _ _ _ st h=>wpAny_pyIter_tupleiter st h
theorem yG:∀ {a b:List W},aA7 a b=true->a=b
 | [],[],_=>rfl
 | [],_::_,h=>by cases h
 | _::_,[],h=>by cases h
 | x::a,y::b,h=>by
  obtain ⟨h1,h2⟩:=Bool.and_eq_true_iff.mp (show (weq x y&&aA7 a b)=true from h);have e:x=y:=by
   cases x<;>cases y<;>first | (cases h1;done) | skip
   ·rw [nX (show peq _ _=true from h1)]
   ·rw [eq_of_beq (show (_==_)=true from h1)]
  rw [e,yG h2]
def wJ {M:Mp} {j:Nat} {p:Addr×Addr} {ws:List W} (R:Mem S κ M h s) (ep:M.m[j]?=some p) (e:wsC j h=some ws):∃ us n,s.heap.get? p.1=some (bC us n)/\us.length<=sizeLine/\RepWs S M ws us:=by
 unfold wsC at e;split at e
 ·rename_i xs ej;cases e;obtain ⟨us,n,a,b,r⟩:=R.cel j p _ ep ej;exact ⟨us,n,a,b,tJ r⟩
 ·rename_i ws' ej;cases e;exact R.cel j p _ ep ej
 ·cases e
def aI7 {j:Nat} {ws:List W} {h:aA} (co:coW j ws h=true):wsC j h=some ws:=by
 unfold coW at co;split at co
 ·rename_i us e;rw [e,yG co]
 ·cases co
def aV2 {j:Nat} {p:Addr×Addr} {ws:List W} (ep:M0.m[j]?=some p):TurnW S tg ws (coW j ws) M0 [it] it (fun i h=>h.IsListIter it p.1 i) where
 keep:=fun i h h' st k=>st.at fun o e=>k it (by simp) o e
 obj:=fun i h st b hb=>by
  rw [List.mem_singleton.mp hb];obtain ⟨o,e,_⟩:=st;exact ⟨o,e⟩
 item:=by
  intro A κ M h s E i x hd hk R l hf st hx co;obtain ⟨us,n,ho,hz,rr⟩:=wJ R (l.at ep) (aI7 co);obtain ⟨u,hu,ru⟩:=mM rr hx;refine wpAny_pyNext_list_item st (cD ho).isList (x:=u) (by simpa using hu) fun h' st' sb=>?_;have R1:Mem S κ M h { s with heap:=h' }:=R.turn (t:=s.toks) hf fun b o hb e=>(sb.2 b fun z=>hb (by simp [z])).trans e;obtain ⟨o,e,c,d⟩:=id st';exact ⟨u,rfl,yF (s:={ s with heap:=h' }) e c d (by decide) ⟨M,.refl,R1,ru,st',hf⟩⟩
 done:=by
  intro A κ M h s E i hd hk R l hf st hx co;obtain ⟨us,n,ho,hz,rr⟩:=wJ R (l.at ep) (aI7 co);have hl:=rr.length;exact rD (hk.at R) st (cD ho).isList (by simp;omega) fun h' eb=>⟨rfl,R.turn (t:=s.toks) hf fun b o hb e=>eb b o (fun z=>hb (by simp [z])) e⟩
 self:=fun _ _ _ _ _ st h=>wpAny_pyIter_listiter st h
def aV3 {lo:Int} {n i:Nat} {x:PyData} (e:(rng lo n)[i]?=some x):i < n/\x=.int (lo+i):=by
 unfold rng at e;rw [List.getElem?_map] at e;obtain ⟨j,e1,rfl⟩:=map_some e;obtain ⟨h1,h2⟩:=List.getElem?_eq_some_iff.mp e1;rw [List.getElem_range] at h2;subst h2;exact ⟨by simpa using h1,rfl⟩
def wK {lo:Int} (hS:S.hm=false):Turn S tg (rng lo n) none M0 [it] it (fun i h=>IsRangeIter h it (lo+(i:Nat)*1) ((n:Int) - (i:Nat)) 1) where
 keep:=fun i h h' st k=>k it (by simp) _ st
 obj:=fun i h st b hb=>by rw [List.mem_singleton.mp hb];exact ⟨_,st⟩
 item:=by
  intro A κ M h s E i x hd hk R l hf st hx co;obtain ⟨hi,rfl⟩:=aV3 hx;have W:=Walks.range (prog:=S.P) (w:=S.w) (hd hS) it lo 1 n;refine W.item i s _ _ hi st fun v h' tk hv st' kk=>?_;obtain ⟨t,rfl⟩:=hv;have R1:Mem S κ M h { s with heap:=h',toks:=tk }:=R.turn hf fun b o hb e=>kk b o (by simpa using hb) e;refine ⟨_,rfl,yF (s:={ s with heap:=h',toks:=tk }) (n:="range_iterator") st' rfl rfl (by decide) ⟨M,.refl,R1,rep_i.mpr ⟨t,?_⟩,st',hf⟩⟩;rw [Int.mul_one]
 done:=by
  intro A κ M h s E i hd hk R l hf st hx co;have hx:n<=i:=by simpa [rng] using hx
  exact wpAny_pyNext_range_end (hd hS) st (by omega) fun h' eb=>⟨rfl,R.turn (t:=s.toks) hf fun b o hb e=>eb b o (fun z=>hb (by simp [z])) e⟩
 self:=fun _ _ _ _ _ st h=>wpAny_pyIter_rangeiter st h
def Mem.one (R:Mem S κ M h s):∀ b∈[s.heap.objs.size],aU κ M b:=fun b hb=>by rw [List.mem_singleton.mp hb];exact R.size
def tZ (hS:S.hm=false) {lo hi:Int} {t u v:Tok} {tk:Nat} (R:Mem S κ M h s) (h1:-(2^62)<=lo) (h2:lo < 2^62) (h3:-(2^62)<=hi) (h4:hi < 2^62) (h5:hi - lo<=16000000) :
  Wp S A (pyIter (.ref s.heap.objs.size)) (Pi S κ M h tg (rng lo (hi - lo).toNat,none)) E { s with heap:=s.heap.push { cls:=.type "range",data:=.fields #[.int lo t,.int hi u,.int 1 v] },toks:=tk }:=by
 refine wpAny_pyIter_range (IsRange.new ..) (small_one h1 h2 h3 h4) ?_;have R1:Mem S κ M h { s with heap:=s.heap.push { cls:=.type "range",data:=.fields #[.int lo t,.int hi u,.int 1 v] },toks:=tk }:=R.kept fun b o e=>Heap.get?_push_of_some _ e;refine ⟨M,_,[(s.heap.push { cls:=.type "range",data:=.fields #[.int lo t,.int hi u,.int 1 v] }).objs.size],_,.refl,R1.kept (t:=tk) fun b o e=>Heap.get?_push_of_some _ e,rfl,wK hS,?_,R1.one,?_⟩
 case refine_2=>show (rng lo (hi - lo).toNat).length<=sizeLine;unfold rng;rw [List.length_map,List.length_range,sizeLine_eq];omega
 have e1:lo+((0:Nat):Int)*1=lo:=by simp
 have e2:(((hi - lo).toNat:Nat):Int) - ((0:Nat):Int)=Builtin.Range.rangeSize lo hi 1:=by rw [rangeSize_one];split<;>omega
 show IsRangeIter _ _ (lo+((0:Nat):Int)*1) ((((hi - lo).toNat:Nat):Int) - ((0:Nat):Int)) 1;rw [e1,e2];exact Heap.get?_push_size _ rfl
end
section
variable {X:Cx} {st:Sta} {d:Nat} {v:Evs} {a b tg iter:Expr} {κ:Kp} {M:Mp} {δ:DSt} {h h':aA} {s:Shared} {E:Value->Shared->Prop} {pos p:Pos}
def Pi.go {S:Sx} {M M':Mp} {q:List PyData×Cw} {u:Value} (l:Le M M') (x:Pi S κ M' h tg q u s):Pi S κ M h tg q u s:=let ⟨N,it,fp,tn,a,b⟩:=x;⟨N,it,fp,tn,l.trans a,b⟩
def wL (S:Snd v) (G:Good X st d):SI X tg iter (bB (v.E st iter)):=by
 intro κ M δ h s p h' R F e;obtain ⟨x,h1,e1,e⟩:=aF e;refine thn (S.E G iter R F e1) fun u s1 ⟨M1,l1,R1,r1⟩=>?_;rcases x with (_ | _ | _ | _ | xs | xs | _) | i<;>first | cases e;done | skip
 ·cases e;obtain ⟨a,us,n,rfl,z,⟨⟨n,rfl⟩,hz⟩,rr⟩:=rep_l.mp (show Rep X.S M1.Z (.list _) u from r1);exact wpAny_pyIter_list (cD (R1.z _ _ z)).isList (Pi.go l1 ⟨M1,_,[s1.heap.objs.size],_,.refl,R1.kept (t:=s1.toks) fun b o e=>Heap.get?_push_of_some _ e,rfl,qC (fun _=>⟨_,_,z,hz,rr⟩) (fun i z=>nomatch z),⟨_,Heap.get?_push_size _ rfl,rfl,rfl⟩,R1.one,by rw [rr.length];exact hz⟩)
 ·cases e;obtain ⟨a,us,n,rfl,z,hz,rr⟩:=hH R1 r1 rfl;exact wpAny_pyIter_tuple (show s1.heap.IsTuple a us.toArray from hO (R1.z _ _ z)) (Pi.go l1 ⟨M1,_,[s1.heap.objs.size],_,.refl,R1.kept (t:=s1.toks) fun b o e=>Heap.get?_push_of_some _ e,rfl,wI z rr,⟨_,Heap.get?_push_size _ rfl,rfl,rfl⟩,R1.one,by rw [rr.length];exact hz⟩)
 ·dsimp only at e;split at e
  ·rename_i xs ei;cases e;obtain ⟨p,ep,rfl⟩:=r1;obtain ⟨us,n,ho,hz,rr⟩:=R1.cel i p _ ep ei;exact wpAny_pyIter_list (cD ho).isList (Pi.go l1 ⟨M1,_,[s1.heap.objs.size],_,.refl,R1.kept (t:=s1.toks) fun b o e=>Heap.get?_push_of_some _ e,rfl,qC (fun z=>nomatch z) (fun j z=>by cases z;exact ⟨rfl,p,ep,rfl⟩),⟨_,Heap.get?_push_size _ rfl,rfl,rfl⟩,R1.one,by rw [rr.length];exact hz⟩)
  ·cases e
def bE5 {i j:Int} (h:eV i j=true):j - i<=16000000/\-(2^62)<=i/\i < 2^62/\-(2^62)<=j/\j < 2^62:=by
 unfold eV at h
 simpa only [Bool.and_eq_true,decide_eq_true_eq] using h
def gQ (G:Good X st d) {x:Str} (hx:(cV st x&&(slot st x).isNone&&st.bl.contains x)=true):aY x=true/\Gl X x/\X.S.mg x=none:=by
 rw [Bool.and_eq_true,Bool.and_eq_true] at hx;obtain ⟨h1,h2⟩:=rN G hx.1.1;exact ⟨h1,h2,G.bl _ hx.2⟩
def Good.nS (G:Good X st d) (h:(!st.hm)=true):X.S.hm=false:=by rw [<- G.hm];simpa using h
def Good.nh (G:Good X st d) (h:(!st.hm)=true):X.A.handled=none:=G.rm.hd (G.nS h)
theorem bJ8 (S:Snd v) (G:Good X st d) (hh0:(!st.hm)=true) (hx:(cV st "range"&&(slot st "range").isNone&&st.bl.contains "range")=true) (hs:aI a=true):SI X tg (.Call (.Name "range" p) [a] [] pos) (xb (v.E st a) fun w=>fun _ h=>(match w with
   | .d (.int j)=>if eV 0 j=true then some ((rng 0 j.toNat,none),h) else none
   | _=>none)):=by
 intro κ M δ h s q h' R F e;obtain ⟨h1,h2,h3⟩:=gQ G hx;obtain ⟨x,hh,e1,e⟩:=aF e;have ea:aX v st [a] δ h=some ([x],hh):=by unfold aX;rw [if_pos hs];unfold aX xb aD;rw [e1];rfl
 have es:=bS (X:=X) (es:=[]) a hs;refine Call_ (gO F R h2 h3 boot_range h1 (PyProof.Rows.callWith_type1 (thn (bU S G [a] pos R F ea) fun us s1 ⟨M1,l1,R1,r0⟩=>?_) es rfl));obtain ⟨u,rfl,r1⟩:=w1 r0;split at e
 ·obtain ⟨hb,e⟩:=aG e;cases e;obtain ⟨t,rfl⟩:=wi.mp r1;obtain ⟨b1,b2,b3,b4,b5⟩:=bE5 hb;refine call_range_1 (thn (tZ (tg:=tg) (G.nS hh0) R1 b2 b3 b4 b5 b1) fun _ _ q=>Pi.go l1 ?_);rw [Int.sub_zero] at q;exact q
 ·cases e
theorem bJ9 (S:Snd v) (G:Good X st d) (hh0:(!st.hm)=true) (hx:(cV st "range"&&(slot st "range").isNone&&st.bl.contains "range")=true) (hs:aI a=true) (hs2:aI b=true):SI X tg (.Call (.Name "range" p) [a,b] [] pos) (xb (v.E st a) fun u=>xb (v.E st b) fun w=>fun _ h=>(match u,w with
   | .d (.int i),.d (.int j)=>if eV i j=true then some ((rng i (j - i).toNat,none),h) else none
   | _,_=>none)):=by
 intro κ M δ h s q h' R F e;obtain ⟨h1,h2,h3⟩:=gQ G hx;obtain ⟨x,hh,e1,e⟩:=aF e;obtain ⟨y,hh2,e2,e⟩:=aF e;have ea:aX v st [a,b] δ h=some ([x,y],hh2):=by unfold aX;rw [if_pos hs];unfold xb;rw [e1];unfold aX;dsimp only [Option.bind];rw [if_pos hs2];unfold aX xb aD;dsimp only;rw [e2];rfl
 refine Call_ (gO F R h2 h3 boot_range h1 (PyProof.Rows.callWith_type1 (thn (bU S G [a,b] pos R F ea) fun us s1 ⟨M1,l1,R1,r0⟩=>?_) (bS a hs) (by rw [bS b hs2];rfl)));obtain ⟨u,v,rfl,r1,r2⟩:=w2 r0;split at e
 ·obtain ⟨hb,e⟩:=aG e;cases e;obtain ⟨t,rfl⟩:=wi.mp r1;obtain ⟨t',rfl⟩:=wi.mp r2;obtain ⟨b1,b2,b3,b4,b5⟩:=bE5 hb;exact call_range_2 (thn (tZ (G.nS hh0) R1 b2 b3 b4 b5 b1) fun _ _ q=>Pi.go l1 q)
 ·cases e
noncomputable def eW (κ:Kp) (fp:List Addr) (hp:Heap):Kp:=fun a=>if a∈fp then (hp.get? a).map fun o=>(true,o) else κ a
noncomputable def unK (fp:List Addr) (κ:Kp):Kp:=fun a=>if a∈fp then none else κ a
def Mem.pin {S:Sx} {fp:List Addr} (R:Mem S κ M h s) (hf:∀ b∈fp,aU κ M b):Mem S (eW κ fp s.heap) M h s:=by
 refine ⟨R.z,fun a b o e=>?_,R.len,R.ap,fun q hq a ha=>?_,R.cel,R.base,R.bare,R.os⟩
 ·unfold eW at e;split at e
  ·rename_i hm;obtain ⟨o',e1,e2⟩:=map_some e;cases e2;exact ⟨fun _=>e1,⟨_,e1⟩,(hf a hm).1⟩
  ·exact R.k a b o e
 ·obtain ⟨h1,h2,h3⟩:=R.off q hq a ha;refine ⟨h1,?_,h3⟩;unfold eW;rw [if_neg fun hm=>by rcases ha with z | z;exact ((hf a hm).2.2 q hq).1 z.symm;exact ((hf a hm).2.2 q hq).2 z.symm];exact h2
def Fra.kp {κ':Kp} (F:Fra X κ M δ) (k:∀ a,bV3 X a->κ' a=κ a):Fra X κ' M δ :=
 ⟨F.ok,F.hk,F.len,let ⟨o,m,h1,h2,h3⟩:=F.loc;⟨o,m,by rw [k _ (.inl rfl)];exact h1,h2,fun i x w a b c=>let ⟨u,r,l⟩:=h3 i x w a b c;⟨u,r,l.imp id fun ⟨q,c,o,e1,e2,e3⟩=>⟨q,c,o,e1,by rw [k _ (.inr (.inl ⟨x,e1⟩))];exact e2,e3⟩⟩⟩,fun x c e=>let ⟨o,v,h1,h2⟩:=F.cell x c e;⟨o,v,by rw [k _ (.inr (.inl ⟨x,e⟩))];exact h1,h2⟩,F.frs.kp fun a h=>k a (.inr (.inr h))⟩
def Fra.mine (F:Fra X κ M δ) {a:Addr} (ha:bV3 X a):κ a≠none:=by
 rcases ha with rfl | ⟨x,e⟩ | ⟨l,env,z1,z2,z3⟩
 ·obtain ⟨o,m,h1,_⟩:=F.loc;rw [h1];exact fun z=>nomatch z
 ·obtain ⟨o,v,h1,_⟩:=F.cell x a e;rw [h1];exact fun z=>nomatch z
 ·obtain ⟨l',y1,y2⟩:=F.frs;rw [z1] at y1;cases y1;obtain ⟨_,L,o,y3,y4,_⟩:=y2 env z2;rw [z3] at y3;cases y3;rw [y4];exact fun z=>nomatch z
def Fra.pin {fp:List Addr} {hp:Heap} (F:Fra X κ M δ) (hf:∀ b∈fp,aU κ M b):Fra X (eW κ fp hp) M δ:=F.kp fun a ha=>by
 unfold eW;rw [if_neg fun hm=>F.mine ha (hf a hm).2.1]
def unpin {S:Sx} {fp:List Addr} {hp:Heap} {κ2:Kp} {M2:Mp} {h2:aA} {s2:Shared} (F:Fra X κ M δ) (hf:∀ b∈fp,aU κ M b) (ho:∀ b∈fp,∃ o,hp.get? b=some o) (o2:Own X (eW κ fp hp) κ2) (R2:Mem S κ2 M2 h2 s2) :
  Own X κ (unK fp κ2)/\Mem S (unK fp κ2) M2 h2 s2/\(∀ b∈fp,aU (unK fp κ2) M2 b)/\(∀ b∈fp,∀ o,hp.get? b=some o->s2.heap.get? b=some o)/\∀ δ',Fra X κ2 M2 δ'->Fra X (unK fp κ2) M2 δ':=by
 have same:∀ b∈fp,κ2 b=eW κ fp hp b:=fun b hb=>by
  by_cases e:κ2 b=eW κ fp hp b
  ·exact e
  ·refine absurd (hf b hb).2.1 (F.mine ?_);rcases o2 b e with z | z
   ·exact .inl z
   ·exact .inr (.inl z.2)
 have pins:∀ b∈fp,∀ o,hp.get? b=some o->κ2 b=some (true,o):=fun b hb o e=>by rw [same b hb];unfold eW;rw [if_pos hb,e];rfl
 refine ⟨fun a ha=>?_,R2.less fun a x e=>?_,fun b hb=>?_,fun b hb o e=>?_,fun δ' F'=>F'.kp fun a ha=>?_⟩
 ·have nm:a∉fp:=fun hm=>ha (by unfold unK;rw [if_pos hm,(hf a hm).2.1]);refine o2 a fun e=>ha ?_;unfold unK;rw [if_neg nm,e];unfold eW;rw [if_neg nm]
 ·unfold unK at e;split at e
  ·cases e
  ·exact e
 ·obtain ⟨o,e⟩:=ho b hb;have k2:=pins b hb o e;exact ⟨(R2.k b _ _ k2).2.2,by unfold unK;rw [if_pos hb],R2.kc k2⟩
 ·exact (R2.k b _ _ (pins b hb o e)).1 rfl
 ·have nm:a∉fp:=fun hm=>F.mine ha (hf a hm).2.1;unfold unK;rw [if_neg nm]
end
end DL

namespace DL
open PySem PySem.Spec PyProof.Rows L2 CI
section
variable {X:Cx} {st:Sta} {d:Nat} {v:Evs} {a b c tg iter:Expr} {κ:Kp} {M:Mp} {δ:DSt} {h h':aA} {s:Shared} {pos:Pos} {body els:List Stmt} {x:Str} {g:XG} {tb:XS}
def Ps.go {κ1:Kp} {M1:Mp} {fl:Fl} {f:Flow} (o:Own X κ κ1) (l:Le M M1) (p:Ps X κ1 M1 h fl f s):Ps X κ M h fl f s:=let ⟨κ2,M2,a,b,q⟩:=p;⟨κ2,M2,o.trans a,l.trans b,q⟩
def quiet (F:Fra X κ M δ):interactive X.env=false:=by simp [interactive,F.ok.kind]
theorem jH (S:Snd v) (G:Good X st d):∀ ss,SSs X ss (xSs v st ss)
 | []=>fun _ _ _ _ _ _ _ R F e=>by cases e;exact wpAny_execs_nil ⟨_,_,.refl,.refl,R,F⟩
 | t::r=>by
  intro κ M δ h s fl h' R F e;obtain ⟨⟨f1,h1⟩,e1,e⟩:=bind_some (show (v.S st t δ h).bind (fun p=>match p.1 with
   | .nx δ'=>xSs v st r δ' p.2
   | f=>some (f,p.2))=some (fl,h') from e)
  refine wpAny_execs_cons (thn (S.S G t R F e1) fun f s1 ⟨κ1,M1,o1,l1,R1,q⟩=>?_);cases f1 with
  | nx δ1 =>
   cases f<;>first | exact q.elim | skip
   exact thn (jH S G r R1 q e) fun _ _ p=>p.go o1 l1
  | rt w=>cases e;cases f<;>first | exact q.elim | exact ⟨κ1,M1,o1,l1,R1,q⟩
  | bk w=>cases e;cases f<;>first | exact q.elim | exact ⟨κ1,M1,o1,l1,R1,q⟩
  | ct w=>cases e;cases f<;>first | exact q.elim | exact ⟨κ1,M1,o1,l1,R1,q⟩
def kZ {t:Stmt}:SS X t fun _ _=>none:=fun _ _ _ _ _ _ _ _ _ e=>by cases e
def bW5 {f:XR W} (hf:SE X a f):SS X (.Return (some a) pos) fun δ h=>(f δ h).bind fun p=>some (.rt p.1,p.2):=by
 intro κ M δ h s fl h' R F e;obtain ⟨⟨w,h1⟩,e1,e⟩:=bind_some e;cases e;exact wpAny_Return_some (thn (hf R F e1) fun u s1 ⟨M1,l1,R1,r1⟩=>⟨κ,M1,.refl,l1,R1,r1⟩)
def cL7 (S:Snd v) (G:Good X st d):SS X (.If c body els pos) fun δ h=>(v.T st c δ h).bind fun p=>if p.1=true then xSs v st body δ p.2 else xSs v st els δ p.2:=by
 intro κ M δ h s fl h' R F e;obtain ⟨⟨t,h1⟩,e1,e⟩:=bind_some e;refine wpAny_If (thn (S.T G c R F e1) fun t' s1 ⟨et,M1,l1,R1⟩=>?_);subst et;cases t' with
 | true=>exact thn (jH S G body R1 (F.go l1) e) fun _ _ p=>p.go .refl l1
 | false=>exact thn (jH S G els R1 (F.go l1) e) fun _ _ p=>p.go .refl l1
def bK0 (S:Snd v) (G:Good X st d) (hs:swapsWith a none pos.line X.env=pure false):SS X (.Expr a pos) fun δ h=>(v.E st a δ h).bind fun p=>some (.nx δ,p.2):=by
 intro κ M δ h s fl h' R F e;obtain ⟨⟨w,h1⟩,e1,e⟩:=bind_some e;cases e;exact wpAny_Expr_any (thn (S.E G a R F e1) fun u s1 ⟨M1,l1,R1,r1⟩=>⟨κ,M1,.refl,l1,R1,F.go l1⟩) (quiet F) hs
def rO {α:Type} {l:List α} {i:Nat} {x:α} (e:l[i]?=some x):l.drop i=x::l.drop (i+1):=by
 obtain ⟨hi,rfl⟩:=List.getElem?_eq_some_iff.mp e;exact List.drop_eq_getElem_cons hi
def bE6 {f:XR (List PyData×Cw)} (hd:X.S.hm=false->X.A.handled=none) (hi:SI X tg iter f) (hg:SG X tg g) (hb:SSs X body tb) (hs:∀ x,foldedSetIterable iter X.env x=pure x) :
  SS X (.For tg iter body [] pos) fun δ h=>(f δ h).bind fun p=>bQ g tb p.1.2 p.1.1 p.1.1 δ p.2:=by
 intro κ M δ h s fl h' R F e;obtain ⟨⟨⟨all,c⟩,h1⟩,e1,e⟩:=bind_some e;refine wpAny_For (thn (hi R F e1) fun v s1 q1=>thn q1 fun itv s2 q2=>?_) hs;obtain ⟨M2,it,fp,tn,l2,R2,rfl,T,t2,f2,_⟩:=q2;dsimp only at T e;have hp:PassesOwn (model X.S.P X.S.w) X.A X.env NE:=PassesOwn.never;obtain ⟨I,hI⟩:∃ I:Nat->Shared->Prop,I=fun n s'=>∃ i κ' M' δ' hh,n=all.length - i/\i<=all.length/\Own X κ κ'/\Le M2 M'/\Mem X.S κ' M' hh s'/\Fra X κ' M' δ'/\tn i s'.heap/\(∀ b∈fp,aU κ' M' b)/\bQ g tb c all (all.drop i) δ' hh=some (fl,h'):=⟨_,rfl⟩;refine codeAny_forLoop_any I ?_ all.length (by rw [hI];exact ⟨0,κ,M2,δ,h1,rfl,Nat.zero_le _,.refl,.refl,R2,F.go l2,t2,f2,e⟩);intro n s3 hn;rw [hI] at hn;obtain ⟨i,κ3,M3,δ3,h3,rfl,hle,o3,l3,R3,F3,t3,f3,e3⟩:=hn;cases q:all[i]? with
 | none =>
  have hl:all.length<=i:=List.getElem?_eq_none_iff.mp q;rw [List.drop_of_length_le hl] at e3;obtain ⟨co,e3⟩:=aG (show (if condB c all h3=true then some (Fl.nx δ3,h3) else none)=some (fl,h') from e3);cases e3;refine wpAny_passesOwn hp (thn (T.done hd F3.hk R3 l3 f3 t3 hl co) fun r s4 ⟨hr,R4⟩=>?_);subst hr;exact wpAny_execs_nil ⟨κ3,M3,o3,l2.trans l3,R4,F3⟩
 | some x =>
  have hlt:i < all.length:=(List.getElem?_eq_some_iff.mp q).1;rw [rO q] at e3;obtain ⟨co,e3⟩:=aG (show (if condB c all h3=true then (g (.d x) δ3 h3).bind (fun p=>(tb p.1 p.2).bind fun q=>(match q.1 with
    | .nx δ'=>bQ g tb c all (all.drop (i+1)) δ' q.2
    | .ct δ'=>bQ g tb c all (all.drop (i+1)) δ' q.2
    | .bk δ'=>some (.nx δ',q.2)
    | .rt w=>some (.rt w,q.2))) else none)=some (fl,h') from e3)
  obtain ⟨⟨δ4,h4⟩,e4,e3⟩:=bind_some e3;obtain ⟨⟨f5,h5⟩,e5,e3⟩:=bind_some e3;refine wpAny_passesOwn hp (thn (T.item hd F3.hk R3 l3 f3 t3 q co) fun r s4 ⟨u,hr,q4⟩=>?_);subst hr;refine wpAny_passesOwn hp (thn q4 fun _ s5 ⟨M5,l5,R5,r5,t5,fr5⟩=>?_);have F5:=F3.go l5;refine wpAny_passesOwn hp (thn (hg (R5.pin fr5) (F5.pin fr5) (show RepW X.S M5 (.d x) u from r5) e4) fun _ s6 ⟨κ6,M6,o6,l6,R6,F6⟩=>?_);refine wpAny_passesOwn hp (thn (hb R6 F6 e5) fun f s7 ⟨κ7,M7,o7,l7,R7,q7⟩=>?_);obtain ⟨u1,u2,u3,u4,u5⟩:=unpin F5 fr5 (T.obj _ _ t5) (o6.trans o7) R7;have l37:=l5.trans (l6.trans l7);have again:∀ {δ'},Fra X κ7 M7 δ'->bQ g tb c all (all.drop (i+1)) δ' h5=some (fl,h')->∃ m,m < all.length - i/\I m s7:=fun F7 e7 =>
   ⟨all.length - (i+1),by omega,by rw [hI];exact ⟨i+1,_,M7,_,h5,rfl,hlt,o3.trans u1,l3.trans l37,u2,u5 _ F7,T.keep _ _ _ t5 u4,u3,e7⟩⟩
  cases f5 with
  | nx δ5=>cases f<;>first | exact q7.elim | exact again q7 e3
  | ct δ5=>cases f<;>first | exact q7.elim | exact again q7 e3
  | bk δ5=>cases e3;cases f<;>first | exact q7.elim | exact ⟨_,M7,o3.trans u1,l2.trans (l3.trans l37),u2,u5 _ q7⟩
  | rt w=>cases e3;cases f<;>first | exact q7.elim | exact ⟨_,M7,o3.trans u1,l2.trans (l3.trans l37),u2,q7⟩

def bK1 (G:Good X st d) {i:Nat} (hi:slot st x=some i) (hl:(rF st.S x&&(st.top||dH st.S x))=true):SG X (.Name x pos) fun w δ h=>some (δ.set i (some w),h):=by
 intro κ M δ h s w u δ' h' R F r e;cases e;obtain ⟨h1,h2⟩:=aI1 G hl;exact wpAny_assign_Name (aI0 F R (mY G hi) h1 h2 r fun s' κ' o R' F' _=>⟨κ',M,o,.refl,R',F'⟩)
def yH (e:Expr) (hs:aI e=true) (es:List Expr):(assignEach (e::es) X.env).map (·.2)=assign e X.env::(assignEach es X.env).map (·.2)/\(assignEach (e::es) X.env).length=(assignEach es X.env).length+1/\((assignEach es X.env).findIdx? (·.1)=none->(assignEach (e::es) X.env).findIdx? (·.1)=none):=by
 have t:assignEach (e::es) X.env=(false,assign e X.env)::assignEach es X.env:=by cases e<;>first | rfl | cases hs
 rw [t];refine ⟨rfl,rfl,fun z=>?_⟩;rw [List.findIdx?_cons,z];rfl
theorem yI:∀ (es:List Expr),es.all aI=true->(assignEach es X.env).length=es.length/\(assignEach es X.env).findIdx? (·.1)=none
 | [],_=>⟨rfl,rfl⟩
 | e::es,h=>by
  rw [List.all_cons,Bool.and_eq_true] at h;obtain ⟨h1,h2⟩:=yI es h.2;obtain ⟨_,h4,h5⟩:=yH (X:=X) e h.1 es;exact ⟨by rw [h4,h1];rfl,h5 h2⟩
theorem aI8 (S:Snd v) (G:Good X st d):∀ (es:List Expr),es.all aI=true->∀ {κ M δ h s xs us δ' h'},Mem X.S κ M h s->Fra X κ M δ->Reps' X.S M xs us->cW (nQ v st es) xs δ h=some (δ',h') ->
  es.length=xs.length/\Wp X.S X.A (assignInOrder ((assignEach es X.env).map (·.2)) us) (fun _ s'=>∃ κ' M',Own X κ κ'/\Le M M'/\Mem X.S κ' M' h' s'/\Fra X κ' M' δ') NE s
 | [],_,κ,M,δ,h,s,xs,us,δ',h',R,F,r,e=>by
  cases xs with
  | nil=>cases e;cases r;exact ⟨rfl,assignInOrder_nil ⟨κ,M,.refl,.refl,R,F⟩⟩
  | cons _ _=>cases e
 | t::es,ha,κ,M,δ,h,s,xs,us,δ',h',R,F,r,e=>by
  rw [List.all_cons,Bool.and_eq_true] at ha;cases xs with
  | nil=>cases e
  | cons x xs =>
   cases r with
   | @cons _ u _ us r1 r2 =>
    obtain ⟨⟨δ1,h1⟩,e1,e⟩:=bind_some (show (v.G st t (.d x) δ h).bind (fun p=>cW (nQ v st es) xs p.1 p.2)=some (δ',h') from e);have len:es.length=xs.length:=by
     have go:∀ (es:List Expr) (xs:List PyData) δ h r,cW (nQ v st es) xs δ h=some r->es.length=xs.length:=by
      intro es;induction es with
      | nil=>intro xs δ h r e;cases xs with | nil=>rfl | cons _ _=>cases e
      | cons t es ih =>
       intro xs δ h r e;cases xs with
       | nil=>cases e
       | cons x xs =>
        obtain ⟨p,_,e⟩:=bind_some (show (v.G st t (.d x) δ h).bind (fun p=>cW (nQ v st es) xs p.1 p.2)=some r from e);rw [List.length_cons,List.length_cons,ih _ _ _ _ e]
     exact go _ _ _ _ _ e
    refine ⟨by rw [List.length_cons,List.length_cons,len],?_⟩;rw [(yH (X:=X) t ha.1 es).1];refine assignInOrder_cons (thn (S.G G t R F (show RepW X.S M (.d x) u from r1) e1) fun _ s1 ⟨κ1,M1,o1,l1,R1,F1⟩=>?_);exact thn (aI8 S G es ha.2 R1 F1 (Reps'.go l1 r2) e).2 fun _ s2 ⟨κ2,M2,o2,l2,q⟩=>⟨κ2,M2,o1.trans o2,l1.trans l2,q⟩
def bW6 (S:Snd v) (G:Good X st d) {es:List Expr} {k} (ha:es.all aI=true):SG X (.Tuple es k pos) (aR (nQ v st es)):=by
 intro κ M δ h s w u δ' h' R F r e;unfold aR at e;split at e
 ·obtain ⟨a,us,n,rfl,z,hz,rr⟩:=hH (h:=h) R r rfl;obtain ⟨h1,h2⟩:=yI (X:=X) es ha;obtain ⟨hl,_⟩:=aI8 S G es ha R F rr e;refine aA2 (F.hk.at R) (hO (R.z _ _ z)) (by rw [h1,hl,rr.length];simp) h2 fun h2 hx=>?_;exact (aI8 S G es ha (R.kept (t:=s.toks) fun b o e=>hx b o (Nat.ne_of_lt (Heap.lt_size e)) e) F (by simpa using rr) e).2
 ·cases e
def nY (its:List Value) (n j:Nat) (u:Value):Obj.mapSeq (·.setIfInBounds j u) (bC its n)=bC (its.set j u) n:=by simp [Obj.mapSeq]
def Mem.upd {S:Sx} {i:Nat} {p:Addr×Addr} {us us':List Value} {n n' t:Nat} {xs:List PyData} {f:Obj->Obj} (R:Mem S κ M h s) (ei:M.m[i]?=some p) (hl:∃ ys,h[i]?=some (.l ys)) (ho:s.heap.get? p.1=some (bC us n)) (hf:f (bC us n)=bC us' n') (r:Reps' S M xs us') (z:us'.length<=sizeLine) :
  Mem S κ M (h.set i (.l xs)) { s with heap:=s.heap.update p.1 f,toks:=t }:=by
 have e:(s.heap.update p.1 f).get? p.1=some (bC us' n'):=by rw [Heap.get?_update_self f ho (by rw [hf]<;>rfl),hf]
 obtain ⟨_,_,o2,ho2⟩:=R.off p (List.mem_of_getElem? ei) p.2 (.inr rfl);refine R.wr ei (fun b o n1 _ q=>(Heap.get?_update_other _ _ (Ne.symm n1)).trans q) ⟨⟨_,e⟩,?_⟩ R.bare rfl ⟨us',n',e,z,r⟩
 by_cases hq:p.2=p.1
 ·exact ⟨_,by rw [hq];exact e⟩
 ·exact ⟨o2,(Heap.get?_update_other _ _ (Ne.symm hq)).trans ho2⟩
def bK2 {S:Sx} {A:Around} {E:Value->Shared->Prop} {i j:Nat} {p:Addr×Addr} {xs:List PyData} {k:Int} {t:Tok} {x:PyData} {u:Value} {Q:Unit->Shared->Prop} (R:Mem S κ M h s) (ei:M.m[i]?=some p) (eh:h[i]?=some (.l xs)) (ej:ixN xs.length k=some j) (rx:Rep S M.Z x u)
  (q:∀ s',Mem S κ M (h.set i (.l (xs.set j x))) s'->Q () s'):Wp S A (setItem (.ref p.1) (.int k t) u) Q E s:=by
 obtain ⟨us,n,ho,hz,rr⟩:=R.cel i p _ ei eh;have hl:=rr.length;obtain ⟨h1,h2,h3,h4⟩:=rI ej;have hn:=nT;have R':=R.upd (t:=s.toks) ei ⟨_,eh⟩ ho (nY us n j u) (bH5 rx j rr) (by rw [List.length_set];exact hz)
 by_cases h0:0<=k
 ·have hk:k.toNat=j:=by rw [seqIndex_of h0 h4] at h1;exact Option.some.inj h1
  exact PySem.W.ki_setAt ho h0 (by omega) (by rw [List.size_toArray,<- hl];exact h4) (by rw [hk];exact q _ R')
 ·have hk:(k+(us.toArray.size:Int)).toNat=j:=by rw [seqIndex_neg (by omega) h3] at h1;rw [List.size_toArray,<- hl];exact Option.some.inj h1
  exact PySem.W.ki_setBack ho (by omega) (by rw [List.size_toArray,<- hl];exact h3) (by omega) (by rw [hk];exact q _ R')
def Mem.updW {S:Sx} {i:Nat} {p:Addr×Addr} {us us':List Value} {n n' t:Nat} {ws:List W} {f:Obj->Obj} (R:Mem S κ M h s) (ei:M.m[i]?=some p) (ho:s.heap.get? p.1=some (bC us n)) (hf:f (bC us n)=bC us' n') (r:RepWs S M ws us') (z:us'.length<=sizeLine) :
  Mem S κ M (h.set i (.r ws)) { s with heap:=s.heap.update p.1 f,toks:=t }:=by
 have e:(s.heap.update p.1 f).get? p.1=some (bC us' n'):=by rw [Heap.get?_update_self f ho (by rw [hf]<;>rfl),hf]
 obtain ⟨_,_,o2,ho2⟩:=R.off p (List.mem_of_getElem? ei) p.2 (.inr rfl);refine R.wr ei (fun b o n1 _ q=>(Heap.get?_update_other _ _ (Ne.symm n1)).trans q) ⟨⟨_,e⟩,?_⟩ R.bare rfl ⟨us',n',e,z,r⟩
 by_cases hq:p.2=p.1
 ·exact ⟨_,by rw [hq];exact e⟩
 ·exact ⟨o2,(Heap.get?_update_other _ _ (Ne.symm hq)).trans ho2⟩
def rP {S:Sx} {A:Around} {E:Value->Shared->Prop} {i j n:Nat} {p:Addr×Addr} {us:List Value} {ws:List W} {k:Int} {t:Tok} {w:W} {u:Value} {Q:Unit->Shared->Prop} (R:Mem S κ M h s) (ei:M.m[i]?=some p) (ho:s.heap.get? p.1=some (bC us n)) (hz:us.length<=sizeLine) (rr:RepWs S M ws us) (ej:ixN ws.length k=some j) (rx:RepW S M w u)
  (q:∀ s',Mem S κ M (h.set i (.r (ws.set j w))) s'->Q () s'):Wp S A (setItem (.ref p.1) (.int k t) u) Q E s:=by
 have hl:=rr.length;obtain ⟨h1,h2,h3,h4⟩:=rI ej;have hn:=nT;have R':=R.updW (t:=s.toks) ei ho (nY us n j u) (bH5 rx j rr) (by rw [List.length_set];exact hz)
 by_cases h0:0<=k
 ·have hk:k.toNat=j:=by rw [seqIndex_of h0 h4] at h1;exact Option.some.inj h1
  exact PySem.W.ki_setAt ho h0 (by omega) (by rw [List.size_toArray,<- hl];exact h4) (by rw [hk];exact q _ R')
 ·have hk:(k+(us.toArray.size:Int)).toNat=j:=by rw [seqIndex_neg (by omega) h3] at h1;rw [List.size_toArray,<- hl];exact Option.some.inj h1
  exact PySem.W.ki_setBack ho (by omega) (by rw [List.size_toArray,<- hl];exact h3) (by omega) (by rw [hk];exact q _ R')
def bW7 (S:Snd v) (G:Good X st d) (ha:∀ v,assign (.Subscript a b pos) X.env v=(do
   let ov <- holding [v] (eval a X.env)
   let iv <- holding [v,ov] (eval b X.env)
   standAt pos
   holding [v,ov,iv] (setItem ov iv v)
   release [v,ov,iv] [])):SG X (.Subscript a b pos) fun w δ h=>(v.E st a δ h).bind fun p=>(v.E st b δ p.2).bind fun q=>(match p.1,q.1,w with
  | .c j,.d y,.d x=>kX j y x δ q.2
  | .c j,.d y,.c i=>tU j y i δ q.2
  | _,_,_=>none):=by
 intro κ M δ h s w u δ' h' R F r e;obtain ⟨⟨x1,h1⟩,e1,e⟩:=bind_some e;obtain ⟨⟨x2,h2⟩,e2,e⟩:=bind_some e;rw [ha];refine wpAny_bind (wpAny_holding (thn (S.E G a R F e1) fun ov s1 ⟨M1,l1,R1,r1⟩=>?_));refine wpAny_bind (wpAny_holding (thn (S.E G b R1 (F.go l1) e2) fun iv s2 ⟨M2,l2,R2,r2⟩=>?_));refine wpAny_bind (wpAny_standAt (wpAny_bind (wpAny_holding ?_)));have l:=l1.trans l2;have rw':=r.go l;have fin:∀ {hh:aA} {s3:Shared},Mem X.S κ M2 hh s3->Wp X.S X.A (release [u,ov,iv] []) (fun _ s'=>∃ κ' M',Own X κ κ'/\Le M M'/\Mem X.S κ' M' hh s'/\Fra X κ' M' δ) NE s3:=fun R3=>wpAny_release ⟨κ,M2,.refl,l,R3,F.go l⟩;rcases x1 with _ | j
 ·cases e
 rcases x2 with y | _
 case c=>cases e
 rcases w with x | m
 case c =>
  obtain ⟨p,ep,rfl⟩:=r1.go l2;dsimp only at e;unfold tU at e;cases ej:h2[j]? with
  | none=>rw [ej] at e;cases e
  | some c =>
   rw [ej] at e;cases c with
   | l xs =>
    cases y<;>first | cases e;done | skip
    rename_i k;obtain ⟨n,en,e⟩:=map_some e;cases e;obtain ⟨t,rfl⟩:=wi.mp r2;obtain ⟨us,q,ho,hz,rr⟩:=R2.cel j p _ ep ej;exact rP R2 ep ho hz (ws:=xs.map .d) (tJ rr) (by rw [List.length_map];exact en) rw' fun s3 R3=>fin R3
   | r ws =>
    cases y<;>first | cases e;done | skip
    rename_i k;obtain ⟨n,en,e⟩:=map_some e;cases e;obtain ⟨t,rfl⟩:=wi.mp r2;obtain ⟨us,q,ho,hz,rr⟩:=R2.cel j p _ ep ej;exact rP R2 ep ho hz rr en rw' fun s3 R3=>fin R3
   | _=>cases e
 obtain ⟨p,ep,rfl⟩:=r1.go l2;dsimp only at e;unfold kX at e;cases ej:h2[j]? with
 | none=>rw [ej] at e;cases e
 | some c =>
  rw [ej] at e;cases c with
  | l xs =>
   cases y<;>first | cases e;done | skip
   rename_i k;obtain ⟨n,en,e⟩:=map_some e;cases e;obtain ⟨t,rfl⟩:=wi.mp r2;exact bK2 R2 ep ej en rw' fun s3 R3=>fin R3
  | r ws =>
   cases y<;>first | cases e;done | skip
   rename_i k;obtain ⟨n,en,e⟩:=map_some e;cases e;obtain ⟨t,rfl⟩:=wi.mp r2;obtain ⟨us,q,ho,hz,rr⟩:=R2.cel j p _ ep ej;exact rP R2 ep ho hz rr en (w:=.d x) rw' fun s3 R3=>fin R3
  | _=>cases e
end
end DL

namespace DL
open PySem PySem.Spec PyProof.Rows L2 CI
structure CompSc (N N':List Str) (ixs:List (Option Nat)) (S sc:Scope):Prop where
 kind:sc.kind=.function
 nocell:∀ y∈sc.names,y.2≠.cell
 loc:∀ y∈sc.names,y.2=.local->sc.names.lookup y.1=some .local
 free:∀ y∈sc.names,y.2=.free->S.names.lookup y.1=some .cell\/S.names.lookup y.1=some .free
 nd:N'.Nodup
 len:ixs.length=N'.length
 cap:((ixs.zip N').all fun p=>match p.1 with
  | none=>true
  | some i=>decide (N[i]?=some p.2)&&decide (sc.names.lookup p.2=some NameKind.free))=true


def CompSc.at {N N':List Str} {ixs:List (Option Nat)} {S sc:Scope} (h:CompSc N N' ixs S sc) {j i:Nat} {x:Str} (e1:N'[j]?=some x) (e2:ixs[j]?=some (some i)) :
  N[i]?=some x/\sc.names.lookup x=some .free:=by
 have hm:(some i,x)∈ixs.zip N':=by
  refine List.mem_of_getElem? (i:=j) ?_;rw [List.getElem?_zip_eq_some];exact ⟨e2,e1⟩
 have q:=List.all_eq_true.mp h.cap _ hm;simp only [Bool.and_eq_true,decide_eq_true_eq] at q;exact q

theorem hW {env:Env}:∀ (names:List (Str×NameKind)) (acc:List (Str×Addr)),(∀ y∈names,y.2=.free->∃ c,env.cells.lookup y.1=some c) ->
  (∀ x c,acc.lookup x=some c->env.cells.lookup x=some c) ->
  ∃ cl,(∀ x c,cl.lookup x=some c->env.cells.lookup x=some c)/\(∀ y∈names,y.2=.free->∃ c,cl.lookup y.1=some c)/\(∀ x c,acc.lookup x=some c->∃ d,cl.lookup x=some d) /\
   (forIn names acc fun (x:Str×NameKind) (r:List (Str×Addr))=>(if (x.2==NameKind.free)=true then (do let a <- cellOf env x.1;pure (ForInStep.yield ((x.1,a)::r))) else pure (ForInStep.yield r):Sem (ForInStep (List (Str×Addr)))))=(pure cl:Sem (List (Str×Addr)))
 | [],acc,_,ha=>⟨acc,ha,fun _ h=>(nomatch h),fun x c h=>⟨c,h⟩,rfl⟩
 | (n,k)::r,acc,h,ha=>by
  by_cases hk:k=.free
  ·subst hk;obtain ⟨c,hc⟩:=h (n,.free) List.mem_cons_self rfl;obtain ⟨cl,h1,h2,h3,h4⟩:=hW r ((n,c)::acc) (fun y hy=>h y (List.mem_cons_of_mem _ hy)) (fun x d hd=>by
    rw [List.lookup_cons] at hd;cases q:x==n with
    | true =>
     rw [q] at hd;have e1:x=n:=by simpa using q
     have e2:c=d:=Option.some.inj hd;rw [e1,<- e2];exact hc
    | false=>rw [q] at hd;exact ha x d hd)
   refine ⟨cl,h1,fun y hy hf=>?_,fun x d hd=>?_,?_⟩
   ·rcases List.mem_cons.mp hy with e | hy
    ·subst e;exact h3 n c (by simp [List.lookup_cons])
    ·exact h2 y hy hf
   ·cases q:x==n with
    | true =>
     have e1:x=n:=by simpa using q
     subst e1;exact h3 x c (by simp [List.lookup_cons])
    | false=>exact h3 x d (by rw [List.lookup_cons,q];exact hd)
   ·rw [<- h4,List.forIn_cons];have e:cellOf env n=pure c:=by unfold cellOf;rw [hc]
    show ((if (NameKind.free==NameKind.free)=true then (do let a <- cellOf env n;pure (ForInStep.yield ((n,a)::acc))) else pure (ForInStep.yield acc):Sem _) >>= _)=_;rw [if_pos (by decide),e];rfl
  ·obtain ⟨cl,h1,h2,h3,h4⟩:=hW r acc (fun y hy=>h y (List.mem_cons_of_mem _ hy)) ha;refine ⟨cl,h1,fun y hy hf=>?_,h3,?_⟩
   ·rcases List.mem_cons.mp hy with e | hy
    ·subst e;exact absurd hf hk
    ·exact h2 y hy hf
   ·rw [<- h4,List.forIn_cons];have e:(k==NameKind.free)=false:=by simpa using hk
    show ((if (k==NameKind.free)=true then (do let a <- cellOf env n;pure (ForInStep.yield ((n,a)::acc))) else pure (ForInStep.yield acc):Sem _) >>= _)=_;rw [if_neg (by rw [e];exact Bool.false_ne_true)];rfl
def fM {sc:Scope} {env:Env} (h:∀ y∈sc.names,y.2=.free->∃ c,env.cells.lookup y.1=some c) :
  ∃ cl,closureFor sc env=pure cl/\(∀ x c,cl.lookup x=some c->env.cells.lookup x=some c)/\(∀ y∈sc.names,y.2=.free->∃ c,cl.lookup y.1=some c):=by
 obtain ⟨cl,h1,h2,_,h4⟩:=hW (env:=env) sc.names [] h (fun x c e=>by simp at e);refine ⟨cl,?_,h1,h2⟩;unfold closureFor;exact (congrArg (fun m:Sem (List (Str×Addr))=>m >>= fun r=>pure r) h4).trans rfl

theorem fN {env:Env} {x:Str}:∀ {names:List (Str×NameKind)} {k:NameKind},names.lookup x=some k ->
  (names.map fun (n,k)=>if (k==NameKind.free&&env.scope.kind==.function&&env.kindOf n==some .cell) then (n,NameKind.cell) else (n,k)).lookup x
   = some (if (k==NameKind.free&&env.scope.kind==.function&&env.kindOf x==some .cell) then NameKind.cell else k)
 | [],_,h=>by simp at h
 | (n,k0)::r,k,h=>by
  rw [List.lookup_cons] at h;rw [List.map_cons];cases q:x==n with
  | true =>
   have e1:x=n:=by simpa using q
   subst e1;rw [q] at h;have e2:k0=k:=Option.some.inj h;subst e2;dsimp only
   by_cases hc:(k0==NameKind.free&&env.scope.kind==.function&&env.kindOf x==some .cell)=true
   ·rw [if_pos hc,if_pos hc,List.lookup_cons,q]
   ·rw [if_neg hc,if_neg hc,List.lookup_cons,q]
  | false =>
   rw [q] at h;have ih:=fN (env:=env) h;dsimp only
   by_cases hc:(k0==NameKind.free&&env.scope.kind==.function&&env.kindOf n==some .cell)=true
   ·rw [if_pos hc,List.lookup_cons,q];exact ih
   ·rw [if_neg hc,List.lookup_cons,q];exact ih
theorem jU {env:Env} {x:Str}:∀ {names:List (Str×NameKind)},names.lookup x=none ->
  (names.map fun (n,k)=>if (k==NameKind.free&&env.scope.kind==.function&&env.kindOf n==some .cell) then (n,NameKind.cell) else (n,k)).lookup x=none
 | [],_=>rfl
 | (n,k0)::r,h=>by
  rw [List.lookup_cons] at h;rw [List.map_cons];cases q:x==n with
  | true=>rw [q] at h;cases h
  | false =>
   rw [q] at h;have ih:=jU (env:=env) h;dsimp only
   by_cases hc:(k0==NameKind.free&&env.scope.kind==.function&&env.kindOf n==some .cell)=true
   ·rw [if_pos hc,List.lookup_cons,q];exact ih
   ·rw [if_neg hc,List.lookup_cons,q];exact ih

def aB3 {prog:Program} {w:World} {A:Around} {R:Result->Shared->Prop} {s:Shared} {elt target iter:Expr} {ifs:List Expr} {scope:Scope} {pos:Pos} {it acc:Value} {env:Env} (I:Nat->Shared->Prop)
  (turn:∀ n s,I n s->wpAny (model prog w) A (pyNext it) (fun r s₁=>match r with
   | none=>R (.ok .next) s₁
   | some v=>wpAny (model prog w) A (letOwnedTupleGo target it v) (fun _ t₁=>wpAny (model prog w) A (assign target env v) (fun _ s₂ =>
     wpAny (model prog w) A (forIn ifs true fun c r=>if r=true then do let ok <- isTrue c env (eval c env);pure (ForInStep.yield ok) else pure (ForInStep.yield r)) (fun ok s₃ =>
      if ok=true then wpAny (model prog w) A (eval elt env) (fun x s₄ =>
       wpAny (model prog w) A (call (.builtin "list.append") [acc,x]) (fun _ s₅=>∃ m,m < n/\I m s₅) (fun _ _=>False) s₄) (fun _ _=>False) s₃
      else ∃ m,m < n/\I m s₃) (fun _ _=>False) s₂) (fun _ _=>False) t₁) (fun _ _=>False) s₁) (fun _ _=>False) s)
  (n:Nat) (h:I n s):codeAny (model prog w) A (.compLoop (.ListComp elt [⟨target,iter,ifs,0⟩] scope pos) 0 it acc env) R s:=by
 refine codeAny_loop rfl I (fun n s hI=>?_) n h;show wpAny _ A ((compTurn (.ListComp elt [⟨target,iter,ifs,0⟩] scope pos) 0 it acc env).onRaise (fun x=>do noteFrame x env;theTreesLotGoes x)) _ _ s;refine wpAny_noted (wpAny_noRaise ?_);rw [compTurn_list];refine wpAny_bind (wpAny_standAt (wpAny_bind (thn (turn n s hI) fun r s₁ h₁=>?_)));cases r with
 | none=>exact wpAny_pure h₁
 | some v =>
  refine wpAny_bind (thn h₁ fun _ t₁ h₂=>wpAny_bind (thn h₂ fun _ s₂ h₃=>wpAny_bind (thn h₃ fun ok s₃ h₄=>?_)));cases ok with
  | false=>exact wpAny_pure ⟨rfl,h₄⟩
  | true=>exact wpAny_bind (wpAny_bind (thn h₄ fun x s₄ h₅=>wpAny_bind (thn h₅ fun _ s₅ h₆=>wpAny_pure (wpAny_pure ⟨rfl,h₆⟩))))

def yJ {ixs:List (Option Nat)} {δ:DSt} {j:Nat} {w:W} (e:(bW ixs δ)[j]?=some (some w)):∃ i,ixs[j]?=some (some i)/\δ[i]?=some (some w):=by
 unfold bW at e;rw [List.getElem?_map] at e;cases h:ixs[j]? with
 | none=>rw [h] at e;cases e
 | some o =>
  rw [h] at e;cases o with
  | none=>cases e
  | some i =>
   refine ⟨i,rfl,?_⟩;have e':(δ[i]?).bind id=some w:=Option.some.inj e;cases q:δ[i]? with
   | none=>rw [q] at e';cases e'
   | some w=>rw [q] at e';exact congrArg some e'
def Pl (S:Sx) (κ:Kp) (M:Mp) (h:aA) (ws:List W) (u:Value) (s:Shared):Prop :=
 ∃ M',Le M M'/\Mem S κ M' h s/\∃ a us n,u=.ref a/\s.heap.get? a=some (bC us n)/\aU κ M' a/\us.length<=sizeLine/\RepWs S M' ws us
def jV (g:XG) (tt:XR Bool) (te:XR W) (c:Cw) (all:List PyData):List PyData->DSt->aA->List W->Option (List W×aA)
 | [],_,h,ac=>if condB c all h=true then some (ac,h) else none
 | x::r,δ,h,ac=>if condB c all h=true then
   (g (.d x) δ h).bind fun p=>(tt p.1 p.2).bind fun q=>if q.1=true then
     (te p.1 q.2).bind fun y=>jV g tt te c all r p.1 y.2 (ac++[y.1])
    else jV g tt te c all r p.1 q.2 ac
  else none
theorem rQ {g:XG} {tt:XR Bool} {te:XR W} {c:Cw} {all:List PyData}:∀ (r:List PyData) (δ:DSt) (h:aA) (ac:List W),jV g tt te c all r δ h ac=fJ g tt te (condB c all) (r.map .d) δ h ac
 | [],δ,h,ac=>rfl
 | x::r,δ,h,ac=>by
  rw [List.map_cons,jV,fJ];simp only [rQ r]
theorem jW {g:XG} {tt:XR Bool} {te:XR W} {c:Cw} {all:List PyData}:∀ {r:List PyData} {δ:DSt} {h:aA} {ac xs:List PyData} {h':aA},aV g tt te c all r δ h ac=some (xs,h')->jV g tt te c all r δ h (ac.map .d)=some (xs.map .d,h')
 | [],δ,h,ac,xs,h',e=>by
  unfold aV at e;obtain ⟨co,e⟩:=aG e;cases e;unfold jV;rw [if_pos co]
 | x::r,δ,h,ac,xs,h',e=>by
  unfold aV at e;obtain ⟨co,e⟩:=aG e;obtain ⟨p,e1,e⟩:=bind_some e;obtain ⟨q,e2,e⟩:=bind_some e;unfold jV;rw [if_pos co,e1];show (tt p.1 p.2).bind _=_;rw [e2];show (if q.1=true then _ else _)=_
  by_cases hq:q.1=true
  ·rw [if_pos hq] at e ⊢;obtain ⟨⟨y,hy⟩,e3,e⟩:=bind_some e;rw [e3];cases y with
   | c i=>cases e
   | d z =>
    have:=jW (show aV g tt te c all r p.1 hy (ac++[z])=_ from e);rw [List.map_append] at this;exact this
  ·rw [if_neg hq] at e ⊢;exact jW e
noncomputable def blk (X:Cx) (N':List Str) (sc:Scope) (cl:List (Str×Addr)) (C:Addr):Cx:={ X with N:=N',env:=compEnvC sc cl C X.env,fn:=false }
def SIf (X:Cx) (ifs:List Expr) (f:XR Bool):Prop:=∀ ⦃κ M δ h s w h'⦄,Mem X.S κ M h s->Fra X κ M δ->f δ h=some (w,h')->Wp X.S X.A (forIn ifs true fun c r=>if r=true then do let ok <- isTrue c X.env (eval c X.env);pure (ForInStep.yield ok) else pure (ForInStep.yield r)) (Pt X.S κ M h' w) NE s
section
variable {X:Cx} {κ:Kp} {M:Mp} {δ:DSt} {h h':aA} {s:Shared} {N':List Str} {ixs:List (Option Nat)} {sc:Scope} {cl:List (Str×Addr)} {C:Addr} {tg iter elt:Expr} {ifs:List Expr} {pos:Pos} {g:XG} {tt:XR Bool} {te:XR W} {f:XR (List PyData×Cw)}
def aB4 {κ':Kp} {o:Obj} (F:Fra X κ M δ) (SC:CompSc X.N N' ixs X.env.scope sc) (hcl1:∀ x c,cl.lookup x=some c->X.env.cells.lookup x=some c) (hcl2:∀ y∈sc.names,y.2=.free->∃ c,cl.lookup y.1=some c)
  (k:∀ a,κ a≠none->κ' a=κ a) (hC:κ' C=some (false,o)) (ho:jG o fun _=>none) (hb:X.S.base.objs.size<=C):Fra (blk X N' sc cl C) κ' M (bW ixs δ):=by
 have kfree:∀ {x:Str} {k:NameKind},(relabel sc X.env).names.lookup x=some k->k=.cell\/k=.free->(x,NameKind.free)∈sc.names:=fun {x k} e hk=>by
  cases q:sc.names.lookup x with
  | none =>
   have z:=jU (env:=X.env) q;have z':(relabel sc X.env).names.lookup x=none:=z;rw [e] at z';cases z'
  | some k0 =>
   have z:=fN (env:=X.env) q;have z':(relabel sc X.env).names.lookup x=_:=z;rw [e] at z';have m:=PySem.mem_of_lookup q;have hz:=Option.some.inj z'
   by_cases hc:(k0==NameKind.free&&X.env.scope.kind==.function&&X.env.kindOf x==some .cell)=true
   ·have h0:k0=.free:=by
     simp only [Bool.and_eq_true,beq_iff_eq] at hc;exact hc.1.1
    rw [<- h0];exact m
   ·rw [if_neg hc] at hz;subst hz;rcases hk with hk | hk
    ·exact absurd hk (SC.nocell _ m)
    ·rw [<- hk];exact m
 refine ⟨⟨F.ok.mod,SC.kind,F.ok.glob,F.ok.blt,fun x y c e1 e2=>F.ok.inj x y c (hcl1 x c e1) (hcl1 y c e2),fun x hx=>?_,hb,SC.nd⟩,F.hk,?_,⟨o,_,hC,ho,fun j x w e1 e2 e3=>?_⟩,fun x c e=>?_,F.frs.kp fun a z=>k a (F.mine (.inr (.inr z)))⟩
 ·rcases hx with hx | hx
  ·exact hcl2 _ (kfree hx (.inl rfl)) rfl
  ·exact hcl2 _ (kfree hx (.inr rfl)) rfl
 ·show (bW ixs δ).length=N'.length;unfold bW;rw [List.length_map];exact SC.len
 ·obtain ⟨i,ei,ev⟩:=yJ e2;obtain ⟨eN,ef⟩:=SC.at e1 ei;have hm:=PySem.mem_of_lookup ef;have hvis:X.env.scope.names.lookup x=some .cell\/X.env.scope.names.lookup x=some .free:=SC.free _ hm rfl;obtain ⟨_,m,_,_,hl⟩:=F.loc;obtain ⟨u,r,l⟩:=hl i x w eN ev (.inr hvis);refine ⟨u,r,?_⟩;rcases l with ⟨hk,_⟩ | ⟨_,c,oc,ec,eo,ed⟩
  ·have hk':X.env.scope.names.lookup x=some .local:=hk;rcases hvis with z | z
   ·rw [hk'] at z;cases z
   ·rw [hk'] at z;cases z
  ·obtain ⟨c',ec'⟩:=hcl2 _ hm rfl;have e5:=hcl1 _ _ ec';rw [ec] at e5;have e6:c=c':=Option.some.inj e5;subst e6;refine .inr ⟨?_,c,oc,ec',by rw [k c (by rw [eo];exact fun z=>nomatch z)];exact eo,ed⟩;have z:=fN (env:=X.env) ef;have z':(relabel sc X.env).names.lookup x=_:=z
   by_cases hc:(NameKind.free==NameKind.free&&X.env.scope.kind==.function&&X.env.kindOf x==some .cell)=true
   ·rw [if_pos hc] at z';exact .inl z'
   ·rw [if_neg hc] at z';exact .inr z'
 ·obtain ⟨oc,v,e1,e2⟩:=F.cell x c (hcl1 x c e);exact ⟨oc,v,by rw [k c (by rw [e1];exact fun z=>nomatch z)];exact e1,e2⟩
def aB5 {S:Sx} {A:Around} {E:Value->Shared->Prop} {a:Addr} {us:List Value} {n:Nat} {u:Value} {Q:Value->Shared->Prop} (R:Mem S κ M h s) (ea:κ a=some (true,bC us n)) (hz:us.length < sizeLine)
  (q:∀ s' n',Mem S (κ.up a (true,bC (us++[u]) n')) M h s'->(∀ b o,b≠a->s.heap.get? b=some o->s'.heap.get? b=some o)->Q .none s'):Wp S A (call (.builtin "list.append") [.ref a,u]) Q E s:=by
 have e:=(R.k a _ _ ea).1 rfl;refine call_meets F.slot_list_append ⟨_,e,rfl⟩ F.entry_list_append (F.args_list_append_2 _ _) (PySem.list_append a us.toArray n u (by rw [List.size_toArray];omega)) ⟨e,?_⟩;have q2:=PySem.IsL.update e (·.push u);have ep:us.toArray.push u=(us++[u]).toArray:=by simp
 rw [ep] at q2;have k:∀ b o,b≠a->s.heap.get? b=some o->(s.heap.update a (Obj.mapSeq (·.push u))).get? b=some o:=fun b o hb e=>(Heap.get?_update_other s.heap _ (Ne.symm hb)).trans e;exact q _ _ (R.own ea k q2 R.bare rfl) k
def nZ (hd:X.S.hm=false->X.A.handled=none) (SC:CompSc X.N N' ixs X.env.scope sc) (hcl1:∀ x c,cl.lookup x=some c->X.env.cells.lookup x=some c) (hcl2:∀ y∈sc.names,y.2=.free->∃ c,cl.lookup y.1=some c)
  (hg:∀ cl C,SG (blk X N' sc cl C) tg g) (ht:∀ cl C,SIf (blk X N' sc cl C) ifs tt) (he:∀ cl C,SE (blk X N' sc cl C) elt te) {all:List W} {co:aA->Bool} {it:Addr} {fp:List Addr} {tn:Nat->Heap->Prop} {ws:List W} {R':Value->Addr->Result->Shared->Prop}
  (F:Fra X κ M δ) (R:Mem X.S κ M h s) (T:TurnW X.S tg all co M fp it tn) (t0:tn 0 s.heap) (f0:∀ b∈fp,aU κ M b) (hz:all.length<=sizeLine) (e:fJ g tt te co all (bW ixs δ) h []=some (ws,h'))
  (hR:∀ {s':Shared} {m:Str->Option Value} {M':Mp} {us:List Value} {n:Nat},Le M M'->Mem X.S κ M' h' s'->s'.heap.get? s.heap.objs.size=some (bC us n)->aU κ M' s.heap.objs.size->aU κ M' (s.heap.objs.size+1)->us.length<=sizeLine->RepWs X.S M' ws us->s'.heap.Ns (s.heap.objs.size+1) m->R' (.ref s.heap.objs.size) (s.heap.objs.size+1) (.ok .next) s') :
  Wp X.S X.A (newList []) (fun acc s₃=>Wp X.S X.A (newFunctionEnv sc X.env.globals cl [] X.env.qual none .none (some X.env)) (fun cenv s₄ =>
   codeAny (model X.S.P X.S.w) X.A (.compStart (.ListComp elt [⟨tg,iter,ifs,0⟩] sc pos) 0 (.ref it) acc { cenv with scope:=relabel sc X.env }) (R' acc cenv.locals) s₄) NE s₃) NE s:=by
 refine wpAny_newObj_type (wpAny_newFunctionEnv SC.nocell (by intro y hy;simp at hy) (fun h₁ hns₁ hsb₁=>?_) SC.kind);dsimp only at hns₁ hsb₁ ⊢;have eC:(s.heap.push { cls:=.type "list",dict:=none,data:=.seq ([]:List Value).toArray }).objs.size=s.heap.objs.size+1:=by rw [Heap.size_push]
 rw [eC] at hns₁ hsb₁ ⊢;obtain ⟨acc,ea⟩:∃ a,a=s.heap.objs.size:=⟨_,rfl⟩;rw [<- ea] at hns₁ hsb₁ hR ⊢;have nAC:acc≠acc+1:=Nat.ne_of_lt (Nat.lt_succ_self _);have old:∀ b o,s.heap.get? b=some o->h₁.get? b=some o:=fun b o e=>hsb₁.extBut b o (by rw [ea];exact Nat.ne_of_lt (Nat.lt_succ_of_lt (Heap.lt_size e))) (Heap.get?_push_of_some _ (Heap.get?_push_of_some _ e));have hacc:h₁.get? acc=some (bC [] 0):=by
  refine hsb₁.extBut _ _ nAC ?_;rw [ea];exact Heap.get?_push_of_some _ (Heap.get?_push_size _ rfl)
 obtain ⟨oC,es,ep,hoC,hd1,hk1,hm1⟩:=id hns₁;have fA:aU κ M acc:=ea ▸ R.size;have fC:aU κ M (acc+1):=R.new (Heap.get?_none_of_le (by rw [ea];exact Nat.le_succ _));have R1:Mem X.S κ M h { s with heap:=h₁,toks:=s.toks+([]:List (Str×Value)).length }:=R.kept old;have R2:=(R1.more (b:=true) ⟨fA.1,fA.2.2⟩ hacc).more (b:=false) ⟨fC.1,fC.2.2⟩ hoC;have hfl:∀ b∈fp,b≠acc/\b≠acc+1:=fun b hb=>by
  obtain ⟨o,q⟩:=T.obj _ _ t0 b hb;have:=Heap.lt_size q;rw [<- ea] at this;exact ⟨Nat.ne_of_lt this,Nat.ne_of_lt (Nat.lt_succ_of_lt this)⟩
 have F2:Fra (blk X N' sc cl (acc+1)) ((κ.up acc (true,bC [] 0)).up (acc+1) (false,oC)) M (bW ixs δ):=aB4 F SC hcl1 hcl2 (fun a ha=>by
  rw [bN fun z=>ha (by rw [z];exact fC.2.1),bN fun z=>ha (by rw [z];exact fA.2.1)]) dY ⟨es,ep,hd1,hk1,hm1⟩ (by rw [ea];exact Nat.le_succ_of_le (F.size R))
 have f2:∀ b∈fp,aU ((κ.up acc (true,bC [] 0)).up (acc+1) (false,oC)) M b:=fun b hb=>⟨(f0 b hb).1,by rw [bN (hfl b hb).2,bN (hfl b hb).1];exact (f0 b hb).2.1,(f0 b hb).2.2⟩;generalize hY:blk X N' sc cl (acc+1)=Y at F2;have hg':SG Y tg g:=by subst hY;exact hg _ _
 have ht':SIf Y ifs tt:=by subst hY;exact ht _ _
 have he':SE Y elt te:=by subst hY;exact he _ _
 have eS:Y.S=X.S:=by subst hY;rfl
 have eA:Y.A=X.A:=by subst hY;rfl
 have eL:Y.env.locals=acc+1:=by subst hY;rfl
 have eF:Y.fn=false:=by subst hY;rfl
 have loop:∀ s₃:Shared,s₃={ s with heap:=h₁,toks:=s.toks+([]:List (Str×Value)).length } ->
   codeAny (model X.S.P X.S.w) X.A (.compLoop (.ListComp elt [⟨tg,iter,ifs,0⟩] sc pos) 0 (.ref it) (.ref acc) Y.env) (R' (.ref acc) (acc+1)) s₃:=by
  rintro s₃ rfl;clear hY;obtain ⟨I,hI⟩:∃ I:Nat->Shared->Prop,I=fun n s'=>∃ i κ' M' δ' hh us m ac,n=all.length - i/\i<=all.length/\(κ' acc=some (true,bC us m)/\∀ a,a≠acc->a≠acc+1->κ' a=κ a)/\Le M M'/\Mem X.S κ' M' hh s'/\Fra Y κ' M' δ'/\tn i s'.heap/\(∀ b∈fp,aU κ' M' b)/\ac.length<=i/\RepWs X.S M' ac us/\fJ g tt te co (all.drop i) δ' hh ac=some (ws,h'):=⟨_,rfl⟩;refine aB3 I ?_ all.length (by rw [hI];exact ⟨0,_,M,_,h,[],0,[],rfl,Nat.zero_le _,⟨by rw [bN nAC];exact dY,fun a h1 h2=>by rw [bN h2,bN h1]⟩,.refl,R2,F2,T.keep _ _ _ t0 (fun b _ o e=>old b o e),f2,Nat.le_refl _,.nil,e⟩);intro n s3 hn;rw [hI] at hn;obtain ⟨i,κ3,M3,δ3,h3,us,m,ac,rfl,hle,⟨ka,ko⟩,l3,R3,F3,t3,f3,hac,rac,e3⟩:=hn;have hlen:=rac.length;have back:∀ {κ7 M7 h7 s7},(κ7 acc=some (true,bC us m)/\∀ a,a≠acc->a≠acc+1->κ7 a=κ a)->Mem X.S κ7 M7 h7 s7->Mem X.S κ M7 h7 s7:=fun k R7=>R7.less fun a x q=>by
   rw [k.2 a (fun z=>by rw [z,fA.2.1] at q;cases q) (fun z=>by rw [z,fC.2.1] at q;cases q)];exact q
  cases q:all[i]? with
  | none =>
   have hl:all.length<=i:=List.getElem?_eq_none_iff.mp q;rw [List.drop_of_length_le hl] at e3;obtain ⟨co3,e3⟩:=aG (show (if co h3=true then some (ac,h3) else none)=some (ws,h') from e3);cases e3;refine thn (T.done hd (F.hk.go l3) R3 l3 f3 t3 hl co3) fun r s4 ⟨hr,R4⟩=>?_;subst hr;obtain ⟨mC,hnC,_⟩:=F3.ns (h:=h') (s:=s4) (by rw [eS];exact R4);rw [eL] at hnC;have ho:=(R4.k acc _ _ ka).1 rfl;have za:=(R4.k acc _ _ ka).2.2;obtain ⟨oL,_,kL,_⟩:=F3.loc;rw [eL] at kL;have R5:=back ⟨ka,ko⟩ R4;have fr:aU κ M3 acc:=⟨za,fA.2.1,R4.kc ka⟩;exact hR l3 R5 ho fr ⟨(R4.k _ _ _ kL).2.2,fC.2.1,R4.kc kL⟩ (by omega) rac hnC
  | some x =>
   have hlt:i < all.length:=(List.getElem?_eq_some_iff.mp q).1;rw [rO q] at e3;unfold fJ at e3;obtain ⟨co3,e3⟩:=aG e3;obtain ⟨⟨δ4,h4⟩,e4,e3⟩:=bind_some e3;obtain ⟨⟨tb,h5⟩,e5,e3⟩:=bind_some e3;refine thn (T.item hd (F.hk.go l3) R3 l3 f3 t3 q co3) fun r s4 ⟨u,hr,q4⟩=>?_;subst hr;refine thn q4 fun _ s5 ⟨M5,l5,R5,r5,t5,fr5⟩=>?_;have F5:=F3.go l5;rw [<- eS] at R5;have w6:=hg' (R5.pin fr5) (F5.pin fr5) (show RepW Y.S M5 x u by rw [eS];exact r5) e4;rw [eS,eA] at w6;refine thn w6 fun _ s6 ⟨κ6,M6,o6,l6,R6,F6⟩=>?_;rw [<- eS] at R6;have w7:=ht' R6 F6 e5;rw [eS,eA] at w7;refine thn w7 fun t' s7 ⟨et,M7,l7,R7⟩=>?_;subst et;have notC:∀ a,a≠acc+1->κ6 a=eW κ3 fp s5.heap a:=fun a ha=>by
    by_cases z:κ6 a=eW κ3 fp s5.heap a
    ·exact z
    ·rcases o6 a z with y | y
     ·rw [eL] at y;exact absurd y ha
     ·rw [eF] at y;exact absurd y.1 Bool.false_ne_true
   have k6:κ6 acc=some (true,bC us m):=by
    rw [notC acc nAC];unfold eW;rw [if_neg fun hm=>(hfl acc hm).1 rfl];exact ka
   have kun:∀ κ8:Kp,(∀ a,a≠acc->κ8 a=κ6 a)->∀ a,a≠acc->a≠acc+1->unK fp κ8 a=κ a:=fun κ8 hk a h1 h2=>by
    unfold unK;split
    ·rename_i hm;rw [<- ko a h1 h2];exact (f3 a hm).2.1.symm
    ·rename_i hm;rw [hk a h1,notC a h2];unfold eW;rw [if_neg hm];exact ko a h1 h2
   cases t' with
   | false =>
    obtain ⟨u1,u2,u3,u4,u5⟩:=unpin F5 fr5 (T.obj _ _ t5) o6 R7;exact ⟨all.length - (i+1),by omega,by rw [hI];exact ⟨i+1,_,M7,δ4,h5,us,m,ac,rfl,hlt,⟨by unfold unK;rw [if_neg fun hm=>(hfl acc hm).1 rfl];exact k6,kun κ6 fun _ _=>rfl⟩,l3.trans (l5.trans (l6.trans l7)),u2,u5 _ (F6.go l7),T.keep _ _ _ t5 u4,u3,by omega,rac.go (l5.trans (l6.trans l7)),e3⟩⟩
   | true =>
    obtain ⟨⟨y,h8⟩,e8,e3⟩:=bind_some (show (te δ4 h5).bind (fun y=>fJ g tt te co (all.drop (i+1)) δ4 y.2 (ac++[y.1]))=some (ws,h') from e3);rw [<- eS] at R7;have w8:=he' R7 (F6.go l7) e8;rw [eS,eA] at w8;refine thn w8 fun v s8 ⟨M8,l8,R8,r8⟩=>?_;refine aB5 R8 k6 (by omega) fun s9 m9 R9 k9=>?_;have o9:Own Y (eW κ3 fp s5.heap) κ6:=o6;obtain ⟨_,u2,u3,u4,_⟩:=unpin (X:=Y) F5 fr5 (T.obj _ _ t5) o9 R8;have u4':∀ b∈fp,∀ o,s5.heap.get? b=some o->s9.heap.get? b=some o:=fun b hb o e=>k9 b o (hfl b hb).1 (u4 b hb o e);have Rn:Mem X.S (unK fp (κ6.up acc (true,bC (us++[v]) m9))) M8 h8 s9:=R9.less fun a x q=>by
     unfold unK at q;split at q
     ·cases q
     ·exact q
    have fn:∀ b∈fp,aU (unK fp (κ6.up acc (true,bC (us++[v]) m9))) M8 b:=fun b hb=>⟨(u3 b hb).1,by unfold unK;rw [if_pos hb],(u3 b hb).2.2⟩;have Fn:Fra Y (unK fp (κ6.up acc (true,bC (us++[v]) m9))) M8 δ4:=(F6.go (l7.trans l8)).kp fun a ha=>by
     have z:=F5.mine ha;have n1:a∉fp:=fun hm=>z (fr5 a hm).2.1;have n2:a≠acc:=fun hz=>by
      rcases ha with y | ⟨x,y⟩ | ⟨l,env,z1,z2,z3⟩
      ·rw [eL] at y;exact nAC (hz.symm.trans y)
      ·obtain ⟨o,vv,q1,q2⟩:=F3.cell x a y;rw [hz,ka] at q1;cases q1;cases q2
      ·obtain ⟨l',y1,y2⟩:=F3.frs;rw [z1] at y1;cases y1;obtain ⟨_,L,o,y3,y4,_⟩:=y2 env z2;rw [z3] at y3;cases y3;rw [hz,ka] at y4;cases y4
     unfold unK;rw [if_neg n1,bN n2]
    have l:=l3.trans (l5.trans (l6.trans (l7.trans l8)));exact ⟨all.length - (i+1),by omega,by rw [hI];exact ⟨i+1,_,M8,δ4,h8,us++[v],m9,ac++[y],rfl,hlt,⟨by unfold unK;rw [if_neg fun hm=>(hfl acc hm).1 rfl];exact dY,kun _ fun a h1=>bN h1⟩,l,Rn,Fn,T.keep _ _ _ t5 u4',fn,by rw [List.length_append,List.length_singleton];omega,Paired.snoc (rac.go (l5.trans (l6.trans (l7.trans l8)))) r8,e3⟩⟩
 have eEnv:Y.env={ (newEnv sc (acc+1) X.env.globals cl X.env.qual none .none (some X.env) builtinsNs) with scope:=relabel sc X.env }:=by subst hY;rfl
 rw [eEnv] at loop;exact codeAny_compStart_list (loop _ rfl) (T.self X.A 0 _ _ _ (T.keep _ _ _ t0 fun b _ o e=>old b o e) (loop _ rfl))
end
end DL

namespace DL
open PySem PySem.Spec PyProof.Rows L2 CI
section
variable {X:Cx} {st:Sta} {d:Nat} {v:Evs} {κ:Kp} {M:Mp} {δ:DSt} {h h' h2:aA} {s:Shared} {N':List Str} {ixs:List (Option Nat)} {sc:Scope} {a b e tg iter elt:Expr} {es:List Expr} {ifs:List Expr} {pos:Pos} {g:XG} {tt:XR Bool} {te:XR W} {f:XR (List PyData×Cw)} {x:Str} {i:Nat} {w:W}
def Mem.drop {S:Sx} {C:Addr} {h3:Heap} (R:Mem S κ M h s) (f:aU κ M C) (k:Heap.SameBut C s.heap h3):Mem S κ M h { s with heap:=h3 }:=R.keep (fun b o e nf=>(k.2 b fun z=>nf (by rw [z];exact f)).trans e) R.bare rfl
def bK3 {all:List PyData} {c:Cw} {h1:aA} {ws:List W} (hd:X.S.hm=false->X.A.handled=none) (SC:CompSc X.N N' ixs X.env.scope sc) (hi:SI X tg iter f) (hg:∀ cl C,SG (blk X N' sc cl C) tg g) (ht:∀ cl C,SIf (blk X N' sc cl C) ifs tt) (he:∀ cl C,SE (blk X N' sc cl C) elt te) (hs:∀ x,foldedSetIterable iter X.env x=pure x)
  (R:Mem X.S κ M h s) (F:Fra X κ M δ) (e1:f δ h=some ((all,c),h1)) (e2:jV g tt te c all all (bW ixs δ) h1 []=some (ws,h')):Wp X.S X.A (eval (.ListComp elt [⟨tg,iter,ifs,0⟩] sc pos) X.env) (Pl X.S κ M h' ws) NE s:=by
 obtain ⟨cl,ecl,hcl1,hcl2⟩:=fM (sc:=sc) (env:=X.env) fun y hy hf=>F.ok.has y.1 (SC.free y hy hf);rw [eval_ListComp];refine wpAny_comprehension_free (use:=none) rfl hs ecl SC.kind SC.loc ?_;refine thn (hi R F e1) fun v s1 q1=>thn q1 fun itv s2 q2=>?_;obtain ⟨M2,it,fp,tn,l2,R2,rfl,T,t2,f2,hz⟩:=q2;refine nZ (R':=fun acc C=>compPost (model X.S.P X.S.w) X.A NE none (Pl X.S κ M h' ws) acc C) hd SC hcl1 hcl2 hg ht he (F.go l2) R2 T.w t2 f2 (by rw [List.length_map];exact hz) (by rw [<- rQ];exact e2) fun {s' m M' us n} l R ho fa fc z r hn=>⟨m,hn,fun h3 k3=>?_⟩;exact ⟨M',l2.trans l,R.drop fc k3,_,us,n,rfl,(k3.2 _ (Nat.ne_of_lt (Nat.lt_succ_self _))).trans ho,fa,z,r⟩
def bK4 {all:List PyData} {c:Cw} {h1:aA} {ws:List W} {py spos:Pos} (hd:X.S.hm=false->X.A.handled=none) (SC:CompSc X.N N' ixs X.env.scope sc) (hi:SI X tg iter f) (hg:∀ cl C,SG (blk X N' sc cl C) tg g) (ht:∀ cl C,SIf (blk X N' sc cl C) ifs tt) (he:∀ cl C,SE (blk X N' sc cl C) elt te) (hs:∀ x,foldedSetIterable iter X.env x=pure x)
  (R:Mem X.S κ M h s) (F:Fra X κ M δ) (e1:f δ h=some ((all,c),h1)) (e2:jV g tt te c all all (bW ixs δ) h1 []=some (ws,h')) (cv:∀ {κ:Kp} {M:Mp} {u:Value} {s:Shared},Pl X.S κ M h' ws u s->Pw X.S κ M h2 w u s)
  (hiN:X.N[i]?=some x) (hx:X.env.scope.names.lookup x=some .local) (hsw:swapsWith (.ListComp elt [⟨tg,iter,ifs,0⟩] sc pos) (some (.Name x py)) spos.line X.env=pure true):Wp X.S X.A (exec (.Assign [.Name x py] (.ListComp elt [⟨tg,iter,ifs,0⟩] sc pos) spos) X.env) (Ps X κ M h2 (.nx (δ.set i (some w)))) NE s:=by
 obtain ⟨cl,ecl,hcl1,hcl2⟩:=fM (sc:=sc) (env:=X.env) fun y hy hf=>F.ok.has y.1 (SC.free y hy hf);rw [exec_Assign_Name_used _ _ _ _ hsw];refine wpAny_bind (wpAny_standAt (wpAny_bind ?_));show wpAny _ _ (do let _ <- comprehension (.ListComp elt [⟨tg,iter,ifs,0⟩] sc pos) sc X.env _ (newList []) false (eval iter X.env) (some (assign (.Name x py) X.env))) _ _ s;refine wpAny_bind (thn (wpAny_comprehension_free (use:=some (assign (.Name x py) X.env)) (Q:=fun _ s'=>Ps X κ M h2 (.nx (δ.set i (some w))) .next s') rfl hs ecl SC.kind SC.loc ?_) fun _ s' hq=>wpAny_pure (wpAny_pure hq));refine thn (hi R F e1) fun v s1 q1=>thn q1 fun itv s2 q2=>?_;obtain ⟨M2,it,fp,tn,l2,R2,rfl,T,t2,f2,hz⟩:=q2;refine nZ (R':=fun acc C=>compPost (model X.S.P X.S.w) X.A NE (some (assign (.Name x py) X.env)) (fun _ s'=>Ps X κ M h2 (.nx (δ.set i (some w))) .next s') acc C) hd SC hcl1 hcl2 hg ht he (F.go l2) R2 T.w t2 f2 (by rw [List.length_map];exact hz) (by rw [<- rQ];exact e2) fun {s' m M' us n} l R ho fa fc z r hn=>?_;show wpAny _ _ (assign (.Name x py) X.env (.ref s2.heap.objs.size)) _ _ s';generalize eC:s2.heap.objs.size+1=C at fc hn;have nA:s2.heap.objs.size≠C:=by rw [<- eC];exact Nat.ne_of_lt (Nat.lt_succ_self _)
 obtain ⟨oC,es,ep,hoC,hC⟩:=id hn;have RC:=R.more (b:=true) ⟨fc.1,fc.2.2⟩ hoC;have FC:Fra X (κ.up C (true,oC)) M' δ:=((F.go l2).go l).kp fun a ha=>bN fun z=>F.mine ha (by rw [z];exact fc.2.1);obtain ⟨M3,l3,R3,r3⟩:=cv ⟨M',.refl,RC,_,us,n,rfl,ho,⟨fa.1,by rw [bN nA];exact fa.2.1,fa.2.2⟩,z,r⟩;refine wpAny_assign_Name (aI0 (FC.go l3) R3 hiN (.inl hx) (.inr hx) r3 fun s4 κ4 o4 R4 F4 _=>?_);have kC:κ4 C=some (true,oC):=by
  by_cases q:κ4 C=κ.up C (true,oC) C
  ·rw [q];exact dY
  ·have own:C=X.env.locals\/∃ x,X.env.cells.lookup x=some C:=by
    rcases o4 C q with y | y
    ·exact .inl y
    ·exact .inr y.2
   exact absurd fc.2.1 (F.mine (own.imp_right .inl))
 have h4:=(R4.k C _ _ kC).1 rfl;refine ⟨m,⟨oC,es,ep,h4,hC⟩,fun h5 k5=>⟨unK [C] κ4,M3,fun a ha=>?_,l2.trans (l.trans l3),?_,F4.kp fun a ha=>?_⟩⟩
 ·have na:a≠C:=fun z=>ha (by unfold unK;rw [if_pos (by simp [z]),z];exact fc.2.1.symm);refine o4 a fun q=>ha ?_;unfold unK;rw [if_neg (by simpa using na),q,bN na]
 ·have R5:Mem X.S (unK [C] κ4) M3 h2 s4:=R4.less fun a x q=>by
   unfold unK at q;split at q
   ·cases q
   ·exact q
  exact R5.drop ⟨(R4.k C _ _ kC).2.2,by unfold unK;rw [if_pos (by simp)],R4.kc kC⟩ k5
 ·unfold unK;rw [if_neg fun hm=>F.mine ha (by rw [List.mem_singleton.mp hm];exact fc.2.1)]
def bW8 {S:Sx} {xs:List PyData} {u:Value} (p:Pl S κ M h (xs.map .d) u s):Pf S κ M h xs u s:=let ⟨N,l,R,a,us,n,e1,e2,f,z,r⟩:=p;⟨N,l,R,a,us,n,e1,e2,f,z,show Paired (fun a b=>RepW S N (.d a) b) xs us from bD3 r⟩
def cL8 {S:Sx} {is:List W} {u:Value} (p:Pl S κ M h is u s):Pw S κ M (h++[.r is]) (.c h.length) u s:=by
 obtain ⟨N,l,R,a,us,n,rfl,e,f,z,r⟩:=p;exact ⟨N.cel (a,a),l.trans .cel,R.add f f ⟨⟨_,e⟩,_,e⟩ ⟨us,n,e,z,r.go .cel⟩,(a,a),by show (N.m++[(a,a)])[h.length]?=_;rw [<- R.len];simp,rfl⟩
def jX {N:List Str} {S:Scope} (h:jD N sc S=true):CompSc N (iY sc) (fH N sc) S sc:=by
 unfold jD at h;simp only [Bool.and_eq_true,decide_eq_true_eq,List.all_eq_true] at h;obtain ⟨h1,h2,h3,h4,h5,h6⟩:=h;refine ⟨h1,fun y hy e=>?_,fun y hy e=>?_,fun y hy e=>?_,h5,by unfold fH;rw [List.length_map],?_⟩
 ·have:=h2 y hy;rw [e] at this;simp at this
 ·have:=h3 y hy;rw [e] at this
  simpa using this
 ·have:=h4 y hy;rw [e] at this
  simpa using this
 ·rw [List.all_eq_true];exact h6
def cY (G:Good X st d) (cl:List (Str×Addr)) (C:Addr):Good (blk X (iY sc) sc cl C) (st.blk sc) d:=by
 refine ⟨G.bl,G.gc,G.tk,G.fn,G.fnW,G.cls,G.om,G.fo,rfl,?_,(fun z=>nomatch z),G.rm,G.hm,fun q z=>nomatch z⟩;show relabel sc X.env=bI6 sc st.S;unfold relabel bI6 Env.kindOf;rw [G.S]
theorem wM (S:Snd v) (G:Good X st d):∀ ifs,SIf X ifs (aH1 v st ifs)
 | []=>fun _ _ _ _ _ _ _ R F e=>by cases e;exact wpAny_tests_nil ⟨rfl,_,.refl,R⟩
 | [c]=>fun _ _ _ _ _ _ _ R F e=>wpAny_tests_one (S.T G c R F e)
 | _::_::_=>fun _ _ _ _ _ _ _ R F e=>by cases e
def hX (h:gF e=false) (env:Env) (y:Value):foldedSetIterable e env y=pure y:=by
 cases e<;>first | rfl | cases h
def ItS (v:Evs):Prop:=∀ {X:Cx} {st:Sta} {d:Nat},Good X st d->∀ tg iter,SI X tg iter (gG v st tg iter)
def bK5 (S:Snd v) (I:ItS v) (G:Good X st d):SF X (.ListComp elt [⟨tg,iter,ifs,0⟩] sc pos) (mB v st elt tg iter ifs sc):=by
 unfold mB;split
 ·rename_i hc;rw [Bool.and_eq_true] at hc;have hs:gF iter=false:=by simpa using hc.2
  intro κ M δ h s w h' R F e;obtain ⟨⟨all,c⟩,h1,e1,e⟩:=aF e;exact thn (bK3 G.rm.hd (by rw [G.S,G.N];exact jX hc.1) (I G tg iter) (fun cl C=>S.G (cY G cl C) tg) (fun cl C=>wM S (cY G cl C) ifs) (fun cl C=>S.E (cY G cl C) elt) (hX hs _) R F e1 (jW e)) fun _ _ p=>bW8 p
 ·exact fun _ _ _ _ _ _ _ _ _ e=>by cases e
def aV4 (S:Snd v) (G:Good X st d):SE X (.ListComp elt [⟨tg,iter,ifs,0⟩] sc pos) (rG v st elt tg iter ifs sc):=by
 unfold rG;split
 ·rename_i hc;rw [Bool.and_eq_true] at hc;have hs:gF iter=false:=by simpa using hc.2
  intro κ M δ h s w h' R F e;obtain ⟨x,h1,e1,e⟩:=aF e;cases x with
  | d x=>cases e
  | c j =>
   obtain ⟨ws,ew,e⟩:=bind_some e;obtain ⟨⟨vs,h2⟩,e2,e⟩:=bind_some e;cases e;have SC:CompSc X.N (iY sc) (fH X.N sc) X.env.scope sc:=by rw [G.S,G.N];exact jX hc.1
   have e2:fJ (v.G (st.blk sc) tg) (aH1 v (st.blk sc) ifs) (v.E (st.blk sc) elt) (coW j ws) ws (bW (fH X.N sc) δ) h1 []=some (vs,h2):=by rw [G.N];exact e2
   obtain ⟨cl,ecl,hcl1,hcl2⟩:=fM (sc:=sc) (env:=X.env) fun y hy hf=>F.ok.has y.1 (SC.free y hy hf);refine thn ?_ fun _ _ p=>cL8 p;rw [eval_ListComp];refine wpAny_comprehension_free (use:=none) rfl (hX hs _) ecl SC.kind SC.loc ?_;refine thn (S.E G iter R F e1) fun u s1 ⟨M1,l1,R1,r1⟩=>?_;obtain ⟨p,ep,rfl⟩:=r1;obtain ⟨us,n,ho,hz,rr⟩:=wJ R1 ep ew;refine wpAny_pyIter_list (cD ho).isList ?_;exact nZ (R':=fun acc C=>compPost (model X.S.P X.S.w) X.A NE none (Pl X.S κ M h2 vs) acc C) G.rm.hd SC hcl1 hcl2 (fun cl C=>S.G (cY G cl C) tg) (fun cl C=>wM S (cY G cl C) ifs) (fun cl C=>S.E (cY G cl C) elt) (F.go l1) (R1.kept (t:=s1.toks) fun b o e=>Heap.get?_push_of_some _ e) (aV2 ep) ⟨_,Heap.get?_push_size _ rfl,rfl,rfl⟩ R1.one (by rw [rr.length];exact hz) e2 fun {s' m M' us n} l R ho fa fc z r hn=>⟨m,hn,fun h3 k3 =>
    ⟨M',l1.trans l,R.drop fc k3,_,us,n,rfl,(k3.2 _ (Nat.ne_of_lt (Nat.lt_succ_self _))).trans ho,fa,z,r⟩⟩
 ·exact fun _ _ _ _ _ _ _ _ _ e=>by cases e
def bW9 {gs:List Comprehension} {tg iter:Expr} {ifs:List Expr} (e:gW st gs=some (tg,iter,ifs)):gs=[⟨tg,iter,ifs,0⟩]:=by
 unfold gW at e;obtain ⟨y,_,ey⟩:=Option.map_eq_some_iff.mp e;have:=y.2;rw [ey] at this;exact this
def uA {f:XR (List PyData)} (hf:SF X e f):SE X e (cA f):=by
 intro κ M δ h s w h' R F e;obtain ⟨⟨xs,h1⟩,e1,e⟩:=bind_some (show (f δ h).bind _=_ from e);cases e;exact thn (hf R F e1) fun _ _ p=>aH4 p
def oA {f:XR (List PyData)} (hf:SF X e f):SE X e (aO f):=by
 intro κ M δ h s w h' R F e;obtain ⟨⟨xs,h1⟩,e1,e⟩:=bind_some (show (f δ h).bind _=_ from e);cases e;exact thn (hf R F e1) fun _ _ p=>rH p
def iZ:SF X e xno:=fun _ _ _ _ _ _ _ _ _ e=>by cases e
def Pf.go {S:Sx} {M M':Mp} {xs:List PyData} {u:Value} (l:Le M M') (p:Pf S κ M' h xs u s):Pf S κ M h xs u s:=let ⟨N,a,b⟩:=p;⟨N,l.trans a,b⟩
theorem bX0 (S:Snd v) (G:Good X st d):SF X (.BinOp a .Add b pos) (xb (v.E st a) fun u=>xb (v.E st b) fun w=>fun _ h=>(match ref h u,ref h w with
  | some (.list xs),some (.list ys)=>if xs.length+ys.length<=sizeLine then some (xs++ys,h) else none
  | _,_=>none)):=by
 intro κ M δ h s w h' R F e;obtain ⟨x,h1,e1,e⟩:=aF e;obtain ⟨y,h2,e2,e⟩:=aF e;refine wpAny_BinOp (thn (S.E G a R F e1) fun u s1 ⟨M1,l1,R1,r1⟩=>thn (S.E G b R1 (F.go l1) e2) fun v s2 ⟨M2,l2,R2,r2⟩=>?_);split at e
 ·rename_i ha hb;obtain ⟨hz,e⟩:=aG e;cases e;obtain ⟨a,us,n,rfl,ea,la,ra'⟩:=dQ R2 (r1.go l2) ha;obtain ⟨b,vs,m,rfl,eb,lb,rb'⟩:=dQ R2 r2 hb;have k1:=ra'.length;have k2:=rb'.length;refine PySem.P.add_list ea eb ?_ (by rw [List.size_toArray,List.size_toArray];omega);have ea:us.toArray++vs.toArray=(us++vs).toArray:=by simp
  rw [ea];exact Pf.go (l1.trans l2) (R2.lstP (t:=s2.toks) (zW ra' rb') (by rw [List.length_append];omega))
 ·cases e
def bX1 (S:Snd v) (G:Good X st d) {lo hi:Option Expr} {p2:Pos}:SE X (.Subscript a (.Slice lo hi none p2) pos) (xb (v.E st a) fun x=>xb (wE v st lo) fun l=>xb (wE v st hi) fun u=>fun _ h=>xSl x l u h):=by
 intro κ M δ h s w h' R F e;refine cL6 S G (Q:=Pw X.S κ M h') (r:=(w,h')) R F e fun l1 R1 r1 hs pl pu e=>?_;unfold xSl at e;split at e
 ·cases e;obtain ⟨t,q⟩:=sl_t (A:=X.A) (E:=NE) R1 r1 hs pl pu;exact ⟨"tuple",_,PyProof.Rows.slot_tuple_getitem.lookup,t,thn q fun _ _ p=>p.go l1⟩
 ·split at e
  ·rename_i ea;cases e;obtain ⟨t,q⟩:=sl_l (A:=X.A) (E:=NE) R1 r1 ea hs pl pu;exact ⟨"list",_,slot_list_getitem.lookup,t,thn q fun _ _ p=>(rH p).go l1⟩
  ·cases e
theorem bX2 (S:Snd v) (G:Good X st d) {p:Pos}:SF X (.BinOp (.List es p) .Mult b pos) (xb (cA (xPl (aX v st es))) fun u=>xb (v.E st b) fun w=>fun _ h=>(match u,w with
  | .c i,.d (.int k)=>(match h[i]? with
   | some (.l xs)=>if -(2^63)<=k/\k < 2^63/\xs.length*k.toNat<=sizeLine then some ((List.replicate k.toNat xs).flatten,h) else none
   | _=>none)
  | _,_=>none)):=by
 intro κ M δ h s w h' R F e;obtain ⟨x,h1,e1,e⟩:=aF e;obtain ⟨y,h2,e2,e⟩:=aF e;refine wpAny_BinOp (thn (uA (aI5 S G) R F e1) fun u s1 ⟨M1,l1,R1,r1⟩=>thn (S.E G b R1 (F.go l1) e2) fun v s2 ⟨M2,l2,R2,r2⟩=>?_);rcases x with _ | i
 ·cases e
 rcases y with (_ | _ | k | _ | _ | _ | _) | _<;>first | cases e;done | skip
 dsimp only at e;split at e
 ·rename_i xs ei;obtain ⟨⟨q1,q2,hz⟩,e⟩:=aG e;cases e;obtain ⟨t,rfl⟩:=wi.mp r2;obtain ⟨p,ep,rfl⟩:=r1.go l2;obtain ⟨us,n,ho,hl,rr⟩:=R2.cel i p _ ep ei;have hlen:=rr.length;have hsz:us.toArray.size*k.toNat<=sizeLine:=by rw [List.size_toArray,<- hlen];exact hz
  have hcap:¬ us.toArray.size*k.toNat > (2^63 - 1) / 8:=by
   have:(sizeLine:Nat)<=(2^63 - 1) / 8:=by decide
   omega
  have hfit:¬ (!Builtin.List.listFitsIndex k)=true:=by rw [fitsIndex_both q1 q2];exact Bool.false_ne_true
  have hlong:¬ Builtin.List.listTooLong (us.toArray.size*k.toNat)=true:=by
   unfold Builtin.List.listTooLong;rw [decide_eq_false (by omega)];exact Bool.false_ne_true
  have hnew:List.foldl (fun x1 x2=>x1++x2) #[] (List.replicate (if us.toArray.isEmpty=true then 0 else k.toNat) us.toArray)=(List.replicate k.toNat us).flatten.toArray:=by
   have f0:∀ m:Nat,List.foldl (fun x1 x2=>x1++x2) #[] (List.replicate m us.toArray)=(List.replicate m us).flatten.toArray:=fun m=>by
    have:=qB us m [];rw [List.nil_append] at this;exact this
   rw [f0];cases us with
   | nil=>simp
   | cons a r'=>rw [if_neg (by simp)]
  refine wpAny_binaryOp_repeat_ref (T:="list") (U:="int") (by decide) ⟨_,ho,rfl⟩ (fun s'=>typeIs_int s' k t) noFill_list_mul PySem.F.fills_int_mul PySem.F.slot_int_rmul repeat_list PySem.F.slot_int_index.lookup
   (call_meets PySem.F.slot_int_rmul (typeIs_int s2 k t) PySem.F.entry_int_rmul (PySem.F.args_int_rmul_2 _ _) (int___rmul___int_list k t p.1 us.toArray n)
    ⟨ho,rfl,⟨_,ho,rfl⟩,call_meets PySem.F.slot_list_mul ⟨_,ho,rfl⟩ PySem.F.entry_list_mul (PySem.F.args_list_mul_2 _ _) (AutoListH.list___mul___list_int_3 p.1 us.toArray n k t hfit hcap hlong) ⟨ho,?_⟩⟩)
  rw [hnew];exact Pf.go (l1.trans l2) (R2.lstP (t:=s2.toks) (n:=0) (bU6 rr k.toNat) (by rw [aU6,Nat.mul_comm,<- hlen];exact hz))
 ·cases e
end
end DL


namespace DL
open PySem PySem.Spec PyProof.Rows L2 CI
section
variable {S:Sx} {κ:Kp} {M:Mp} {h h':aA} {s:Shared} {A:Around} {E:Value->Shared->Prop} {d:Nat}
def Room.deeper {k:Nat} (r:Room S (k+1) A) (env:Env):Room S k (A.deeper env) :=
 ⟨r.hd,by have:=r.dp;show A.depth+1+3*k+5 < _;omega,by have:=r.un;show A.units+3+16*k+200 < _;omega⟩
def wN {C:Addr} {us:List Value} {kw:List (Str×Value)}:(A.under (.builtin "type.__call__" ⟨.ref C::us,kw⟩)).depth=A.depth+1:=by
 first | rfl | simp [Around.under,Code.weight,Code.isCreation,Code.isGuard,Code.isCaller,Code.frames,Code.isFrame,guardIds]
def wO {C:Addr} {us:List Value} {kw:List (Str×Value)}:(A.under (.builtin "type.__call__" ⟨.ref C::us,kw⟩)).units=A.units+1:=by
 first | rfl | simp [Around.under,Code.cUnits,Code.frames,Code.isFrame]
def Room.make {k:Nat} (r:Room S (k+1) A) (C:Addr) (us:List Value) (kw:List (Str×Value)):Room S k (A.under (.builtin "type.__call__" ⟨.ref C::us,kw⟩)) :=
 ⟨r.hd,by have:=r.dp;rw [wN];omega,by have:=r.un;rw [wO];omega⟩
def FrO.make (r:FrO κ A) (C:Addr) (us:List Value) (kw:List (Str×Value)):FrO κ (A.under (.builtin "type.__call__" ⟨.ref C::us,kw⟩)):=by
 have:(A.under (.builtin "type.__call__" ⟨.ref C::us,kw⟩)).frames=A.frames:=by
  first | rfl | simp [Around.under,Code.frames,Code.isFrame]
 unfold FrO;rw [this];exact r
def aI9 {f:Addr} {fd:FuncData} {ps:List Str} {m:XFW} {us:List Value} {ws:List W} {w:W} (F:FnS S d f fd ps m) (hr:Room S d A) (hk:Hk A M) (fo:FrO κ A) (hb:eO S.K fd ps) (md:Mod S) (hz:S.base.objs.size<=s.heap.objs.size) (R:Mem S κ M h s) (r:RepWs S M ws us) (e:m ws h=some (w,h')):Wp S A (call (.ref f) us) (Pw S κ M h' w) E s:=by
 have hl:us.length=ps.length:=by rw [<- r.length];exact F.len _ _ _ e
 refine wpAny_call (codeAny_mono (F.run (args:=⟨us,[]⟩) hr hk fo md hz R (hb s us (md.kin.keeps R.bk) hl) r e) fun r s' ⟨u,hq,p⟩=>?_);subst hq;exact p
def RelO.some_of {w:W} {o:Option Value} (r:RelO S M (some w) o):∃ u,o=some u/\RepW S M w u:=by
 cases o with
 | none=>exact (show False from r).elim
 | some u=>exact ⟨u,rfl,r⟩
def Mem.lset {i:Nat} {p:Addr×Addr} {us us':List Value} {n t:Nat} {c:Cell} {f:Array Value->Array Value} (R:Mem S κ M h s) (ei:M.m[i]?=some p) (e:s.heap.get? p.1=some (bC us n)) (hf:f us.toArray=us'.toArray)
  (x:∀ (h2:Heap) (n':Nat),h2.get? p.1=some (bC us' n')->CellOk S M h2 p c):Mem S κ M (h.set i c) { s with heap:=s.heap.update p.1 (Obj.mapSeq f),toks:=t }:=by
 have q:=PySem.IsL.update e f;rw [hf] at q;obtain ⟨_,_,o2,ho2⟩:=R.off p (List.mem_of_getElem? ei) p.2 (.inr rfl);refine R.wr ei (fun b o n1 _ q=>(Heap.get?_update_other _ _ (Ne.symm n1)).trans q) ⟨⟨_,q⟩,?_⟩ R.bare rfl (x _ _ q)
 by_cases hq:p.2=p.1
 ·exact ⟨_,by rw [hq];exact q⟩
 ·exact ⟨o2,(Heap.get?_update_other _ _ (Ne.symm hq)).trans ho2⟩
def aJ0 {i:Nat} {p:Addr×Addr} {xs:List PyData} {x:PyData} {u:Value} (R:Mem S κ M h s) (ep:M.m[i]?=some p) (ei:h[i]?=some (.l xs)) (hz:xs.length < sizeLine) (rx:Rep S M.Z x u):Wp S A (call (.builtin "list.append") [.ref p.1,u]) (Pw S κ M (h.set i (.l (xs++[x]))) (.d .none)) E s:=by
 obtain ⟨us,n,e,hl,r⟩:=R.cel i p _ ep ei;have hlen:=r.length;refine call_meets F.slot_list_append ⟨_,e,rfl⟩ F.entry_list_append (F.args_list_append_2 _ _) (PySem.list_append p.1 us.toArray n u (by rw [List.size_toArray];omega)) ⟨e,?_⟩;exact (R.lset (t:=s.toks) (us':=us++[u]) (c:=.l (xs++[x])) ep e (by simp) fun h2 n' e'=>⟨_,n',e',by rw [List.length_append,List.length_singleton];omega,Paired.snoc r rx⟩).pn
end
section
variable {X:Cx} {st:Sta} {d:Nat} {v:Evs} {κ:Kp} {M:Mp} {δ:DSt} {h h':aA} {s:Shared} {a o:Expr} {es:List Expr} {pos p apos:Pos} {x m:Str} {w:W}
def Fra.kin (F:Fra X κ M δ):X.S.K.In X.S.base:=F.ok.mod.kin
def bK6 {m:XFW} {fa:XR (List W)} (G:Good X st d) (ht:cV st x=true) (hm:FnG X.S d x m) (hA:SA X (a::es) fa) (hstar:∀ {δ h r},fa δ h=some r->(a::es).all aI=true):SE X (.Call (.Name x p) (a::es) [] pos) (xb fa fun ws=>fun _ h=>m ws h):=by
 intro κ M δ h s w h' R F e;obtain ⟨hn,hg⟩:=rN G ht;obtain ⟨ws,h1,e1,e⟩:=aF e;have hst:=hstar e1;rw [List.all_cons,Bool.and_eq_true] at hst;rcases hm with z | ⟨f,fd,ps,mg,kp,hb,FF⟩
 ·rw [z] at e;cases e
 refine wpAny_Call_Name_kw (fU F R hg mg hn ?_);refine PySem.W.callWith_K (h₀:=X.S.base) F.kin kp (thn (hA pos R F e1) fun us s1 ⟨M1,l1,R1,r1⟩=>⟨F.kin.keeps R1.bk,?_⟩) (bS a hst.1) (cL pos es hst.2);exact thn (aI9 FF G.rm (F.hk.go l1) F.frs hb F.ok.mod ((F.go l1).size R1) R1 r1 e) fun _ _ q=>q.go l1
def aJ1 (S:Snd v) (G:Good X st d) {m:XFW} (ht:cV st x=true) (hm:FnG X.S d x m):SE X (.Call (.Name x p) (a::es) [] pos) (xb (aX v st (a::es)) fun ws=>fun _ h=>m ws h):=bK6 G ht hm (bU S G _) eZ
def bK7 (S:Snd v) (G:Good X st d):SE X (.Call (.Name x p) (a::es) [] pos) (wF v st x (a::es)):=by
 intro κ M δ h s w h' R F e;unfold wF at e;dsimp only at e;obtain ⟨y,h1,e1,e⟩:=aF e;rcases y with z | j
 ·cases z with
  | dict kvs =>
   dsimp only at e;cases hg:kT kvs with
   | none=>rw [hg] at e;cases e
   | some g =>
    rw [hg] at e;dsimp only at e;cases hm:st.fn g with
    | none=>rw [hm] at e;cases e
    | some m =>
     rw [hm] at e;obtain ⟨ws,h2,e2,e⟩:=aF e;have hst:=eZ e2;rw [List.all_cons,Bool.and_eq_true] at hst;refine wpAny_Call_Name_kw (thn (aI2 G R F e1) fun u s1 ⟨M1,l1,R1,r1⟩=>?_);obtain ⟨⟨af,rfl⟩,mg'⟩:=(aF4 hg).mp (show Rep X.S M1.Z (.dict kvs) u from r1);rcases G.fn _ _ hm with z | ⟨f,fd,ps,mg,kp,hb,FF⟩
     ·exact absurd ((z ws h2).symm.trans e) (by simp)
     rw [mg'] at mg;cases mg;refine PySem.W.callWith_K (h₀:=X.S.base) F.kin kp (thn (bU S G _ pos R1 (F.go l1) e2) fun us s2 ⟨M2,l2,R2,r2⟩=>⟨F.kin.keeps R2.bk,?_⟩) (bS a hst.1) (cL pos es hst.2);exact thn (aI9 FF G.rm (F.hk.go (l1.trans l2)) F.frs hb F.ok.mod ((F.go (l1.trans l2)).size R2) R2 r2 e) fun _ _ q=>q.go (l1.trans l2)
  | _=>cases e
 ·cases e
theorem uB (env:Env) (cpos:Pos):∀ (es:List Expr),es.all aI=true->(backTo cpos (starEach es env)).all (fun x=>!x.1)=true
 | [],_=>rfl
 | e::es,h=>by
  rw [List.all_cons,Bool.and_eq_true] at h;have t:starEach (e::es) env=(false,eval e env)::starEach es env:=by
   have h1:=h.1;cases e<;>first | rfl | cases h1
  rw [t];exact uB env cpos es h.2
def aJ2 (hs:(a::es).all aI=true) (hl:(a::es).length < 29) (env:Env) (cpos:Pos) :
  ((backTo cpos (starEach (a::es) env)).all (fun x=>!x.1)&&(backToKw cpos (keywordEach [] env)).all (fun x=>x.1.isSome)
   && decide ((a::es).length+([]:List Keyword).length+(if ([]:List Keyword).isEmpty then 0 else 1) < 30))=true:=by
 rw [uB _ _ _ hs];have:(a::es).length+0+0 < 30:=by omega
 show (true&&true&&decide _)=true;simp only [Bool.true_and,decide_eq_true_eq];exact this
def mZ (ho:nP o=true) (m:Str) (env:Env):attributeBase o m env (eval o env)=eval o env:=by
 cases o<;>first | rfl | cases ho
def rR (S:Snd v) (G:Good X st d) {f:Value} {ws:List W} {h1:aA} {Q:Value->Shared->Prop} (hx:(cV st x&&(slot st x).isNone&&st.bl.contains x)=true) (hv:bootBuiltins x=some f) (hf:(∃ i,f=.builtin i)\/∃ i,f=.type i) (R:Mem X.S κ M h s) (F:Fra X κ M δ) (e:aX v st (a::es) δ h=some (ws,h1))
  (q:∀ {M1 us s1},Le M M1->Mem X.S κ M1 h1 s1->RepWs X.S M1 ws us->Wp X.S X.A (call f us) Q NE s1):Wp X.S X.A (eval (.Call (.Name x p) (a::es) [] pos) X.env) Q NE s:=by
 obtain ⟨h1,h2,h3⟩:=gQ G hx;have hst:=eZ e;rw [List.all_cons,Bool.and_eq_true] at hst;refine wpAny_Call_Name_kw (gO F R h2 h3 hv h1 ?_);rcases hf with ⟨i,rfl⟩ | ⟨i,rfl⟩
 ·exact PyProof.Rows.callWith_builtin1 (thn (bU S G _ pos R F e) fun us s1 ⟨M1,l1,R1,r1⟩=>q l1 R1 r1) (bS a hst.1) (cL pos es hst.2)
 ·exact PyProof.Rows.callWith_type1 (thn (bU S G _ pos R F e) fun us s1 ⟨M1,l1,R1,r1⟩=>q l1 R1 r1) (bS a hst.1) (cL pos es hst.2)
def yK (F:Fra X κ M δ) (R:Mem X.S κ M h s):(s.heap.objs.size==sysModules)=false:=by
 have h:mainGlobals < s.heap.objs.size:=(F.ok.mod.glob.keeps R.bk).lt;have:sysModules < s.heap.objs.size:=Nat.lt_trans (by decide) h;exact beq_eq_false_iff_ne.mpr (Nat.ne_of_gt this)
def cL9 (S:Snd v) (G:Good X st d) {f:Value} {g:List W->aA->Option (W×aA)} (hx:(cV st x&&(slot st x).isNone&&st.bl.contains x)=true) (hv:bootBuiltins x=some f) (hf:(∃ i,f=.builtin i)\/∃ i,f=.type i) (hg:BfS X.S f g):SE X (.Call (.Name x p) (a::es) [] pos) (xb (aX v st (a::es)) fun ws=>fun _ h=>g ws h):=by
 intro κ M δ h s w h' R F e;obtain ⟨ws,h1,e1,e⟩:=aF e;exact rR S G hx hv hf R F e1 fun l1 R1 r1=>thn (hg G.rm (F.hk.go l1) F.kin (yK (F.go l1) R1) R1 r1 e) fun _ _ q=>q.go l1
theorem bX3 (S:Snd v) (G:Good X st d) (hx:(cV st "list"&&(slot st "list").isNone&&st.bl.contains "list")=true):SF X (.Call (.Name "list" p) (a::es) [] pos) (xb (aX v st (a::es)) fun ws=>fun _ h=>(match ws with
  | [w]=>(match ref h w with
   | some (.list xs)=>some (xs,h)
   | some (.tuple xs)=>some (xs,h)
   | _=>none)
  | _=>none)):=by
 intro κ M δ h s w h' R F e;obtain ⟨ws,h1,e1,e⟩:=aF e;refine rR (f:=.type "list") S G hx (by decide +kernel) (.inr ⟨_,rfl⟩) R F e1 fun {M1 us s1} l1 R1 r1=>?_;rcases ws with _ | ⟨x,_ | ⟨_,_⟩⟩
 ·cases e
 ·obtain ⟨u,rfl,ru⟩:=w1 r1;dsimp only at e;split at e
  ·rename_i ex;cases e;exact thn (aH7 R1 ru (.inl ex)) fun _ _ q=>q.go l1
  ·rename_i ex;cases e;exact thn (aH7 R1 ru (.inr ex)) fun _ _ q=>q.go l1
  ·cases e
 ·cases e
def aV5 {T:Str} {Ts:String} (h:aU2 T=some Ts):bootBuiltins T=some (.type Ts)/\nU Ts:=by
 unfold aU2 at h;split at h
 ·rename_i e;cases h;subst e;exact ⟨by decide +kernel,aU9⟩
 split at h
 ·rename_i e;cases h;subst e;exact ⟨by decide +kernel,aH8⟩
 split at h
 ·rename_i e;cases h;subst e;exact ⟨by decide +kernel,aV0⟩
 split at h
 ·rename_i e;cases h;subst e;exact ⟨by decide +kernel,aB1⟩
 split at h
 ·rename_i e;cases h;subst e;exact ⟨by decide +kernel,aH9⟩
 ·cases h
def bX4 (S:Snd v) (G:Good X st d) {T:Str} {Ts:String} {q:Pos} (hx:(cV st "isinstance"&&(slot st "isinstance").isNone&&st.bl.contains "isinstance")=true) (hs:aI a=true) (hT:(cV st T&&(slot st T).isNone&&st.bl.contains T)=true) (ht:aU2 T=some Ts) :
  SE X (.Call (.Name "isinstance" p) [a,.Name T q] [] pos) (xb (v.E st a) fun w=>fun _ h=>(ref h w).bind fun d=>if noD d=true then some (.d (.bool (isi d Ts)),h) else none):=by
 intro κ M δ h s w h' R F e;obtain ⟨x,h1,e1,e⟩:=aF e;obtain ⟨z,ez,e⟩:=bind_some e;obtain ⟨hnd,e⟩:=aG e;cases e;obtain ⟨n1,n2,n3⟩:=gQ G hx;obtain ⟨m1,m2,m3⟩:=gQ G hT;obtain ⟨hb,hk⟩:=aV5 ht;refine wpAny_Call_Name_kw (gO (u:=.builtin "isinstance") F R n2 n3 (by decide +kernel) n1 ?_);refine PyProof.Rows.callWith_builtin1 ?_ (bS a hs) (cL pos [.Name T q] rfl);rw [bS a hs];show Wp _ _ (spliced ((false,eval a X.env)::backTo pos (starEach [.Name T q] X.env))) _ _ s;refine Calls.spliced_cons (thn (S.E G a R F e1) fun u s1 ⟨M1,l1,R1,r1⟩=>?_);rw [bS (X:=X) (es:=[]) (.Name T q) rfl];show Wp _ _ (spliced ((false,eval (.Name T q) X.env)::[])) _ _ s1;refine Calls.spliced_cons (gO (F.go l1) R1 m2 m3 hb m1 (Calls.spliced_nil ?_));exact thn (bJ4 F.kin hk R1 r1 ez hnd) fun _ _ q=>q.go l1
def aJ3 (S:Snd v) (G:Good X st d) {id:String} {x:W} {h1 h2:aA} {ws:List W} {Q:Value->Shared->Prop} (slot:Slot "list" m id) (hty:typeOf (.builtin id)=pure (.type "method_descriptor")) (ho:nP o=true) (hl:(apos.endLine==pos.line)=true) (hn:(a::es).length < 29)
  (R:Mem X.S κ M h s) (F:Fra X κ M δ) (e1:v.E st o δ h=some (x,h1)) (et:(∃ xs,DL.ref h1 x=some (.list xs))\/∃ i xs,x=.c i/\h1[i]?=some (.r xs)) (e2:aX v st (a::es) δ h1=some (ws,h2))
  (q:∀ {M2 u us s2},Le M M2->Mem X.S κ M2 h2 s2->RepW X.S M2 x u->RepWs X.S M2 ws us->Wp X.S X.A (call (.builtin id) (u::us)) Q NE s2):Wp X.S X.A (eval (.Call (.Attribute o m apos) (a::es) [] pos) X.env) Q NE s:=by
 have hst:=eZ e2;have hst':=hst;rw [List.all_cons,Bool.and_eq_true] at hst';refine wpAny_Call_method_late (mZ ho _ _) (aJ2 hst hn _ _) hl rfl (thn (S.E G o R F e1) fun u s1 ⟨M1,l1,R1,r1⟩=>?_);have ty:∃ b us n,u=.ref b/\s1.heap.get? b=some (bC us n):=by
  obtain ⟨xs,ex⟩ | ⟨i,xs,rfl,ei⟩:=et
  ·obtain ⟨b,us,n,rfl,ho,_⟩:=dQ R1 r1 ex;exact ⟨b,us,n,rfl,ho⟩
  ·obtain ⟨p,ep,rfl⟩:=r1;obtain ⟨us,n,ho,_⟩:=R1.cel i p _ ep ei;exact ⟨_,us,n,rfl,ho⟩
 obtain ⟨b,us,n,rfl,hob⟩:=ty;refine ⟨"list",id,PySem.F.plainAttrs_list,slot,hty,(cD hob).isList.typeIs,fun c ec=>by cases ec;exact ⟨_,hob,rfl⟩,?_⟩;have hA:=bU S G _ pos R1 (F.go l1) e2;rw [bS a hst'.1] at hA ⊢;refine Calls.callWith_builtin (by show (false||(backTo pos (starEach es X.env)).any (·.1))=false;rw [cL pos es hst'.2]<;>rfl) (Calls.evalArgs_plain ?_);exact thn hA fun us s2 ⟨M2,l2,R2,r2⟩=>q (l1.trans l2) R2 (r1.go l2) r2
end
end DL

namespace DL
open PySem PySem.Spec PyProof.Rows L2 CI
section
variable {S:Sx} {κ:Kp} {M M0:Mp} {h:aA} {s:Shared} {A:Around} {E:Value->Shared->Prop} {elts:List Expr} {n:Nat} {pos:Pos}
def SqZ (M:Mp) (b:Bool) (a:Addr) (us:List Value):Prop:=∃ n,M.Z a=some { cls:=.type (if b=true then "tuple" else "list"),data:=.seq us.toArray n }
def SqZ.at {b:Bool} {a:Addr} {us:List Value} (x:SqZ M0 b a us) (l:Le M0 M) (R:Mem S κ M h s):SqAt b s.heap a us.toArray:=by
 obtain ⟨n,e⟩:=x;have e:=R.z _ _ (l.z _ _ e);cases b
 ·exact (cD e).isList
 ·exact hO e
def SqZ.ne {b:Bool} {a c:Addr} {us:List Value} (x:SqZ M0 b a us) (l:Le M0 M) (f:aU κ M c):a≠c:=fun z=>by
 obtain ⟨n,e⟩:=x;have e:=l.z _ _ e;rw [z,f.1] at e;cases e
def aJ4 {w:W} {u:Value} {xs:List PyData} (e:nK w=some xs) (r:RepW S M w u):∃ b a us,u=.ref a/\SqZ M b a us/\us.length<=sizeLine/\Reps' S M xs us:=by
 unfold nK at e;split at e
 ·cases e;obtain ⟨a,o,us,rfl,z,⟨⟨n,rfl⟩,hz⟩,rr⟩:=rep_l.mp (show Rep S M.Z _ _ from r);exact ⟨false,a,us,rfl,⟨n,z⟩,hz,rr⟩
 ·cases e;obtain ⟨a,o,us,rfl,z,⟨⟨n,rfl⟩,hz⟩,rr⟩:=rep_t.mp (show Rep S M.Z _ _ from r);exact ⟨true,a,us,rfl,⟨n,z⟩,hz,rr⟩
 ·cases e
def Mem.pair {h2:Heap} {t:Nat} {fp:List Addr} {x y:PyData} {u v:Value} (R:Mem S κ M h s) (hf:∀ b∈fp,aU κ M b) (hs:∀ b∈fp,∃ o,s.heap.get? b=some o) (k:∀ b o,b∉fp->s.heap.get? b=some o->h2.get? b=some o) (e:h2.get? s.heap.objs.size=some { cls:=.type "tuple",data:=.seq #[u,v] }) (rx:Rep S M.Z x u) (ry:Rep S M.Z y v) :
  ∃ M',Le M M'/\Mem S κ M' h { s with heap:=h2,toks:=t }/\Rep S M'.Z (.tuple [x,y]) (.ref s.heap.objs.size)/\∀ b∈fp,aU κ M' b:=by
 have R1:Mem S κ M h { s with heap:=h2,toks:=t }:=R.turn hf k;refine ⟨_,.add R.size.1,R1.frz R.size e,rep_t.mpr ⟨_,_,[u,v],rfl,gY,⟨⟨0,rfl⟩,by simp [sizeLine_eq]⟩,.cons (Rep.go (Le.add R.size.1).z rx) (.cons (Rep.go (Le.add R.size.1).z ry) .nil)⟩,fun b hb=>⟨?_,(hf b hb).2⟩⟩;obtain ⟨o,q⟩:=hs b hb;show (if b=s.heap.objs.size then _ else M.Z b)=none;rw [if_neg (Nat.ne_of_lt (Heap.lt_size q))];exact (hf b hb).1
def ZSt (b c:Bool) (z TI TO i1 i2 l1 l2:Addr) (i:Nat) (h:Heap):Prop :=
 IsZip h z TI TO .none/\IsPair h TI (.ref i1) (.ref i2)/\(∃ u v,IsPair h TO u v)/\ItAt b h i1 l1 i/\ItAt c h i2 l2 i
def ZSt.obj {b c:Bool} {z TI TO i1 i2 l1 l2:Addr} {i:Nat} {h:Heap} (st:ZSt b c z TI TO i1 i2 l1 l2 i h):∀ a∈[z,TI,TO,i1,i2],∃ o,h.get? a=some o:=fun a ha=>by
 obtain ⟨s1,s2,⟨u,v,s3⟩,s4,s5⟩:=st;simp only [List.mem_cons,List.not_mem_nil,or_false] at ha;rcases ha with rfl | rfl | rfl | rfl | rfl
 ·exact ⟨_,s1⟩
 ·exact ⟨_,s2⟩
 ·exact ⟨_,s3⟩
 ·exact s4.ob
 ·exact s5.ob
def bK8 {xs ys:List PyData} {i:Nat} {x:PyData} (e:(kU xs ys)[i]?=some x):∃ a b,xs[i]?=some a/\ys[i]?=some b/\x=.tuple [a,b]:=by
 unfold kU at e;rw [List.getElem?_zipWith] at e;cases q1:xs[i]? with
 | none=>rw [q1] at e;cases e
 | some a =>
  cases q2:ys[i]? with
  | none=>rw [q1,q2] at e;cases e
  | some b=>rw [q1,q2] at e;cases e;exact ⟨a,b,rfl,rfl,rfl⟩
def aJ5 {b c:Bool} {z TI TO i1 i2 l1 l2:Addr} {xs ys:List PyData} {us vs:List Value} (D:ZApart z TI TO i1 i2) (q1:SqZ M0 b l1 us) (q2:SqZ M0 c l2 vs) (r1:Reps' S M0 xs us) (r2:Reps' S M0 ys vs):Turn S (.Tuple elts n pos) (kU xs ys) none M0 [z,TI,TO,i1,i2] z (ZSt b c z TI TO i1 i2 l1 l2) where
 obj:=fun i h st=>st.obj
 keep:=fun i h h' st k=>by
  obtain ⟨s1,s2,⟨u,v,s3⟩,s4,s5⟩:=st;exact ⟨k z (by simp) _ s1,k TI (by simp) _ s2,⟨u,v,k TO (by simp) _ s3⟩,s4.keep fun o e=>k i1 (by simp) o e,s5.keep fun o e=>k i2 (by simp) o e⟩
 item:=by
  intro A κ M h s E i x hd hk R l hf st hx co;obtain ⟨x1,x2,h1,h2,rfl⟩:=bK8 hx;obtain ⟨u1,hu1,ru1⟩:=mM (r1.go l) h1;obtain ⟨u2,hu2,ru2⟩:=mM (r2.go l) h2;have ob:=st.obj;obtain ⟨s1,s2,⟨u,v,s3⟩,s4,s5⟩:=st;have hT:s.TypeIs (.ref z) "zip":=⟨_,s1,rfl⟩;have fz:=hf z (by simp);have fTO:=hf TO (by simp);have fi1:=hf i1 (by simp);refine wpAny_bind (wpAny_attempt (wpAny_callSpecial?_slot hT F.slot_zip_next (wpAny_call_entry F.slot_zip_next hT F.entry_zip_next
   (aA3 D s1 s2 s3 s4 s5 (q1.at l R) (q2.at l R) (q1.ne l fz) (q2.ne l fz) (q2.ne l fTO) (q2.ne l fi1) (x:=u1) (y:=u2) (by simpa using hu1) (by simpa using hu2)
    fun h' a1 a2 a3 a4 a5 a6 a7=>wpAny_pure ?_) (F.args_zip_next_1 _))))
  refine ⟨_,rfl,wpAny_letOwnedTupleGo_zip (s:={ s with heap:=h' }) a1 fun h'' b1 b2=>?_⟩;have zs:s.heap.objs.size≠z:=Nat.ne_of_gt (Heap.lt_size s1);obtain ⟨M',l',R',r',f'⟩:=R.pair (h2:=h'') (t:=s.toks) hf ob (fun a o ha e=>by
   simp only [List.mem_cons,List.not_mem_nil,or_false,not_or] at ha;exact (b2.2 a ha.1).trans (a7 a o ha.1 ha.2.2.1 ha.2.2.2.1 ha.2.2.2.2 e)) ((b2.2 _ zs).trans a5) ru1 ru2
  exact ⟨M',l',R',r',⟨b1,(b2.2 _ D.TIz).trans (a7 _ _ D.TIz D.TITO D.TIi1 D.TIi2 s2),⟨u1,u2,(b2.2 _ D.TOz).trans a2⟩,a3.keep fun o e=>(b2.2 _ D.i1z).trans e,a4.keep fun o e=>(b2.2 _ D.i2z).trans e⟩,f'⟩
 done:=by
  intro A κ M h s E i hd hk R l hf st hl co;obtain ⟨s1,s2,⟨u,v,s3⟩,s4,s5⟩:=st;have k1:=r1.length;have k2:=r2.length;unfold kU at hl;rw [List.length_zipWith] at hl;have hT:s.TypeIs (.ref z) "zip":=⟨_,s1,rfl⟩;have fz:=hf z (by simp);have fTO:=hf TO (by simp);have fi1:=hf i1 (by simp);refine wpAny_bind (wpAny_attempt (wpAny_callSpecial?_slot hT F.slot_zip_next (wpAny_call_entry F.slot_zip_next hT F.entry_zip_next
   (aG3 (A:=A.in1) (hk.at R) D s1 s2 s3 s4 s5 (q1.at l R) (q2.at l R) (q1.ne l fz) (q2.ne l fz) (q2.ne l fTO) (q2.ne l fi1) (by simp;omega)
    fun h' e kk ⟨o,ho,hc⟩=>wpAny_bind (wpAny_isInstance ⟨o,ho,hc⟩ isSubtype_stop (wpAny_pure ⟨rfl,?_⟩))) (F.args_zip_next_1 _))))
  exact R.turn (t:=s.toks) hf fun a o ha e=>by
   simp only [List.mem_cons,List.not_mem_nil,or_false,not_or] at ha;exact kk a o ha.1 ha.2.2.1 ha.2.2.2.1 ha.2.2.2.2 e
 self:=fun _ _ _ _ _ st h=>wpAny_pyIter_zip st.1 h
theorem qD:∀ {xs:List PyData} {k i:Nat} {z:PyData},(jC k xs)[i]?=some z->∃ x,xs[i]?=some x/\z=.tuple [.int (k+i:Nat),x]
 | [],_,_,_,e=>by simp [jC] at e
 | x::xs,k,0,z,e=>by simp [jC] at e;exact ⟨x,rfl,by rw [<- e];simp⟩
 | x::xs,k,i+1,z,e=>by
  obtain ⟨y,h1,h2⟩:=qD (xs:=xs) (k:=k+1) (i:=i) (by simpa [jC] using e);exact ⟨y,by simpa using h1,by rw [h2,show k+1+i=k+(i+1) by omega]⟩
theorem iI:∀ (xs:List PyData) (k:Nat),(jC k xs).length=xs.length
 | [],_=>rfl
 | _::xs,k=>by rw [jC,List.length_cons,List.length_cons,iI]
def ESt (b:Bool) (e it l:Addr) (i:Nat) (h:Heap):Prop:=(∃ old,IsEnum h e it i old)/\ItAt b h it l i
def aB6 {b:Bool} {e it l:Addr} {all:List PyData} {c:Cw} (hne:e≠it) (hq:∀ {κ:Kp} {M:Mp} {h:aA} {s:Shared},Mem S κ M h s->Le M0 M->condB c all h=true->∃ xs us,all=bX xs/\SqAt b s.heap l us.toArray/\Reps' S M xs us):Turn S (.Tuple elts n pos) all c M0 [e,it] e (ESt b e it l) where
 obj:=fun i h st a ha=>by
  obtain ⟨⟨old,s1⟩,s2⟩:=st;simp only [List.mem_cons,List.not_mem_nil,or_false] at ha;rcases ha with rfl | rfl
  ·exact ⟨_,s1⟩
  ·exact s2.ob
 keep:=fun i h h' st k=>by
  obtain ⟨⟨old,s1⟩,s2⟩:=st;exact ⟨⟨old,k e (by simp) _ s1⟩,s2.keep fun o q=>k it (by simp) o q⟩
 item:=by
  intro A κ M h s E i x hd hk R l' hf st hx co;obtain ⟨xs,us,rfl,q1,r1⟩:=hq R l' co;obtain ⟨y,h1,rfl⟩:=qD hx;rw [Nat.zero_add];obtain ⟨u,hu,ru⟩:=mM r1 h1;obtain ⟨⟨old,s1⟩,s2⟩:=st;refine aU1 s1 s2 q1 (x:=u) (by simpa using hu) hne fun h' a1 a2 a3 a4 a5=>⟨_,rfl,wpAny_letOwnedTupleGo_enum (s:={ s with heap:=h',toks:=s.toks+1 }) a1 fun h'' b1 b2=>?_⟩;have zs:s.heap.objs.size≠e:=Nat.ne_of_gt (Heap.lt_size s1);obtain ⟨M',l2,R',r',f'⟩:=R.pair (h2:=h'') (t:=s.toks+1) (x:=.int i) hf (fun a ha=>by
   simp only [List.mem_cons,List.not_mem_nil,or_false] at ha;rcases ha with rfl | rfl
   ·exact ⟨_,s1⟩
   ·exact s2.ob) (fun a o ha q=>by
   simp only [List.mem_cons,List.not_mem_nil,or_false,not_or] at ha;exact (b2.2 a ha.1).trans (a5 a o ha.1 ha.2 q)) ((b2.2 _ zs).trans a3) (rep_i.mpr ⟨_,rfl⟩) ru
  refine ⟨M',l2,R',r',⟨⟨u,?_⟩,a2.keep fun o q=>(b2.2 _ hne.symm).trans q⟩,f'⟩;have:((i+1:Nat):Int)=(i:Int)+1:=by omega
  unfold IsEnum;rw [this];exact b1
 done:=by
  intro A κ M h s E i hd hk R l' hf st hl co;obtain ⟨xs,us,rfl,q1,r1⟩:=hq R l' co;obtain ⟨⟨old,s1⟩,s2⟩:=st;have k1:=r1.length;unfold bX at hl;rw [iI] at hl;refine bH9 (hk.at R) s1 s2 q1 (by simp;omega) fun h' kk=>⟨rfl,?_⟩;exact R.turn (t:=s.toks) hf fun a o ha q=>by
   simp only [List.mem_cons,List.not_mem_nil,or_false,not_or] at ha;exact kk a o ha.2 q
 self:=fun _ _ s _ _ st h=>by
  obtain ⟨⟨old,s1⟩,s2⟩:=st;have hT:s.TypeIs (.ref e) "enumerate":=⟨_,s1,rfl⟩;refine wpAny_pyIter_slot hT PySem.F.slot_enumerate_iter (wpAny_call_entry PySem.F.slot_enumerate_iter hT PySem.F.entry_enumerate_iter ?_ (PySem.F.args_enumerate_iter_1 _));show wpAny _ _ (ret (.ref e)) _ _ s;exact wpAny_pure ⟨_,rfl,"enumerate",_,hT,PySem.F.slot_enumerate_next.lookup,h⟩
end
section
variable {X:Cx} {st:Sta} {d:Nat} {v:Evs} {a b:Expr} {κ:Kp} {M:Mp} {δ:DSt} {h h':aA} {s:Shared} {pos p tp:Pos} {elts:List Expr} {n:Nat}
theorem bX5 (S:Snd v) (G:Good X st d) (hx:(cV st "zip"&&(slot st "zip").isNone&&st.bl.contains "zip")=true) (hs:aI a=true) (hs2:aI b=true):SI X (.Tuple elts n tp) (.Call (.Name "zip" p) [a,b] [] pos) (xb (v.E st a) fun u=>xb (v.E st b) fun w=>fun _ h=>(match nK u,nK w with
   | some xs,some ys=>some ((kU xs ys,none),h)
   | _,_=>none)):=by
 intro κ M δ h s q h' R F e;obtain ⟨h1,h2,h3⟩:=gQ G hx;obtain ⟨x,hh,e1,e⟩:=aF e;obtain ⟨y,hh2,e2,e⟩:=aF e;have ea:aX v st [a,b] δ h=some ([x,y],hh2):=by unfold aX;rw [if_pos hs];unfold xb;rw [e1];unfold aX;dsimp only [Option.bind];rw [if_pos hs2];unfold aX xb aD;dsimp only;rw [e2];rfl
 refine Call_ (gO (u:=.type "zip") F R h2 h3 (by decide +kernel) h1 (PyProof.Rows.callWith_type1 (thn (bU S G [a,b] pos R F ea) fun us s1 ⟨M1,l1,R1,r0⟩=>?_) (bS a hs) (by rw [bS b hs2];rfl)));obtain ⟨u,v,rfl,r1,r2⟩:=w2 r0;split at e
 ·rename_i xs ys ex ey;cases e;obtain ⟨b1,l1',us,rfl,q1,z1,rr1⟩:=aJ4 ex r1;obtain ⟨b2,l2',vs,rfl,q2,z2,rr2⟩:=aJ4 ey r2;refine aG1 (q1.at .refl R1) (q2.at .refl R1) fun h' a1 a2 a3 a4 a5 a6 a7=>?_;have D:ZApart (s1.heap.objs.size+4) (s1.heap.objs.size+2) (s1.heap.objs.size+3) s1.heap.objs.size (s1.heap.objs.size+1):=by
   constructor<;>(intro e;exact absurd e (by simp [Addr]<;>omega))
  refine wpAny_pyIter_zip a1 (Pi.go l1 ⟨M1,_,_,_,.refl,R1.kept (t:=s1.toks) a7,rfl,aJ5 D q1 q2 rr1 rr2,⟨a1,a2,⟨_,_,a3⟩,a4,a5⟩,fun x hx=>R1.new (Heap.get?_none_of_le ?_),?_⟩)
  ·simp only [List.mem_cons,List.not_mem_nil,or_false] at hx;rcases hx with rfl | rfl | rfl | rfl | rfl<;>simp
  ·show (kU xs ys).length<=sizeLine;unfold kU;rw [List.length_zipWith,rr1.length];omega
 ·cases e
def bK9 (S:Snd v) (G:Good X st d) (hx:(cV st "enumerate"&&(slot st "enumerate").isNone&&st.bl.contains "enumerate")=true) (hs:aI a=true):SI X (.Tuple elts n tp) (.Call (.Name "enumerate" p) [a] [] pos) (xb (v.E st a) fun u=>fun _ h=>iX u h):=by
 intro κ M δ h s q h' R F e;obtain ⟨h1,h2,h3⟩:=gQ G hx;obtain ⟨x,hh,e1,e⟩:=aF e;have ea:aX v st [a] δ h=some ([x],hh):=by unfold aX;rw [if_pos hs];unfold aX xb aD;rw [e1];rfl
 refine Call_ (gO (u:=.type "enumerate") F R h2 h3 (by decide +kernel) h1 (PyProof.Rows.callWith_type1 (thn (bU S G [a] pos R F ea) fun us s1 ⟨M1,l1,R1,r0⟩=>?_) (bS a hs) rfl));obtain ⟨u,rfl,r1⟩:=w1 r0;have ex:∃ b l us,u=.ref l/\SqAt b s1.heap l us/\h'=hh/\q.1.length<=sizeLine/\∀ {κ:Kp} {M:Mp} {h:aA} {s:Shared},Mem X.S κ M h s->Le M1 M->condB q.2 q.1 h=true->∃ xs us,q.1=bX xs/\SqAt b s.heap l (List.toArray us)/\Reps' X.S M xs us:=by
  unfold iX at e;split at e
  ·rename_i xs ex;cases e;obtain ⟨b,l,us,rfl,q1,z1,rr1⟩:=aJ4 ex r1;refine ⟨b,l,us.toArray,rfl,q1.at .refl R1,rfl,?_,fun R l' _=>⟨xs,us,rfl,q1.at l' R,rr1.go l'⟩⟩;show (bX xs).length<=sizeLine;unfold bX;rw [iI,rr1.length];exact z1
  ·cases x with
   | d y=>cases e
   | c i =>
    dsimp only at e;split at e
    ·rename_i xs ey;cases e;obtain ⟨pp,ep,rfl⟩:=r1;obtain ⟨us,k,g1,g2,g3⟩:=R1.cel i pp _ ep ey;refine ⟨false,pp.1,us.toArray,rfl,(cD g1).isList,rfl,?_,fun {κ M h s} R l' co=>?_⟩
     ·show (bX xs).length<=sizeLine;unfold bX;rw [iI,g3.length];exact g2
     ·have co:(match h[i]? with
       | some (.l ys)=>peqs (bX ys) (bX xs)
       | _=>false)=true:=co
      split at co
      ·rename_i ys ey';obtain ⟨vs,k',f1,f2,f3⟩:=R.cel i pp _ (l'.at ep) ey';exact ⟨ys,vs,(peqs_eq co).symm,(cD f1).isList,f3⟩
      ·cases co
    ·cases e
 obtain ⟨b,l,us,rfl,q1,rfl,hz,hq⟩:=ex;refine callType_new PySem.F.called_enumerate (by decide) (PySem.F.typeCall_enumerate_1 _) (PySem.F.newCall_enumerate_1 _) (fun obj=>PySem.F.args_object_init_2 obj _) PySem.F.entry_enumerate_new (aG4 b l us) ⟨q1,⟨_,Heap.get?_push_size _ rfl,rfl⟩,?_⟩;have z1':(s1.heap.push (jR b l)).objs.size=s1.heap.objs.size+1:=by rw [Heap.size_push]
 have ge:((s1.heap.push (jR b l)).push { cls:=.type "enumerate",data:=.fields #[.none,.bool false,.ref s1.heap.objs.size,rawInt 0,.none,.none] }).get? (s1.heap.push (jR b l)).objs.size=some { cls:=.type "enumerate",data:=.fields #[.none,.bool false,.ref s1.heap.objs.size,rawInt 0,.none,.none] }:=Heap.get?_push_size _ rfl;have gi:((s1.heap.push (jR b l)).push { cls:=.type "enumerate",data:=.fields #[.none,.bool false,.ref s1.heap.objs.size,rawInt 0,.none,.none] }).get? s1.heap.objs.size=some (jR b l):=Heap.get?_push_of_some _ (Heap.get?_push_size _ rfl);have hne:(s1.heap.push (jR b l)).objs.size≠s1.heap.objs.size:=by rw [z1'];exact Nat.succ_ne_self _
 refine wpAny_pyIter_enum (s:={ s1 with heap:=_ }) ge (Pi.go l1 ⟨M1,_,_,_,.refl,R1.kept (t:=s1.toks) fun c o e=>Heap.get?_push_of_some _ (Heap.get?_push_of_some _ e),rfl,aB6 hne hq,⟨⟨.none,ge⟩,ItAt.new gi⟩,fun x hx=>R1.new (Heap.get?_none_of_le ?_),hz⟩);simp only [List.mem_cons,List.not_mem_nil,or_false] at hx;rcases hx with rfl | rfl
 ·rw [z1'];exact Nat.le_succ _
 ·exact Nat.le_refl _
end
end DL

namespace DL
open PySem PySem.Spec PyProof.Rows L2 CI
section
variable {X:Cx} {st:Sta} {d:Nat} {v:Evs} {κ:Kp} {M:Mp} {δ:DSt} {h h':aA} {s:Shared} {a b c e o tg iter:Expr} {es:List Expr} {pos p p2 apos:Pos} {x m:Str} {w:W}
def bL0 (S:Snd v) (G:Good X st d) {op op' op'':CmpOp} {p:Bool×aA} (hm:lastMarks [op,op',op''] [b,c,e]=false) (R:Mem X.S κ M h s) (F:Fra X κ M δ) (eq:xC3 op op' op'' (v.E st a) (v.E st b) (v.E st c) (v.E st e) δ h=some p):Wp X.S X.A (eval (.Compare a [op,op',op''] [b,c,e] pos) X.env) (Pw X.S κ M p.2 (.d (.bool p.1))) NE s:=by
 obtain ⟨x,h1,e1,eq⟩:=aF eq;obtain ⟨y,h2,e2,eq⟩:=aF eq;obtain ⟨p1,e3,eq⟩:=bind_some eq;refine Compare_chain (thn (S.E G a R F e1) fun u s1 ⟨M1,l1,R1,r1⟩=>chain_link (thn (S.E G b R1 (F.go l1) e2) fun v s2 ⟨M2,l2,R2,r2⟩=>?_)) hm;obtain ⟨q1,q2⟩:=gN (A:=X.A) (E:=NE) G.rm R2 (r1.go l2) r2 e3;obtain ⟨k,h3⟩:=p1;cases q1;refine thn q2 fun k' s3 ⟨M3,l3,R3,r3⟩=>?_;cases wb.mp r3;refine wpAny_truthy_bool ?_;dsimp only at eq;cases k with
 | false=>cases eq;exact ite_ff (R3.pb.go (l1.trans (l2.trans l3)))
 | true =>
  obtain ⟨⟨z,h4⟩,e4,eq⟩:=bind_some eq;obtain ⟨p2,e5,eq⟩:=bind_some eq;refine ite_tt (chain_link (thn (S.E G c R3 ((F.go l1).go (l2.trans l3)) e4) fun t s4 ⟨M4,l4,R4,r4⟩=>?_));obtain ⟨q5,q6⟩:=gN (A:=X.A) (E:=NE) G.rm R4 (r2.go (l3.trans l4)) r4 e5;obtain ⟨k2,h5⟩:=p2;cases q5;refine thn q6 fun k' s5 ⟨M5,l5,R5,r5⟩=>?_;cases wb.mp r5;refine wpAny_truthy_bool ?_;dsimp only at eq;cases k2 with
  | false=>cases eq;exact ite_ff (R5.pb.go (l1.trans (l2.trans (l3.trans (l4.trans l5)))))
  | true =>
   obtain ⟨⟨z',h6⟩,e6,eq⟩:=bind_some eq;refine ite_tt (chain_last (thn (S.E G e R5 ((F.go l1).go (l2.trans (l3.trans (l4.trans l5)))) e6) fun t' s6 ⟨M6,l6,R6,r6⟩=>?_));obtain ⟨q7,q8⟩:=gN (A:=X.A) (E:=NE) G.rm R6 (r4.go (l5.trans l6)) r6 eq;rw [q7];exact thn q8 fun _ _ q=>q.go (l1.trans (l2.trans (l3.trans (l4.trans (l5.trans l6)))))
def bL1 (S:Snd v) (G:Good X st d) {ops:List CmpOp} {cs:List Expr}:SE X (.Compare a ops cs pos) (bH (kW v st a ops cs)):=by
 unfold kW;rcases ops with _ | ⟨op,_ | ⟨op',_ | ⟨op'',_ | ⟨_,_⟩⟩⟩⟩
 ·exact mE S G
 ·exact mE S G
 ·exact mE S G
 ·rcases cs with _ | ⟨b,_ | ⟨c,_ | ⟨e',_ | ⟨_,_⟩⟩⟩⟩
  ·exact mE S G
  ·exact mE S G
  ·exact mE S G
  ·intro κ M δ h s w h' R F eq;obtain ⟨p,e2,ew⟩:=map_some (show ((if lastMarks [op,op',op''] [b,c,e']=true then xno else xC3 op op' op'' (v.E st a) (v.E st b) (v.E st c) (v.E st e')) δ h).map asW=_ from eq);cases ew
   by_cases hm:lastMarks [op,op',op''] [b,c,e']=true
   ·rw [if_pos hm] at e2;cases e2
   ·rw [if_neg hm] at e2;exact bL0 S G (by simpa using hm) R F e2
  ·exact mE S G
 ·exact mE S G
def yL {P:List Value->Shared->Prop} {E:Value->Shared->Prop} (hs:aI e=true) (h:Wp X.S X.A (eval e X.env) (fun v s1=>P [v] s1) E s):Wp X.S X.A (spliced (backTo pos (starEach [e] X.env))) P E s:=by
 rw [bS (es:=[]) e hs];show Wp _ _ (spliced ((false,eval e X.env)::backTo pos [])) _ _ s;exact Calls.spliced_cons (thn h fun u s1 q=>wpAny_pure q)
end
end DL

namespace DL
open PySem PySem.Spec PyProof.Rows L2 CI
section
variable {X:Cx} {st:Sta} {d:Nat} {v:Evs} {κ:Kp} {M:Mp} {δ:DSt} {h h':aA} {s:Shared} {a b c e o tg iter:Expr} {es:List Expr} {pos p p2 apos:Pos} {x m:Str} {w:W}
theorem aJ6 {h1:aA} {j:Nat} (hp:(match W.c j with
  | .c j=>(match h1[j]? with
   | some (.l _)=>true
   | some (.r _)=>true
   | _=>false)
  | _=>false)=true):(∃ xs,DL.ref h1 (.c j)=some (.list xs))\/∃ i xs,W.c j=.c i/\h1[i]?=some (.r xs):=by
 dsimp only at hp;split at hp
 ·rename_i xs e;exact .inl ⟨xs,by unfold DL.ref;dsimp only;rw [e]⟩
 ·rename_i xs e;exact .inr ⟨j,xs,rfl,e⟩
 ·cases hp
def aV6 {S:Sx} {A:Around} {E:Value->Shared->Prop} {i k:Nat} {p:Addr×Addr} {is:List W} {u:Value} (R:Mem S κ M h s) (ep:M.m[i]?=some p) (ei:h[i]?=some (.r is)) (hz:is.length < sizeLine) (rx:RepW S M (.c k) u):Wp S A (call (.builtin "list.append") [.ref p.1,u]) (Pw S κ M (h.set i (.r (is++[.c k]))) (.d .none)) E s:=by
 obtain ⟨us,n,e,hl,r⟩:=R.cel i p _ ep ei;have hlen:=r.length;refine call_meets F.slot_list_append ⟨_,e,rfl⟩ F.entry_list_append (F.args_list_append_2 _ _) (PySem.list_append p.1 us.toArray n u (by rw [List.size_toArray];omega)) ⟨e,?_⟩;exact (R.lset (t:=s.toks) (us':=us++[u]) (c:=.r (is++[.c k])) (f:=fun a=>a.push u) ep e (by simp) fun h2 n' e'=>⟨_,n',e',by rw [List.length_append,List.length_singleton];omega,Paired.snoc r rx⟩).pn
def aV7 {S:Sx} {A:Around} {E:Value->Shared->Prop} {x w:W} {h':aA} {u:Value} (R:Mem S κ M h s) (r:RepW S M x u) (e:aH2 x h=some (w,h')):(∃ b us n,u=.ref b/\s.heap.get? b=some (bC us n))/\Wp S A (call (.builtin "list.clear") [u]) (Pw S κ M h' w) E s:=by
 unfold aH2 at e;split at e
 ·rename_i j;obtain ⟨p,ep,rfl⟩:=r;split at e
  ·rename_i xs ej;cases e;obtain ⟨us,n,ho,hz,rr⟩:=R.cel j p _ ep ej;refine ⟨⟨_,us,n,rfl,ho⟩,call_meets F.slot_list_clear ⟨_,ho,rfl⟩ F.entry_list_clear (F.args_list_clear_1 _) (AutoSeq1.list_clear_list_0 p.1 us.toArray n (by rw [List.size_toArray];exact hz)) ⟨ho,?_⟩⟩;exact (R.lset (t:=s.toks) (us':=[]) (c:=.l []) (f:=fun _=>#[]) ep ho rfl fun h2 n' e'=>⟨_,n',e',Nat.zero_le _,.nil⟩).pn
  ·cases e
 ·cases e
def bL2 (S:Snd v) (G:Good X st d) (ho:nP o=true) (hl:(apos.endLine==pos.line)=true):SE X (.Call (.Attribute o "clear" apos) [] [] pos) (bU2 v st o):=by
 intro κ M δ h s w h' R F e;obtain ⟨x,h1,e1,e⟩:=aF e;refine wpAny_Call_method_late (mZ ho _ _) (by rfl) hl rfl (thn (S.E G o R F e1) fun u s1 ⟨M1,l1,R1,r1⟩=>?_);obtain ⟨⟨b,us,n,rfl,hob⟩,hw⟩:=aV7 (A:=X.A) (E:=NE) R1 r1 e;refine ⟨"list",_,PySem.F.plainAttrs_list,PySem.F.slot_list_clear,PySem.F.type_list_clear,(cD hob).isList.typeIs,fun c ec=>by cases ec;exact ⟨_,hob,rfl⟩,?_⟩;exact Calls.callWith_builtin rfl (evalArgs_nil3 (thn hw fun _ _ q=>q.go l1))
def bL3 (S:Snd v) (G:Good X st d) {g:W->List W->aA->Option (W×aA)} (hg:bI7 m=some g) (ho:nP o=true) (hl:(apos.endLine==pos.line)=true) (hn:(a::es).length < 29):SE X (.Call (.Attribute o m apos) (a::es) [] pos) (bD7 v st o m g (a::es)):=by
 intro κ M δ h s w h' R F q0;obtain ⟨x,h1,e1,q1⟩:=aF q0;obtain ⟨hp,q2⟩:=aG q1;obtain ⟨⟨ws,h2⟩,e2,e⟩:=bind_some q2;clear q0 q1 q2;unfold bI7 at hg;split at hg
 ·rename_i hm;subst hm;cases hg;unfold jT at hp;rw [if_pos rfl] at hp;unfold tT at e;dsimp only at e;split at e
  ·rename_i j z;refine aJ3 S G PySem.F.slot_list_append PySem.F.type_list_append ho hl hn R F e1 (aJ6 hp) e2 fun {M2 u us s2} l2 R2 r2 rs=>?_;split at e
   ·rename_i xs ej;obtain ⟨hz,e⟩:=aG e;cases e;obtain ⟨u1,rfl,ru⟩:=w1 rs;obtain ⟨p,ep,rfl⟩:=r2;exact thn (aJ0 R2 ep ej hz ru) fun _ _ q=>q.go l2
   ·cases e
  ·rename_i j k;refine aJ3 S G PySem.F.slot_list_append PySem.F.type_list_append ho hl hn R F e1 (aJ6 hp) e2 fun {M2 u us s2} l2 R2 r2 rs=>?_;split at e
   ·rename_i is ej;obtain ⟨hz,e⟩:=aG e;cases e;obtain ⟨u1,rfl,ru⟩:=w1 rs;obtain ⟨p,ep,rfl⟩:=r2;exact thn (aV6 R2 ep ej hz ru) fun _ _ q=>q.go l2
   ·cases e
  ·cases e
 ·cases hg
def aJ7:SI X tg iter xno:=fun _ _ _ _ _ _ _ _ _ e=>by cases e
def aJ8 (h:yA tg=true):∃ es k p,tg=.Tuple es k p:=by
 cases tg<;>first | exact ⟨_,_,_,rfl⟩ | cases h
def lA (S:Snd v):ItS v:=by
 intro X st d G tg iter;unfold gG;cases hq:itS iter with
 | some y =>
  obtain ⟨⟨x,a,ob⟩,p,pos,he⟩:=y;clear hq;subst he;cases ob with
  | none =>
  dsimp only;split
  ·rename_i hx;subst hx;split
   ·rename_i hc;rw [Bool.and_eq_true,Bool.and_eq_true] at hc;exact bJ8 S G hc.2 hc.1.1 hc.1.2
   ·exact aJ7
  ·split
   ·rename_i hx;subst hx;split
    ·rename_i hc;rw [Bool.and_eq_true,Bool.and_eq_true] at hc;obtain ⟨es,k,p,rfl⟩:=aJ8 hc.2;exact bK9 S G hc.1.1 hc.1.2
    ·exact aJ7
   ·exact wL S G
  | some b =>
  dsimp only;split
  ·rename_i hx;subst hx;split
   ·rename_i hc;rw [Bool.and_eq_true,Bool.and_eq_true,Bool.and_eq_true] at hc;exact bJ9 S G hc.2 hc.1.1.1 hc.1.1.2 hc.1.2
   ·exact aJ7
  ·split
   ·rename_i hx;subst hx;split
    ·rename_i hc;rw [Bool.and_eq_true,Bool.and_eq_true,Bool.and_eq_true] at hc;obtain ⟨es,k,p,rfl⟩:=aJ8 hc.2;exact bX5 S G hc.1.1.1 hc.1.1.2 hc.1.2
    ·exact aJ7
   ·exact wL S G
 | none =>
  dsimp only;split
  ·exact aJ7
  ·exact wL S G
end
end DL

namespace ST
open PySem PySem.Spec PyProof.Rows PySem.W
noncomputable def rS {α:Type} (lt:Nat->Nat->Bool):KasT α->α
 | .ret a=>a
 | .ask i j k=>rS lt (k (lt i j))
noncomputable def oB {α:Type} (n:Nat) (lt:Nat->Nat->Bool):KasT α->Bool
 | .ret _=>true
 | .ask i j k=>Nat.blt i n&&(Nat.blt j n&&(!(Nat.beq i j)&&oB n lt (k (lt i j))))
section
variable {n:Nat} {lt:Nat->Nat->Bool} {K:Nat->Int}
def Tr {α:Type} (n:Nat) (lt:Nat->Nat->Bool) (T:KasT α) (G:α->Prop):Prop:=oB n lt T=true/\G (rS lt T)
def Tr.ret {α:Type} {a:α} {G:α->Prop} (h:G a):Tr n lt (.ret a) G:=⟨rfl,h⟩
def Tr.ask {α:Type} {i j:Nat} {k:Bool->KasT α} {G:α->Prop} (hi:i < n) (hj:j < n) (hij:i≠j) (h:Tr n lt (k (lt i j)) G):Tr n lt (.ask i j k) G:=by
 refine ⟨?_,h.2⟩;have e:Nat.beq i j=false:=by rw [<- Bool.not_eq_true,Nat.beq_eq];exact hij
 simp only [oB,Bool.and_eq_true,Nat.blt_eq,e,Bool.not_false,true_and];exact ⟨hi,hj,h.1⟩
theorem Tr.bind {α β:Type} {f:α->KasT β} {G:β->Prop}:∀ {T:KasT α},Tr n lt T (fun a=>Tr n lt (f a) G)->Tr n lt (T.bind f) G
 | .ret a,h=>h.2
 | .ask i j k,h=>by
  obtain ⟨h1,h2⟩:=h;simp only [oB,Bool.and_eq_true,Nat.blt_eq,Bool.not_eq_true'] at h1;obtain ⟨a,b,c,e⟩:=h1;have ij:i≠j:=fun z=>by subst z;rw [Nat.beq_refl] at c;cases c
  exact Tr.ask a b ij (Tr.bind (T:=k (lt i j)) ⟨e,h2⟩)
def Tr.mono {α:Type} {T:KasT α} {G G':α->Prop} (h:Tr n lt T G) (g:∀ a,G a->G' a):Tr n lt T G':=⟨h.1,g _ h.2⟩
structure Pm (n:Nat) (p:Array Nat):Prop where
 sz:p.size=n
 pm:p.toList.Perm (List.range n)
def Pm.les {p:Array Nat} (h:Pm n p) {i:Nat} (hi:i < n):p.getD i 0 < n:=by
 have hi':i < p.size:=by rw [h.sz];exact hi
 have e:p.getD i 0=p[i]:=by simp [Array.getD,hi']
 rw [e];exact List.mem_range.mp (h.pm.mem_iff.mp (Array.getElem_mem_toList hi'))
def Pm.inj {p:Array Nat} (h:Pm n p) {i j:Nat} (hi:i < n) (hj:j < n) (e:p.getD i 0=p.getD j 0):i=j:=by
 have hi':i < p.size:=by rw [h.sz];exact hi
 have hj':j < p.size:=by rw [h.sz];exact hj
 have e1:p.getD i 0=p.toList[i]'(by simpa using hi'):=by simp [Array.getD,hi']
 have e2:p.getD j 0=p.toList[j]'(by simpa using hj'):=by simp [Array.getD,hj']
 have nd:p.toList.Nodup:=h.pm.nodup_iff.mpr List.nodup_range;rw [e1,e2] at e;exact (List.getElem_inj nd).mp e
def Up (K:Nat->Int) (p:Array Nat) (m:Nat):Prop:=∀ i j,i < j->j < m->K (p.getD i 0) < K (p.getD j 0)
def Dn (K:Nat->Int) (p:Array Nat) (m:Nat):Prop:=∀ i j,i < j->j < m->K (p.getD j 0) < K (p.getD i 0)
variable (hK:∀ i j,i < n->j < n->lt i j=decide (K i < K j)) (hI:∀ i j,i < n->j < n->K i=K j->i=j)
include hK hI
def oE {α:Type} {p:Array Nat} (P:Pm n p) {i j:Nat} (hi:i < n) (hj:j < n) (hij:i≠j) {k:Bool->KasT α} {G:α->Prop}
  (h1:K (p.getD i 0) < K (p.getD j 0)->Tr n lt (k true) G) (h2:K (p.getD j 0) < K (p.getD i 0)->Tr n lt (k false) G):Tr n lt (.ask (p.getD i 0) (p.getD j 0) k) G:=by
 refine Tr.ask (P.les hi) (P.les hj) (fun z=>hij (P.inj hi hj z)) ?_;rw [hK _ _ (P.les hi) (P.les hj)]
 by_cases c:K (p.getD i 0) < K (p.getD j 0)
 ·rw [decide_eq_true c];exact h1 c
 ·rw [decide_eq_false c];refine h2 ?_;have:K (p.getD i 0)≠K (p.getD j 0):=fun z=>hij (P.inj hi hj (hI _ _ (P.les hi) (P.les hj) z));omega
omit hK hI in
def aV8 {p:Array Nat} {m:Nat} (h1:1<=m) (u:Up K p m) (h:K (p.getD (m - 1) 0) < K (p.getD m 0)):Up K p (m+1):=fun i j hij hj=>by
 by_cases e:j=m
 ·subst e
  by_cases e2:i=j - 1
  ·rw [e2];exact h
  ·have:=u i (j - 1) (by omega) (by omega);omega
 ·exact u i j hij (by omega)
omit hK hI in
def aV9 {p:Array Nat} {m:Nat} (h1:1<=m) (u:Dn K p m) (h:K (p.getD m 0) < K (p.getD (m - 1) 0)):Dn K p (m+1):=fun i j hij hj=>by
 by_cases e:j=m
 ·subst e
  by_cases e2:i=j - 1
  ·rw [e2];exact h
  ·have:=u i (j - 1) (by omega) (by omega);omega
 ·exact u i j hij (by omega)
theorem wP {p:Array Nat} (P:Pm n p):∀ (f m:Nat),1<=m->m+f=n->Up K p m->Tr n lt (kas_asc p f m) (fun m'=>m<=m'/\m'<=n/\Up K p m'/\(m'=n\/(m' < n/\K (p.getD m' 0) < K (p.getD (m' - 1) 0))))
 | 0,m,h1,hm,u=>Tr.ret ⟨Nat.le_refl m,by omega,u,.inl (by omega)⟩
 | f+1,m,h1,hm,u=>by
  unfold kas_asc;refine oE hK hI P (by omega) (by omega) (by omega) (fun c=>?_) fun c=>?_
  ·exact Tr.ret ⟨Nat.le_refl m,by omega,u,.inr ⟨by omega,c⟩⟩
  ·exact (wP P f (m+1) (by omega) (by omega) (aV8 h1 u c)).mono fun a ⟨a1,a2⟩=>⟨by omega,a2⟩
theorem yM {p:Array Nat} (P:Pm n p):∀ (f m:Nat),1<=m->m+f=n->Dn K p m->Tr n lt (kas_desc f p m 0) (fun r=>r.1=p/\m<=r.2.1/\r.2.1<=n/\r.2.2=0/\Dn K p r.2.1)
 | 0,m,h1,hm,u=>Tr.ret ⟨rfl,Nat.le_refl m,by show m<=n;omega,rfl,u⟩
 | f+1,m,h1,hm,u=>by
  unfold kas_desc;refine oE hK hI P (by omega) (by omega) (by omega) (fun c=>?_) fun c=>?_
  ·exact (yM P f (m+1) (by omega) (by omega) (aV9 h1 u c)).mono fun a ⟨a0,a1,a2⟩=>⟨a0,by omega,a2⟩
  ·refine oE hK hI P (by omega) (by omega) (by omega) (fun c'=>?_) fun c'=>by omega
   exact Tr.ret ⟨rfl,Nat.le_refl m,by show m<=n;omega,rfl,u⟩
omit hK hI in
def aJ9 {p:Array Nat} {m:Nat} (hm:m<=p.size) (k:Nat):(kas_rev p 0 m).getD k 0=if k < m then p.getD (m - 1 - k) 0 else p.getD k 0:=by
 have e:=getElem?_mirror_all (xs:=p) (i:=0) (j:=m) hm k;unfold kas_rev;rw [Array.getD_eq_getD_getElem?,e]
 by_cases h:k < m
 ·rw [if_pos ⟨Nat.zero_le _,h⟩,if_pos h,Array.getD_eq_getD_getElem?,Nat.zero_add]
 ·rw [if_neg (fun z=>h z.2),if_neg h,Array.getD_eq_getD_getElem?]
omit hK hI in
def bL4 {p:Array Nat} (P:Pm n p) (m:Nat):Pm n (kas_rev p 0 m):=⟨by unfold kas_rev;rw [mirror_size,P.sz],(mirror_perm p 0 m _).toList.trans P.pm⟩
def aW0 {p:Array Nat} (P:Pm n p) {m:Nat} (h1:1<=m) (hm:m<=n) (u:Dn K p m):Tr n lt (kas_tail3 m n p) (fun r=>Pm n r.2/\1<=r.1/\r.1<=n/\Up K r.2 r.1):=by
 unfold kas_tail3;have P':=bL4 P m;refine Tr.bind ((wP hK hI P' (n - m) m h1 (by omega) fun i j hij hj=>?_).mono fun a ⟨a1,a2,a3,_⟩=>Tr.ret ⟨P',by show 1<=a;omega,a2,a3⟩);rw [aJ9 (by rw [P.sz];exact hm),aJ9 (by rw [P.sz];exact hm),if_pos (by omega),if_pos hj];exact u _ _ (by omega) (by omega)
def aK0 {p:Array Nat} (P:Pm n p) (h2:2<=n):Tr n lt (kas_count n p) (fun r=>Pm n r.2/\1<=r.1/\r.1<=n/\Up K r.2 r.1):=by
 unfold kas_count;refine Tr.bind ((wP hK hI P (n - 1) 1 (Nat.le_refl 1) (by omega) fun i j hij hj=>by omega).mono fun m ⟨a1,a2,a3,a4⟩=>?_)
 by_cases e:m=n
 ·rw [if_pos (by rw [e];exact beq_self_eq_true n)];exact Tr.ret ⟨P,a1,a2,a3⟩
 ·rw [if_neg (by simpa using e)]
  by_cases e1:m > 1
  ·rw [if_pos e1];have c:=a3 0 (m - 1) (by omega) (by omega);refine oE hK hI P (by omega) (by omega) (by omega) (fun _=>?_) fun c'=>by omega
   exact Tr.ret ⟨P,a1,a2,a3⟩
  ·rw [if_neg e1];have em:m=1:=by omega
   subst em;unfold kas_descPart;have c:K (p.getD 1 0) < K (p.getD 0 0):=by
    rcases a4 with z | z
    ·omega
    ·exact z.2
   refine Tr.bind ((yM hK hI P (n - 2) 2 (by omega) (by omega) fun i j hij hj=>?_).mono fun r ⟨b0,b1,b2,b3,b4⟩=>?_)
   ·have e0:i=0:=by omega
    have e1:j=1:=by omega
    subst e0 e1;exact c
   ·rw [if_neg (by omega),b0];exact aW0 hK hI P (by omega) b2 b4
theorem oG {p:Array Nat} (P:Pm n p) {k:Nat} (hk:k < n) (u:Up K p k):∀ (f l r:Nat),l<=r->r<=k->r - l<=f->(∀ i,i < l->K (p.getD i 0) < K (p.getD k 0))->(∀ i,r<=i->i < k->K (p.getD k 0) < K (p.getD i 0)) ->
  Tr n lt (kas_place p k f l r) (fun a=>a<=k/\(∀ i,i < a->K (p.getD i 0) < K (p.getD k 0))/\∀ i,a<=i->i < k->K (p.getD k 0) < K (p.getD i 0))
 | 0,l,r,h1,h2,h3,hl,hr=>Tr.ret ⟨by omega,hl,fun i hi hik=>hr i (by omega) hik⟩
 | f+1,l,r,h1,h2,h3,hl,hr=>by
  unfold kas_place
  by_cases e:l ≥ r
  ·rw [if_pos e];exact Tr.ret ⟨by omega,hl,fun i hi hik=>hr i (by omega) hik⟩
  ·rw [if_neg e];refine oE hK hI P (by omega) (by omega) (by omega) (fun c=>?_) fun c=>?_
   ·refine oG P hk u f l ((l+r) / 2) (by omega) (by omega) (by omega) hl fun i hi hik=>?_
    by_cases z:i=(l+r) / 2
    ·rw [z];exact c
    ·have:=u ((l+r) / 2) i (by omega) hik;omega
   ·refine oG P hk u f ((l+r) / 2+1) r (by omega) (by omega) (by omega) (fun i hi=>?_) hr
    by_cases z:i=(l+r) / 2
    ·rw [z];exact c
    ·have:=u i ((l+r) / 2) (by omega) (by omega);omega
omit hK hI in
def aK1 {p:Array Nat} {k l:Nat} (hk:k < p.size) (hl:l<=k) (j:Nat):(bubble p k (k - l)).getD j 0=if j=l then p.getD k 0 else if l < j/\j<=k then p.getD (j - 1) 0 else p.getD j 0:=by
 have e:=getElem?_bubble (xs:=p) hk (k - l) (by omega) j;rw [show k - (k - l)=l by omega] at e;simp only [Array.getD_eq_getD_getElem?,e]
 repeat' split
 all_goals rfl
omit hK hI in
def bL5 {p:Array Nat} (P:Pm n p) (k d:Nat):Pm n (bubble p k d):=⟨by rw [bubble_size,P.sz],(bubble_perm p k d).toList.trans P.pm⟩
theorem bin_ok:∀ (f k:Nat) {p:Array Nat},Pm n p->k+f=n->Up K p k->Tr n lt (kas_bin f p k) (fun q=>Pm n q/\Up K q n)
 | 0,k,p,P,hk,u=>Tr.ret ⟨P,fun i j hij hj=>u i j hij (by omega)⟩
 | f+1,k,p,P,hk,u=>by
  unfold kas_bin;have kn:k < n:=by omega
  refine Tr.bind ((oG hK hI P kn u k 0 k (Nat.zero_le k) (Nat.le_refl k) (by omega) (fun i hi=>by omega) fun i hi hik=>by omega).mono fun l ⟨a1,a2,a3⟩=>?_);refine bin_ok f (k+1) (bL5 P k (k - l)) (by omega) fun i j hij hj=>?_;have ks:k < p.size:=by rw [P.sz];exact kn
  rw [aK1 ks a1,aK1 ks a1]
  by_cases i1:i=l
  ·rw [if_pos i1,if_neg (by omega),if_pos (by omega)];exact a3 _ (by omega) (by omega)
  ·rw [if_neg i1]
   by_cases j1:j=l
   ·rw [if_pos j1,if_neg (by omega)];exact a2 _ (by omega)
   ·rw [if_neg j1]
    by_cases i2:l < i/\i<=k
    ·rw [if_pos i2,if_pos (by omega)];exact u _ _ (by omega) (by omega)
    ·rw [if_neg i2]
     by_cases j2:l < j/\j<=k
     ·rw [if_pos j2]
      by_cases z:i=j - 1
      ·omega
      ·exact u _ _ (by omega) (by omega)
     ·rw [if_neg j2];exact u _ _ hij (by omega)
def aW1 (h2:2<=n):Tr n lt (kas_sort n) (fun q=>q.toList.Perm (List.range n)/\q.toList.Pairwise fun i j=>lt i j=true):=by
 have fin:∀ q,Pm n q/\Up K q n->q.toList.Perm (List.range n)/\q.toList.Pairwise fun i j=>lt i j=true:=fun q ⟨P,u⟩=>by
  refine ⟨P.pm,?_⟩;rw [List.pairwise_iff_getElem];intro i j hi hj hij;have sz:q.toList.length=n:=by rw [Array.length_toList];exact P.sz
  have hi':i < q.size:=by rw [P.sz];omega
  have hj':j < q.size:=by rw [P.sz];omega
  have h:=u i j hij (by omega);have e1:q.getD i 0=q.toList[i]:=by simp [Array.getD,hi']
  have e2:q.getD j 0=q.toList[j]:=by simp [Array.getD,hj']
  have l1:=P.les (i:=i) (by omega);have l2:=P.les (i:=j) (by omega);rw [e1] at h l1;rw [e2] at h l2;rw [hK _ _ l1 l2];exact decide_eq_true h
 unfold kas_sort;have P0:Pm n (List.toArray (List.range n)):=⟨by simp,by simp⟩;refine Tr.bind ((aK0 hK hI P0 h2).mono fun r ⟨a0,a1,a2,a3⟩=>?_)
 by_cases e:r.1 < n
 ·rw [if_pos e];exact (bin_ok hK hI _ _ a0 (by omega) (by rw [Nat.max_eq_left a1];exact a3)).mono fin
 ·rw [if_neg e];have:r.1=n:=by omega
  exact Tr.ret (fin _ ⟨a0,by rw [<- this];exact a3⟩)
end
end ST

namespace ST
open PySem PySem.Spec PyProof.Rows PySem.W
theorem wQ {α:Type} {cmp:Nat->Nat->(Bool->Shared->Prop)->Shared->Prop} {n:Nat} {lt lt':Nat->Nat->Bool} {s:Shared}
  (hc:∀ i j,i < n->j < n->i≠j->∀ C:Bool->Shared->Prop,C (lt i j) s->cmp i j C s) (he:∀ i j,i < n->j < n->lt i j=lt' i j):∀ (T:KasT α) (G:α->Shared->Prop),oB n lt' T=true->G (rS lt' T) s->KasT.kasWp cmp T G s
 | .ret a,G,_,h=>h
 | .ask i j k,G,ht,h=>by
  simp only [oB,Bool.and_eq_true,Nat.blt_eq,Bool.not_eq_true'] at ht;obtain ⟨h1,h2,h3,h4⟩:=ht;refine hc i j h1 h2 (fun z=>by subst z;rw [Nat.beq_refl] at h3;cases h3) _ ?_;rw [he i j h1 h2];exact wQ hc he (k (lt' i j)) G h4 h
noncomputable def ltK (ks:List Int) (i j:Nat):Bool:=decide (ks.getD i 0 < ks.getD j 0)
def yN {ks:List Int} (nd:ks.Nodup) (h2:2<=ks.length):oB ks.length (ltK ks) (kas_sort ks.length)=true /\
  ((rS (ltK ks) (kas_sort ks.length)).toList.Perm (List.range ks.length))/\(rS (ltK ks) (kas_sort ks.length)).toList.Pairwise (fun i j=>ltK ks i j=true) :=
 aW1 (n:=ks.length) (lt:=ltK ks) (K:=fun i=>ks.getD i 0) (fun i j _ _=>rfl) (fun i j hi hj e=>by
  simp only [List.getD_eq_getElem?_getD,hi,hj,List.getElem?_eq_getElem,Option.getD_some] at e;exact (List.getElem_inj nd).mp e) h2
end ST

namespace ST
open PySem PySem.Spec PyProof.Rows PySem.W
section
variable {prog:Program} {w:World} {A:Around} {E:Value->Shared->Prop} {s:Shared}
end
end ST

namespace ST
open PySem PySem.Spec PyProof.Rows PySem.W
def yO {α β:Type} {l:List α} {r:List β} {a:α} {b:β} (h:l.length=r.length):(List.range l.length).map (fun i=>(l.getD i a,r.getD i b))=l.zip r:=by
 apply List.ext_getElem
 ·simp [h]
 ·intro i h1 h2;simp at h1 h2;simp [List.getD_eq_getElem?_getD,h1,show i < r.length by omega]
section
variable {prog:Program} {w:World} {A:Around} {E:Value->Shared->Prop} {s:Shared}
theorem uC {α β:Type} {F:α->β->Prop}:∀ {l:List α} {r:List β} {i:Nat} {a:α},Paired F l r->l[i]?=some a->∃ b,r[i]?=some b/\F a b
 | _,_,_,_,.nil,e=>by simp at e
 | _,_,0,_,.cons h _,e=>by simp at e;subst e;exact ⟨_,rfl,h⟩
 | _,_,i+1,a,.cons _ t,e=>by
  obtain ⟨b,h1,h2⟩:=uC (i:=i) (a:=a) t (by simpa using e);exact ⟨b,by simpa using h1,h2⟩
def pw1 {α:Type} {R:α->α->Prop} {l:List α} (h:l.length < 2):l.Pairwise R:=by
 rcases l with _ | ⟨a,_ | ⟨b,r⟩⟩
 ·exact .nil
 ·exact List.pairwise_singleton _ _
 ·exact absurd h (Nat.not_lt.mpr (Nat.le_add_left 2 _))
end
end ST

namespace ST
open PySem PySem.Spec PyProof.Rows PySem.W
section
variable {prog:Program} {w:World} {A:Around} {E:Value->Shared->Prop} {s:Shared}
theorem qE:∀ {us:List Value} {ks:List Int},IntsAre us ks->Paired (fun k u=>∃ t,u=Value.int k t) ks us
 | _,_,.nil=>.nil
 | _,_,.cons n t h=>.cons ⟨t,rfl⟩ (qE h)
def aK2 {a kS:Addr} {us vs:List Value} {ks:List Int} {e e1:Nat} {P:PySem.Fin->Shared->Prop} (hk:s.heap.get? kS=some (seqObj "list" us.toArray e)) (ha:s.heap.get? a=some (seqObj "list" #[] e1)) (hka:kS≠a) (K:IntsAre us ks) (nd:ks.Nodup) (hl:us.length=vs.length) (h6:vs.length < 64)
  (h:∀ (ps:List (Int×Value)) c h',ps.Perm (ks.zip vs)->ps.Pairwise (fun p q=>p.1<=q.1)->h'.get? a=some (seqObj "list" (ps.map (·.2)).toArray c)->(∀ b o,b≠a->b≠kS->s.heap.get? b=some o->h'.get? b=some o)->P (.done (.ret .none)) { s with heap:=h' }) :
  wpAny (model prog w) A (ksk_end a false vs.toArray e1 (.ref kS) us.toArray) P E s:=by
 have K2:=qE K;have kl:ks.length=us.length:=K2.length;have zl:sizeLine=16777216:=sizeLine_eq;have tail:∀ (st:SortSt) (ps:List (Int×Value)),ps.Perm (ks.zip vs)->ps.Pairwise (fun p q=>p.1<=q.1)->failedOf st=none->(arrOf st).map (·.2)=(ps.map (·.2)).toArray->wpAny (model prog w) A (ksk_tail a false e1 (.ref kS) st) P E s:=fun st ps hp ho hf he=>by
  have s1:=Heap.SameBut.update s.heap kS (Obj.mapSeq fun _=>(#[]:Array Value));have na1:(s.heap.update kS (Obj.mapSeq fun _=>(#[]:Array Value))).get? a=some (seqObj "list" #[] e1):=(s1.2 a hka.symm).trans ha;have s2:=Heap.SameBut.update (s.heap.update kS (Obj.mapSeq fun _=>(#[]:Array Value))) a (Obj.mapSeq fun _=>(ps.map (·.2)).toArray);obtain ⟨c2,hc2⟩:∃ c2,((s.heap.update kS (Obj.mapSeq fun _=>(#[]:Array Value))).update a (Obj.mapSeq fun _=>(ps.map (·.2)).toArray)).get? a=some (seqObj "list" (ps.map (·.2)).toArray c2):=⟨_,get?_update_seq na1 fun _=>(ps.map (·.2)).toArray⟩;have pl:ps.length=vs.length:=by rw [hp.length_eq,List.length_zip];omega
  unfold ksk_tail;try dsimp only
  refine wpAny_bind (listUpdate_at hk rfl ?_ (by rw [List.size_toArray,zl];omega) (Nat.zero_le _));refine wpAny_bind (wpAny_letGo ?_);refine wpAny_bind (seqEpoch_at na1 rfl ?_);simp only [Bool.false_eq_true,if_false];rw [he];refine wpAny_bind (listUpdate_at na1 rfl ?_ (Nat.zero_le _) (by rw [List.size_toArray,List.length_map,zl];omega));rw [hf];simp only [bne_self_eq_false,Bool.false_eq_true,if_false];exact wpAny_pure (h ps c2 _ hp ho hc2 fun b o n1 n2 q=>(s2.2 b n1).trans ((s1.2 b n2).trans q))
 have ez:us.toArray.zip vs.toArray=(us.zip vs).toArray:=by simp
 unfold ksk_end;try dsimp only
 simp only [Bool.false_eq_true,if_false]
 by_cases h2:vs.toArray.size < 2
 ·rw [if_pos h2,if_pos h2];rw [List.size_toArray] at h2;refine wpAny_bind (wpAny_pure ?_);rw [StateT.run_pure];refine wpAny_bind (wpAny_pure ?_);refine tail _ (ks.zip vs) (.refl _) (pw1 (by rw [List.length_zip];omega)) rfl ?_;show (us.toArray.zip vs.toArray).map (·.2)=_;rw [ez,List.map_snd_zip (by omega)];simp [List.map_snd_zip (l₁:=us) (l₂:=vs) (by omega)]
 ·rw [if_neg h2,if_neg h2];rw [List.size_toArray] at h2;rw [ksk_kind (kz:=ks) (by simpa using K) (by simp;omega)];refine wpAny_bind (wpAny_pure ?_);obtain ⟨h1,h3,h4⟩:=yN nd (by omega);rw [kl,hl] at h1 h3 h4;refine wpAny_bind (kat_run (κ:=oneType') (Q:=fun st s'=>wpAny (model prog w) A (ksk_tail a false e1 (.ref kS) st) P E s') (vs:=vs) (ks:=us) (G:=fun p s'=>p=rS (ltK ks) (kas_sort vs.length)/\s'=s) hl (by omega) (by omega) ?_ ?_)
  ·rintro p st s' hp har hf ⟨rfl,rfl⟩;refine tail st ((rS (ltK ks) (kas_sort vs.length)).toList.map fun i=>(ks.getD i 0,vs.getD i Value.none)) ?_ ?_ hf ?_
   ·refine (h3.map _).trans ?_;rw [<- hl,<- kl,yO (by omega)]
   ·rw [List.pairwise_map];refine h4.imp fun {i j} hz=>?_;unfold ltK at hz;exact Int.le_of_lt (of_decide_eq_true hz)
   ·rw [kat_snds hl har];simp [Function.comp_def]
  ·refine wQ (lt:=ltK ks) (fun i j hi hj hij C hC=>?_) (fun _ _ _ _=>rfl) _ _ h1 ⟨rfl,rfl⟩;have hi':i < ks.length:=by omega
   have hj':j < ks.length:=by omega
   obtain ⟨u,eu,t,rfl⟩:=uC K2 (List.getElem?_eq_getElem hi');obtain ⟨v,ev,t',rfl⟩:=uC K2 (List.getElem?_eq_getElem hj');unfold kas_ask;have e1:us.getD i .none=.int ks[i] t:=by rw [List.getD_eq_getElem?_getD,eu];rfl
   have e2:us.getD j .none=.int ks[j] t':=by rw [List.getD_eq_getElem?_getD,ev];rfl
   rw [e1,e2];refine kat_lt_int ?_;have e3:ltK ks i j=decide (ks[i] < ks[j]):=by
    unfold ltK;rw [List.getD_eq_getElem?_getD,List.getD_eq_getElem?_getD,List.getElem?_eq_getElem hi',List.getElem?_eq_getElem hj'];rfl
   rw [<- e3];exact hC
end
end ST

namespace ST
open PySem PySem.Spec PyProof.Rows
section
variable {prog:Program} {w:World} {A:Around} {E:Value->Shared->Prop} {s:Shared} {ks:List Int}
def aB7 {x:Value} {Q:Value->Shared->Prop} {n:Nat} (h64:n < 64)
  (hc:∀ R,(∀ (vs:List Value) (ns:List Int) h' dr tk,IntsAre vs ns->vs.length=n->ns.Perm ks->(∀ b o,s.heap.get? b=some o->h'.get? b=some o)->R vs { s with heap:=h',drawn:=dr,toks:=tk })->wpAny (model prog w) A.in1 (collect x) R E s)
  (h:∀ (a:Addr) (vs:List Value) (ns:List Int) (c:Nat) h' dr tk,IntsAre vs ns->ns.Perm ks->ns.Pairwise (·<=·)->s.heap.get? a=none->h'.get? a=some (seqObj "list" vs.toArray c)->(∀ b o,s.heap.get? b=some o->h'.get? b=some o)->Q (.ref a) { s with heap:=h',drawn:=dr,toks:=tk }) :
  wpAny (model prog w) A (call (.builtin "sorted") [x]) Q E s:=by
 refine Calls.call_function_entry kind_sorted plain_sorted entry_sorted (args_sorted1 _) ?_;unfold Builtin.«sorted»;refine wpAny_bind (m:=checkCount "sorted" 1 1 _) (wpAny_pure (wpAny_bind (hc _ fun vs ns h1 dr tk hi hl hp k1=>?_)));refine wpAny_bind (wpAny_newList ?_ (by rw [hl,sizeLine_eq];omega));have hoL:(h1.push (seqObj "list" vs.toArray 0)).get? h1.objs.size=some (seqObj "list" vs.toArray 0):=Heap.get?_push_size _ rfl;refine wpAny_bind (wpAny_holding (wpAny_call_entry slot_list_sort ⟨_,hoL,rfl⟩ entry_list_sort (list_sort_tree hoL hi (by omega) fun out ns' a1 a2 a3=>⟨_,rfl,?_⟩) (args_list_sort _)));obtain ⟨c,ec⟩:=sortedHeap_at (out:=out) hoL;refine wpAny_pure ⟨_,rfl,h h1.objs.size out.toList ns' c _ dr tk a1 (a2.trans hp) a3 (by cases q:s.heap.get? h1.objs.size with | none=>rfl | some o=>exact absurd (Heap.lt_size (k1 _ o q)) (Nat.lt_irrefl _)) (by rw [Array.toArray_toList];exact ec) fun b o e=>?_⟩;have bl:b < h1.objs.size:=Heap.lt_size (k1 b o e);rw [sortedHeap_old (Nat.ne_of_lt bl) (by rw [size_push'];exact Nat.lt_succ_of_lt bl)];exact Heap.get?_push_of_some _ (k1 b o e)
end
def aK3 (ns:List Int):(srt ns).Perm ns:=List.mergeSort_perm _ _
def bL6 (ns:List Int):(srt ns).Pairwise (·<=·):=by
 have h:=List.pairwise_mergeSort (le:=fun a b:Int=>decide (a<=b)) (fun a b c h1 h2=>by simp at *;omega) (fun a b=>by simp;omega) ns;exact h.imp fun h=>by simpa using h
def aK4 {a ns:List Int} (p:a.Perm ns) (o:a.Pairwise (·<=·)):a=srt ns:=(p.trans (aK3 ns).symm).eq_of_pairwise (fun a b _ _ h1 h2=>Int.le_antisymm h1 h2) o (bL6 ns)
end ST
namespace DL
open PySem PySem.Spec PyProof.Rows L2 CI ST
theorem jY {S:Sx} {Z:Zm}:∀ {xs:List PyData} {ns:List Int} {us:List Value},dG xs=some ns->Paired (Rep S Z) xs us->IntsAre us ns
 | [],_,_,e,r=>by cases e;cases r;exact .nil
 | x::xs,_,_,e,r=>by
  cases r with
  | cons a b =>
   cases x<;>first | cases e;done | skip
   obtain ⟨ns,e1,rfl⟩:=map_some (show (dG xs).map _=_ from e);obtain ⟨t,rfl⟩:=rep_i.mp a;exact .cons _ _ (jY e1 b)
theorem qF {S:Sx} {Z:Zm}:∀ {ns:List Int} {vs:List Value},IntsAre vs ns->Paired (Rep S Z) (ns.map .int) vs
 | _,_,.nil=>.nil
 | _,_,.cons n t h=>.cons (rep_i.mpr ⟨t,rfl⟩) (qF h)
def Mem.dr {S:Sx} {κ:Kp} {M:Mp} {h:aA} {s:Shared} (R:Mem S κ M h s) (h':Heap) (d:Drawn) (t:Nat) (k:∀ b o,s.heap.get? b=some o->h'.get? b=some o):Mem S κ M h { s with heap:=h',drawn:=d,toks:=t }:=R.keep (fun b o e _=>k b o e) R.bare rfl
end DL

namespace ST
open PySem PySem.Spec PyProof.Rows PySem.W
section
variable {prog:Program} {w:World} {A:Around} {E:Value->Shared->Prop} {s:Shared}
def mO (h:Heap) (k:Int) (u:Value):Prop:=∃ (i j:Int) (t t':Tok) (A:Addr) (o:Obj) (n:Nat),u=.ref A/\h.get? A=some o/\o.cls=.type "tuple"/\o.data=.seq #[.int i t,.int j t'] n/\k=i*1000+j/\0<=j/\j < 1000
def bX6 {x y:Int} {u v:Value} {C:Bool->Shared->Prop} (hx:mO s.heap x u) (hy:mO s.heap y v) (h:C (decide (x < y)) s):wpAny (model prog w) A (keyLt' (tuples' true) u v) C E s:=by
 obtain ⟨i,j,t,t1,X,o,n,rfl,h1,h2,h3,rfl,i1,i2⟩:=hx;obtain ⟨i',j',t',t1',X',o',n',rfl,g1,g2,g3,rfl,j1,j2⟩:=hy;refine kat_lt h1 h3 g1 g3 ?_;show KatLex prog w A true false C [(.int i t,.int i' t'),(.int j t1,.int j' t1')] 0 s;refine kat_cons (wpAny_eqBool_int ?_)
 by_cases hi:i=i'
 ·subst hi;rw [beq_self_eq_true];refine kat_yes (kat_cons (wpAny_eqBool_int ?_))
  by_cases hj:j=j'
  ·subst hj;rw [beq_self_eq_true];refine kat_yes (kat_nil ?_);rw [decide_eq_false (Int.lt_irrefl _)] at h;exact h
  ·rw [beq_eq_false_iff_ne.mpr hj];refine kat_no (kat_one _ _ (lt_int ?_));have e:decide (i*1000+j < i*1000+j')=decide (j < j'):=by rw [decide_eq_decide];omega
   rw [e] at h;exact h
 ·rw [beq_eq_false_iff_ne.mpr hi];refine kat_no (oneLt_int ?_);have e:decide (i*1000+j < i'*1000+j')=decide (i < i'):=by rw [decide_eq_decide];omega
  rw [e] at h;exact h
theorem yP {h:Heap}:∀ {ks:List Int} {us:List Value},Paired (mO h) ks us->∃ fs,KatTups h us fs/\fs.length=us.length/\∀ v∈fs,∃ k t,v=.int k t
 | _,_,.nil=>⟨[],.nil,rfl,fun v hv=>nomatch hv⟩
 | _,_,.cons k r=>by
  obtain ⟨i,j,t,t',X,o,n,rfl,h1,h2,h3,_⟩:=k;obtain ⟨fs,q,l,e⟩:=yP r;refine ⟨.int i t::fs,.cons h1 h2 h3 rfl q,by simp [l],fun v hv=>?_⟩;rcases List.mem_cons.mp hv with rfl | hv
  ·exact ⟨_,_,rfl⟩
  ·exact e v hv
def bE7 {h h':Heap} {a:Addr} {x:Obj} (hx:h.get? a=some x) (hc:x.cls≠.type "tuple") (k:∀ b o,b≠a->h.get? b=some o->h'.get? b=some o) {ks:List Int} {us:List Value} (p:Paired (mO h) ks us):Paired (mO h') ks us:=by
 induction p with
 | nil=>exact .nil
 | cons q _ ih =>
  obtain ⟨i,j,t,t',X,o,n,rfl,h1,h2,h3,r⟩:=q;refine .cons ⟨i,j,t,t',X,o,n,rfl,k X o (fun z=>?_) h1,h2,h3,r⟩ ih;subst z;rw [hx] at h1;cases h1;exact hc h2
def wR (a:Addr) (n1:Nat) (st:SortSt):Sem PySem.Fin:=do
    let __do_lift <- seqEpoch a
    have touched:Bool:=__do_lift != n1
    Builtin.List.listUpdate (Value.ref a) fun x=>Array.map (fun x=>x.snd) (arrOf st)
    have __do_jp:Unit->Sem PySem.Fin:=fun __r =>
     have __do_jp:=fun __r=>ret Value.none;
     if touched=true then do
      rule "list.sort.modified"
      let __r <- raiseErrorWords "ValueError" "list modified during sort"
      __do_jp __r
     else __do_jp ()
    match failedOf st with
     | some e=>do
      rule "list.sort.comparison-raised"
      let __r <- throw e
      __do_jp __r
     | x=>__do_jp ()
def aK5 {a:Addr} {us:List Value} {ks:List Int} {n:Nat} {P:PySem.Fin->Shared->Prop} (hl:s.heap.get? a=some (seqObj "list" us.toArray n)) (K:Paired (mO s.heap) ks us) (nd:ks.Nodup) (h64:us.length < 64)
  (h:∀ ps:List (Int×Value),ps.Perm (ks.zip us)->ps.Pairwise (fun p q=>p.1<=q.1)->P (.done (.ret .none)) { s with heap:=sortedHeap s.heap a us (ps.map (·.2)).toArray }) :
  wpAny (model prog w) A (Builtin.«list.sort» { pos:=[.ref a] }) P E s:=by
 have hal:a < s.heap.objs.size:=Heap.lt_size hl;have kl:ks.length=us.length:=K.length;have zl:sizeLine=16777216:=sizeLine_eq;rw [list_sort_plain];refine wpAny_bind (listItems_at hl rfl ?_);refine wpAny_bind (listUpdate_at hl rfl ?_ (by simp;omega) (by simp));obtain ⟨n1,g1⟩:∃ n1,(s.heap.update a (Obj.mapSeq fun _=>#[])).get? a=some (seqObj "list" #[] n1):=⟨_,Heap.get?_update_self _ hl rfl⟩;have k1:Paired (mO (s.heap.update a (Obj.mapSeq fun _=>#[]))) ks us:=bE7 hl (by simp [seqObj]) (fun b o nb q=>Heap.get?_update_of_ne _ (fun z=>nb z.symm) q) K;have hs1:(s.heap.update a (Obj.mapSeq fun _=>#[])).objs.size=s.heap.objs.size:=Heap.size_update _ _ _;unfold sortedHeap at h;generalize s.heap.update a (Obj.mapSeq fun _=>#[])=h1 at g1 k1 hs1 h;refine wpAny_bind (seqEpoch_at g1 rfl ?_);refine wpAny_bind (wpAny_newTuple ?_ (by simp;omega));refine wpAny_bind (wpAny_newList ?_ (by simp));have g2:((h1.push (seqObj "tuple" us.toArray 0)).push (seqObj "list" #[] 0)).get? a=some (seqObj "list" #[] n1):=Heap.get?_push_of_some _ (Heap.get?_push_of_some _ g1);have k2:Paired (mO ((h1.push (seqObj "tuple" us.toArray 0)).push (seqObj "list" #[] 0))) ks us:=bE7 g1 (by simp [seqObj]) (fun b o _ q=>Heap.get?_push_of_some _ (Heap.get?_push_of_some _ q)) k1;simp only [List.toList_toArray] at *;show wpAny _ _ (holding _ _) _ _ { s with heap:=(h1.push (seqObj "tuple" us.toArray 0)).push (seqObj "list" #[] 0) };generalize (h1.push (seqObj "tuple" us.toArray 0)).push (seqObj "list" #[] 0)=h2 at g2 k2 h;refine wpAny_holding ?_;have fin:∀ (ps:List (Int×Value)),ps.Perm (ks.zip us)->ps.Pairwise (fun p q=>p.1<=q.1)->∀ st:SortSt,failedOf st=none->Array.map (fun x=>x.snd) (arrOf st)=(ps.map (·.2)).toArray->wpAny (model prog w) A (wR a n1 st) P E { s with heap:=h2 }:=fun ps hp hs st hf ha=>by
  have lp:=hp.length_eq;rw [List.length_zip] at lp;unfold wR;refine wpAny_bind (seqEpoch_at g2 rfl ?_);rw [ha];refine wpAny_bind (listUpdate_at g2 rfl ?_ (by simp) (by simp;omega));rw [hf];simp only [bne_self_eq_false,Bool.false_eq_true,if_false];exact wpAny_pure (h ps hp hs)
 have sz:us.toArray.size=us.length:=by simp
 by_cases h2l:us.length < 2
 ·rw [if_pos (by rw [sz];exact h2l),if_pos (by rw [sz];exact h2l)];refine wpAny_bind (wpAny_pure ?_);refine wpAny_bind (m:=StateT.run (pure ()) _) (wpAny_pure ?_);refine fin (ks.zip us) (.refl _) (pw1 (by rw [List.length_zip];omega)) _ rfl ?_;show Array.map (fun x=>x.snd) (us.toArray.zip us.toArray)=_;rw [List.map_snd_zip (by omega)];apply Array.ext
  ·simp
  ·intro i h1 h2;simp
 ·rw [if_neg (by rw [sz];exact h2l),if_neg (by rw [sz];exact h2l)];obtain ⟨fs,kt,fl,fi⟩:=yP k2;refine wpAny_bind (kat_kind (s:={ s with heap:=h2 }) (T:=.type "int") kt (by omega) (fun v hv=>?_) (by decide) ?_)
  ·obtain ⟨k,t,rfl⟩:=fi v hv;exact fun A Q E s _ q=>wpAny_pure q
  ·obtain ⟨z1,z3,z4⟩:=yN nd (by omega);rw [kl] at z1 z3 z4;refine wpAny_bind (kat_run (Q:=fun st s'=>wpAny (model prog w) A (wR a n1 st) P E s') (vs:=us) (ks:=us) (G:=fun p s'=>p=rS (ltK ks) (kas_sort us.length)/\s'={ s with heap:=h2 }) rfl (by omega) (by omega) ?_ ?_)
   ·rintro p st s' hp ha hf ⟨rfl,rfl⟩;refine fin ((rS (ltK ks) (kas_sort us.length)).toList.map fun i=>(ks.getD i 0,us.getD i Value.none)) ?_ ?_ st hf ?_
    ·refine (z3.map _).trans ?_;rw [<- kl,yO kl]
    ·rw [List.pairwise_map];refine z4.imp fun {i j} hz=>?_;unfold ltK at hz;exact Int.le_of_lt (of_decide_eq_true hz)
    ·rw [kat_snds rfl ha];simp [Function.comp_def]
   ·refine wQ (s:={ s with heap:=h2 }) (lt:=ltK ks) (fun i j hi hj hij C hC=>?_) (fun _ _ _ _=>rfl) _ _ z1 ⟨rfl,rfl⟩;have hi':i < ks.length:=by rw [kl];exact hi
    have hj':j < ks.length:=by rw [kl];exact hj
    obtain ⟨u,eu,ku⟩:=uC k2 (List.getElem?_eq_getElem hi');obtain ⟨v,ev,kv⟩:=uC k2 (List.getElem?_eq_getElem hj');unfold kas_ask;have e1:us.getD i .none=u:=by rw [List.getD_eq_getElem?_getD,eu];rfl
    have e2:us.getD j .none=v:=by rw [List.getD_eq_getElem?_getD,ev];rfl
    rw [e1,e2];refine bX6 (s:={ s with heap:=h2 }) ku kv ?_;have e3:ltK ks i j=decide (ks[i] < ks[j]):=by
     unfold ltK;rw [List.getD_eq_getElem?_getD,List.getD_eq_getElem?_getD,List.getElem?_eq_getElem hi',List.getElem?_eq_getElem hj'];rfl
    rw [<- e3];exact hC
def wS {x:Value} {us:List Value} {ks:List Int} {Q:Value->Shared->Prop} (nd:ks.Nodup) (h64:us.length < 64) (K:Paired (mO s.heap) ks us)
  (hc:∀ R:List Value->Shared->Prop,(∀ h',(∀ b o,s.heap.get? b=some o->h'.get? b=some o)->R us { s with heap:=h' })->wpAny (model prog w) A.in1 (collect x) R E s)
  (h:∀ (a:Addr) (ps:List (Int×Value)) (c:Nat) h',ps.Perm (ks.zip us)->ps.Pairwise (fun p q=>p.1<=q.1)->s.heap.get? a=none->h'.get? a=some (seqObj "list" (ps.map (·.2)).toArray c)->(∀ b o,s.heap.get? b=some o->h'.get? b=some o)->Q (.ref a) { s with heap:=h' }) :
  wpAny (model prog w) A (call (.builtin "sorted") [x]) Q E s:=by
 refine Calls.call_function_entry kind_sorted plain_sorted entry_sorted (args_sorted1 _) ?_;unfold Builtin.«sorted»;refine wpAny_bind (m:=checkCount "sorted" 1 1 _) (wpAny_pure (wpAny_bind (hc _ fun h1 k1=>?_)));refine wpAny_bind (wpAny_newList ?_ (by rw [sizeLine_eq];omega));have hoL:(h1.push (seqObj "list" us.toArray 0)).get? h1.objs.size=some (seqObj "list" us.toArray 0):=Heap.get?_push_size _ rfl;have K1:Paired (mO (h1.push (seqObj "list" us.toArray 0))) ks us:=Paired.mono (fun _ _ ⟨i,j,t,t',X,o,n,e,g,r⟩=>⟨i,j,t,t',X,o,n,e,Heap.get?_push_of_some _ (k1 _ _ g),r⟩) K;refine wpAny_bind (wpAny_holding (wpAny_call_entry slot_list_sort ⟨_,hoL,rfl⟩ entry_list_sort (aK5 hoL K1 nd h64 fun ps a1 a2=>⟨_,rfl,?_⟩) (args_list_sort _)));obtain ⟨c,ec⟩:=sortedHeap_at (out:=(ps.map (·.2)).toArray) hoL;refine wpAny_pure ⟨_,rfl,h h1.objs.size ps c _ a1 a2 (by cases q:s.heap.get? h1.objs.size with | none=>rfl | some o=>exact absurd (Heap.lt_size (k1 _ o q)) (Nat.lt_irrefl _)) ec fun b o e=>?_⟩;have bl:b < h1.objs.size:=Heap.lt_size (k1 b o e);rw [sortedHeap_old (Nat.ne_of_lt bl) (by rw [size_push'];exact Nat.lt_succ_of_lt bl)];exact Heap.get?_push_of_some _ (k1 b o e)
end
end ST

namespace DL
open PySem PySem.Spec PyProof.Rows L2 CI
theorem qG {q:Pos×Str} {c:Addr}:∀ {qs:List (Pos×Str)} {cs:List Addr},qs.length=cs.length->eQ (qs++[q]) (cs++[c])=eQ qs cs++[rawInt q.1.line,rawInt q.1.col,.ref c]
 | [],[],_=>rfl
 | [],_::_,h=>by simp at h
 | _::_,[],h=>by simp at h
 | p::qs,d::cs,h=>by
  show rawInt _::rawInt _::Value.ref d::eQ (qs++[q]) (cs++[c])=_;rw [qG (by simpa using h)];rfl
def aW2 (l:List Value) (h:TriplesOk l):∀ (qs:List (Pos×Str)) (cs:List Addr),TriplesOk (l++eQ qs cs):=by
 have base:∀ (qs:List (Pos×Str)) (cs:List Addr),TriplesOk (eQ qs cs):=by
  intro qs;induction qs with
  | nil=>intro cs;exact True.intro
  | cons q qs ih =>
   intro cs;cases cs with
   | nil=>exact True.intro
   | cons c cs=>exact ih cs
 intro qs cs
 fun_induction TriplesOk l with
 | case1=>exact base qs cs
 | case2 a' t b' u x rest ih=>simp only [List.cons_append,TriplesOk];exact ih h
 | case3 l h1 h2=>exact h.elim
def among_trip {pos:Pos} {l:List Value} (h:TriplesOk l) (hn:codeAmong pos l=none):∀ {qs:List (Pos×Str)} {cs:List Addr},qs.length=cs.length ->
  (qs.find? (atP pos)=none/\codeAmong pos (l++eQ qs cs)=none)\/∃ (q:Pos×Str) (c:Addr) (i:Nat),qs.find? (atP pos)=some q/\qs[i]?=some q/\cs[i]?=some c/\codeAmong pos (l++eQ qs cs)=some (.ref c):=by
 have base:∀ {qs:List (Pos×Str)} {cs:List Addr},qs.length=cs.length->(qs.find? (atP pos)=none/\codeAmong pos (eQ qs cs)=none)\/∃ (q:Pos×Str) (c:Addr) (i:Nat),qs.find? (atP pos)=some q/\qs[i]?=some q/\cs[i]?=some c/\codeAmong pos (eQ qs cs)=some (.ref c):=by
  intro qs;induction qs with
  | nil=>intro cs _;exact .inl ⟨rfl,rfl⟩
  | cons q qs ih =>
   intro cs hl;cases cs with
   | nil=>simp at hl
   | cons c cs =>
    have e:codeAmong pos (eQ (q::qs) (c::cs))=if atP pos q=true then some (.ref c) else codeAmong pos (eQ qs cs):=by
     show (if ((q.1.line:Int)==pos.line&&(q.1.col:Int)==pos.col)=true then _ else _)=_;have e1:(((q.1.line:Int)==pos.line)&&((q.1.col:Int)==pos.col))=atP pos q:=by
      unfold atP;rw [Bool.eq_iff_iff];simp only [Bool.and_eq_true,beq_iff_eq];omega
     rw [e1]
    rw [e,List.find?_cons];cases ha:atP pos q with
    | true=>exact .inr ⟨q,c,0,rfl,rfl,rfl,rfl⟩
    | false =>
     rw [if_neg Bool.false_ne_true];rcases ih (cs:=cs) (by simpa using hl) with ⟨a,b⟩ | ⟨q',c',i,a,b,d,f⟩
     ·exact .inl ⟨a,b⟩
     ·exact .inr ⟨q',c',i+1,a,by simpa using b,by simpa using d,f⟩
 intro qs cs hl;have e:codeAmong pos (l++eQ qs cs)=codeAmong pos (eQ qs cs):=by
  fun_induction TriplesOk l with
  | case1=>rfl
  | case2 a t b u x rest ih =>
   simp only [List.cons_append,codeAmong] at hn ⊢;split at hn
   ·cases hn
   ·rename_i hc;rw [if_neg hc];exact ih h hn
  | case3 l h1 h2=>exact h.elim
 rw [e];exact base hl
section
variable {X:Cx} {st:Sta} {d:Nat} {v:Evs} {κ:Kp} {M:Mp} {δ:DSt} {h h':aA} {s:Shared} {E:Value->Shared->Prop}
def aK6 {params:Arguments} {body:Expr} {scope:Scope} {pos:Pos} {c0:Addr} {j:Nat} {qs qs':List (Pos×Str)} {clos:List (Str×Addr)} (R:Mem X.S κ M h s) (F:Fra X κ M δ) (T:TbS X.S c0 pos) (hcode:X.env.code=.ref c0) (hcl:closureFor scope X.env=pure clos) (hdef:defaultsOf params X.env=([],[]))
  (eh:h[j]?=some (.t qs)) (eq:tQ pos (X.env.qual++"<lambda>") qs=some qs') :
  Wp X.S X.A (eval (.Lambda params body scope pos) X.env) (fun u s'=>∃ f cc pm ctv M',u=.ref f/\Le M M'/\Mem X.S κ M' (h.set j (.t qs')) s'/\aU κ M' f/\s'.heap.get? f=some (PySem.W.kla_obj "<lambda>" (X.env.qual++"<lambda>") params body scope clos pm cc ctv)/\bD4 M'.Z (pos,X.env.qual++"<lambda>") cc) E s:=by
 refine PySem.W.kla_eval hdef ?_;obtain ⟨pP,ej⟩:∃ p,M.m[j]?=some p:=⟨_,List.getElem?_eq_getElem (by rw [R.len];exact (List.getElem?_eq_some_iff.mp eh).1)⟩;obtain ⟨cs,oP,rc,ep⟩:=R.cel j _ _ ej eh;subst ep;have oP:s.heap.get? X.S.tp=some (PySem.W.tabObj (X.S.tb++(eQ qs cs).toArray)):=oP;have hl:=rc.length;have kin:=F.ok.mod.kin.keeps R.bk;have C:=PySem.W.codeHd_of_K kin T.hd;have bm:s.heap.BuiltinsAt X.S.mg X.S.tp:=by
  obtain ⟨b,o,h1,h2,h3,h4,h5,h6⟩:=T.bm;exact ⟨b,o,h1,h2,h3,h4,R.bk _ _ h5,h6⟩
 have hg:s.heap.Ns mainGlobals X.S.mg:=F.ok.mod.glob.keeps R.bk;have hgP:mainGlobals≠X.S.tp:=fun q=>by
  obtain ⟨o,es,ep,e,hd,_⟩:=hg;rw [q,oP] at e;cases e;cases hd
 have etl:(X.S.tb++(eQ qs cs).toArray).toList=X.S.tb.toList++eQ qs cs:=by simp
 have ht:TriplesOk (X.S.tb++(eQ qs cs).toArray).toList:=by rw [etl];exact aW2 _ T.tr _ _
 have hset:∀ {c:Cell},h[j]?=some c->h.set j c=h:=fun e=>List.ext_getElem? fun i=>by
  by_cases z:i=j
  ·subst z;rw [List.getElem?_set_self (List.getElem?_eq_some_iff.mp e).1,e]
  ·rw [List.getElem?_set_ne (Ne.symm z)]
 unfold tQ at eq;rcases among_trip T.tr T.no hl with ⟨e1,e2⟩ | ⟨q,c,i,e1,e2,e3,e4⟩
 ·rw [e1] at eq;cases eq;refine PySem.W.kla_makeFunction hcl F.ok.glob hg hcode C oP ht (by rw [etl];exact e2) hgP bm fun cc ctv h1 tk hx hge hlt hrec htb=>?_;obtain ⟨c',oc,vs,t,q1,q2,q3,q4⟩:=hrec;cases q1;have hP2:=R.off _ (List.mem_of_getElem? ej) X.S.tp (.inl rfl);have fcc:aU κ M cc:=R.new (Heap.get?_none_of_le hge);have ncP:cc≠X.S.tp:=fun z=>by obtain ⟨_,_,o,ho⟩:=hP2;rw [<- z] at ho;exact absurd (Heap.lt_size ho) (Nat.not_lt_of_le hge)
  have g2:(h1.push (PySem.W.kla_obj "<lambda>" (X.env.qual++"<lambda>") params body scope clos ((X.S.mg "__name__").getD .none) cc ctv)).get? X.S.tp=_:=Heap.get?_push_of_some _ htb;have kk:∀ b o,b≠X.S.tp->s.heap.get? b=some o->(h1.push (PySem.W.kla_obj "<lambda>" (X.env.qual++"<lambda>") params body scope clos ((X.S.mg "__name__").getD .none) cc ctv)).get? b=some o:=fun b o hb e=>Heap.get?_push_of_some _ (hx b o hb e);have hsz:s.heap.objs.size<=h1.objs.size:=Nat.le_trans hge (Nat.le_of_lt hlt);have gf:(h1.push (PySem.W.kla_obj "<lambda>" (X.env.qual++"<lambda>") params body scope clos ((X.S.mg "__name__").getD .none) cc ctv)).get? h1.objs.size=_:=Heap.get?_push_size _ rfl;have gc2:=Heap.get?_push_of_some (PySem.W.kla_obj "<lambda>" (X.env.qual++"<lambda>") params body scope clos ((X.S.mg "__name__").getD .none) cc ctv) q2;generalize (h1.push (PySem.W.kla_obj "<lambda>" (X.env.qual++"<lambda>") params body scope clos ((X.S.mg "__name__").getD .none) cc ctv))=h2 at g2 kk gf gc2 ⊢;have gm:(h2.update X.S.tp fun _=>PySem.W.tabObj (X.S.tb++(eQ qs cs).toArray)).get? X.S.tp=some (PySem.W.tabObj (X.S.tb++(eQ qs cs).toArray)):=Heap.get?_update_self _ g2 rfl;have go:∀ b,b≠X.S.tp->(h2.update X.S.tp fun _=>PySem.W.tabObj (X.S.tb++(eQ qs cs).toArray)).get? b=h2.get? b:=fun b hb=>Heap.get?_update_other _ _ (Ne.symm hb);have R1:Mem X.S κ M h { s with heap:=h2.update X.S.tp fun _=>PySem.W.tabObj (X.S.tb++(eQ qs cs).toArray),toks:=tk }:=R.keep (fun b o e _=>by
   by_cases hb:b=X.S.tp
   ·subst hb;rw [oP] at e;cases e;exact gm
   ·exact (go b hb).trans (kk b o hb e)) R.bare rfl
  have R2:=R1.frz fcc ((go cc ncP).trans gc2);have R3:Mem X.S κ (M.add cc oc) (h.set j (.t (qs++[(pos,X.env.qual++"<lambda>")]))) { s with heap:=h2,toks:=tk }:=R2.wr (p:=(X.S.tp,X.S.tp)) (s':={ s with heap:=h2,toks:=tk }) ej (fun b o n1 _ q=>by rw [go b n1] at q;exact q) ⟨⟨_,g2⟩,_,g2⟩ R.bare rfl
   ⟨cs++[cc],by rw [g2,qG hl];simp,Paired.snoc (nG (fun _ _ ⟨o,vs,t,a,b⟩=>⟨o,vs,t,(Le.add fcc.1).z _ _ a,b⟩) rc) ⟨oc,vs,t,gY,q3,q4⟩,rfl⟩
  have ff:aU κ M h1.objs.size:=R.new (Heap.get?_none_of_le hsz);exact ⟨h1.objs.size,cc,_,ctv,M.add cc oc,rfl,Le.add fcc.1,R3,⟨by show (if _=cc then some oc else M.Z _)=none;rw [if_neg (Nat.ne_of_gt hlt)];exact ff.1,ff.2⟩,gf,⟨oc,vs,t,gY,q3,q4⟩⟩
 ·rw [e1] at eq;obtain ⟨hq,eq⟩:=aG eq;cases eq;rw [hset eh];refine PySem.W.kla_makeFunctionHit hcl F.ok.glob hg hcode C oP ht (by rw [etl];exact e4) bm fun ctv h1 tk k sz=>?_;have kk:∀ b o,s.heap.get? b=some o->(h1.push (PySem.W.kla_obj "<lambda>" (X.env.qual++"<lambda>") params body scope clos ((X.S.mg "__name__").getD .none) c ctv)).get? b=some o:=fun b o e=>Heap.get?_push_of_some _ (k b o e);obtain ⟨c',e5,o,vs,t,z1,z2,z3⟩:=mM rc e2;rw [e3] at e5;cases e5;exact ⟨h1.objs.size,c,_,ctv,M,rfl,.refl,R.kept (t:=tk) kk,R.new (Heap.get?_none_of_le sz),Heap.get?_push_size _ rfl,⟨o,vs,t,z1,z2,by rw [show (pos,X.env.qual++"<lambda>").2=_ from hq.symm];exact z3⟩⟩
abbrev bL7 (sc:Scope) (q:Str) (L f cc:Addr) (cl:List (Str×Addr)):Env:=newEnv sc L mainGlobals cl (q++".<locals>.") (some f) (.ref cc) none builtinsNs
abbrev cxL (X:Cx) (A:Around) (N':List Str) (sc:Scope) (q:Str) (L f cc:Addr) (cl:List (Str×Addr)):Cx:=⟨X.S,A.deeper (bL7 sc q L f cc cl),N',bL7 sc q L f cc cl,false⟩
variable {N':List Str} {ixs:List (Option Nat)} {sc:Scope} {cl:List (Str×Addr)} {A:Around} {q par:Str} {L f cc:Addr} {i0:Nat} {u:Value} {w:W}
def aB8 {κ':Kp} {o:Obj} (ea:A.handled=X.A.handled) (fo:FrO κ A) (F:Fra X κ M δ) (SC:CompSc X.N N' ixs X.env.scope sc) (hcl1:∀ x c,cl.lookup x=some c->X.env.cells.lookup x=some c) (hcl2:∀ y∈sc.names,y.2=.free->∃ c,cl.lookup y.1=some c)
  (k:∀ a,κ a≠none->κ' a=κ a) (hL:κ' L=some (false,o)) (ho:jG o fun x=>List.lookup x [(par,u)]) (hb:X.S.base.objs.size<=L) (hp:N'[i0]?=some par) (hpl:sc.names.lookup par=some .local) (hi:ixs[i0]?=some none) (ru:RepW X.S M w u) :
  Fra (cxL X A N' sc q L f cc cl) κ' M ((bW ixs δ).set i0 (some w)):=by
 have hlen:(bW ixs δ).length=N'.length:=by
  unfold bW;rw [List.length_map];exact SC.len
 refine ⟨⟨F.ok.mod,SC.kind,rfl,rfl,fun x y c e1 e2=>F.ok.inj x y c (hcl1 x c e1) (hcl1 y c e2),fun x hx=>?_,hb,SC.nd⟩,F.hk.eq ea,by rw [List.length_set];exact hlen,⟨o,_,hL,ho,fun j x w' e1 e2 e3=>?_⟩,fun x c e=>?_,?_⟩
 ·have hx:sc.names.lookup x=some .cell\/sc.names.lookup x=some .free:=hx;rcases hx with hx | hx
  ·exact absurd rfl (SC.nocell _ (PySem.mem_of_lookup hx))
  ·exact hcl2 _ (PySem.mem_of_lookup hx) rfl
 ·by_cases hj:j=i0
  ·subst hj;have e1:N'[j]?=some x:=e1;rw [hp] at e1;cases e1;rw [List.getElem?_set_self (by rw [hlen];exact (List.getElem?_eq_some_iff.mp hp).1)] at e2;cases e2;exact ⟨u,ru,.inl ⟨hpl,by simp [List.lookup]⟩⟩
  ·rw [List.getElem?_set_ne (Ne.symm hj)] at e2;obtain ⟨i,ei,ev⟩:=yJ e2;obtain ⟨eN,ef⟩:=SC.at e1 ei;have hm:=PySem.mem_of_lookup ef;have hvis:X.env.scope.names.lookup x=some .cell\/X.env.scope.names.lookup x=some .free:=SC.free _ hm rfl;obtain ⟨_,m,_,_,hl⟩:=F.loc;obtain ⟨u',r,l⟩:=hl i x w' eN ev (.inr hvis);refine ⟨u',r,?_⟩;rcases l with ⟨hk,_⟩ | ⟨_,c,oc,ec,eo,ed⟩
   ·have hk':X.env.scope.names.lookup x=some .local:=hk;rcases hvis with z | z
    ·rw [hk'] at z;cases z
    ·rw [hk'] at z;cases z
   ·obtain ⟨c',ec'⟩:=hcl2 _ hm rfl;have e5:=hcl1 _ _ ec';rw [ec] at e5;have e6:c=c':=Option.some.inj e5;subst e6;exact .inr ⟨.inr ef,c,oc,ec',by rw [k c (by rw [eo];exact fun z=>nomatch z)];exact eo,ed⟩
 ·obtain ⟨oc,v,e1,e2⟩:=F.cell x c (hcl1 x c e);exact ⟨oc,v,by rw [k c (by rw [e1];exact fun z=>nomatch z)];exact e1,e2⟩
 ·obtain ⟨l,e1,e2⟩:=fo;obtain ⟨es,ep,hd,_⟩:=ho;refine ⟨bL7 sc q L f cc cl::l,by simp [Around.deeper,e1],fun env he=>?_⟩;rcases List.mem_cons.mp he with rfl | he
  ·exact ⟨by show sc.kind≠_;rw [SC.kind];decide,_,o,rfl,hL,fun vs z=>by rw [hd] at z;cases z⟩
  ·obtain ⟨k1,L',o',k2,k3,k4⟩:=e2 env he;exact ⟨k1,L',o',k2,by rw [k L' (by rw [k3];exact fun z=>nomatch z)];exact k3,k4⟩
def aW3 {params:Arguments} {body:Expr} {pm ctv:Value} {te:XR W} {z:W} (hdep:A.depth < recursionLimit) (ea:A.handled=X.A.handled) (fo:FrO κ A) (R:Mem X.S κ M h s) (F:Fra X κ M δ) (SC:CompSc X.N N' ixs X.env.scope sc) (hcl1:∀ x c,cl.lookup x=some c->X.env.cells.lookup x=some c) (hcl2:∀ y∈sc.names,y.2=.free->∃ c,cl.lookup y.1=some c)
  (hf:s.heap.get? f=some (PySem.W.kla_obj "<lambda>" q params body sc cl pm cc ctv)) (hcd:s.heap.CodeRec (.ref cc) q) (hbd:∀ fd:FuncData,fd.params=params->fd.defaults=.none->fd.kwdefaults=.none->bindArgs fd ⟨[u],[]⟩=pure [(par,u)]) (hco:sc.isCoroutine=false) (hgen:sc.isGenerator=false)
  (hp:N'[i0]?=some par) (hpl:sc.names.lookup par=some .local) (hi:ixs[i0]?=some none) (ru:RepW X.S M w u) (he:∀ L,SE (cxL X A N' sc q L f cc cl) body te) (e:te ((bW ixs δ).set i0 (some w)) h=some (z,h')) :
  Wp X.S A (call (.ref f) [u]) (Pw X.S κ M h' z) E s:=by
 refine wpAny_call (PySem.W.kla_callFunE hdep hf rfl hco hgen rfl hcd ?_);rw [hbd _ rfl rfl rfl];refine wpAny_pure (wpAny_newFunctionEnv SC.nocell (fun y hy=>by rw [List.mem_singleton.mp hy];exact hpl) (fun h1 hns hsb=>?_) SC.kind);have kk:∀ b o,s.heap.get? b=some o->h1.get? b=some o:=fun b o e=>hsb.extBut b o (Nat.ne_of_lt (Heap.lt_size e)) (Heap.get?_push_of_some _ e);have R1:Mem X.S κ M h { s with heap:=h1,toks:=s.toks+1 }:=R.kept kk;obtain ⟨o,es,ep,ho,hd,hs,hf2⟩:=hns;have f0:=R.size;have R2:=R1.more (b:=false) ⟨f0.1,f0.2.2⟩ ho;have F2:=aB8 (A:=A) (q:=q) (f:=f) (cc:=cc) (κ':=κ.up s.heap.objs.size (false,o)) ea fo F SC hcl1 hcl2 (fun a ha=>bN fun z=>ha (by rw [z];exact f0.2.1)) dY ⟨es,ep,hd,hs,hf2⟩ (F.size R) hp hpl hi ru;refine ⟨(F.ok.mod.nolimit.keeps R1.bk),PySem.W.kla_codeExpr (wpAny_mono (he _ R2 F2 e) (fun u' s2 ⟨M2,l2,R3,r3⟩=>?_) fun _ _ z=>z.elim)⟩;exact ⟨M2,l2,R3.less fun a x q=>by rw [bN fun z=>by rw [z,f0.2.1] at q;cases q];exact q,r3⟩
end
end DL

namespace DL
open PySem PySem.Spec PyProof.Rows L2 CI ST
theorem yQ {α:Type}:∀ {l:List (Int×α)},(l.map (·.1)).Nodup->∀ a∈l,∀ b∈l,a.1=b.1->a=b
 | [],_,_,h,_,_,_=>nomatch h
 | x::l,nd,a,ha,b,hb,e=>by
  rw [List.map_cons,List.nodup_cons] at nd;rcases List.mem_cons.mp ha with q1 | q1
  ·rcases List.mem_cons.mp hb with q2 | q2
   ·rw [q1,q2]
   ·exact (nd.1 (by rw [<- q1,e];exact List.mem_map_of_mem q2)).elim
  ·rcases List.mem_cons.mp hb with q2 | q2
   ·exact (nd.1 (by rw [<- q2,<- e];exact List.mem_map_of_mem q1)).elim
   ·exact yQ nd.2 a q1 b q2 e
noncomputable def dsc {α:Type} (l:List (Int×α)):List (Int×α):=l.mergeSort fun a b=>decide (b.1<=a.1)
def oH {α:Type} (l:List (Int×α)):(dsc l).Perm l:=List.mergeSort_perm _ _
def aK7 {α:Type} (l:List (Int×α)):(dsc l).Pairwise fun a b=>b.1<=a.1:=by
 have h:=List.pairwise_mergeSort (le:=fun a b:Int×α=>decide (b.1<=a.1)) (fun a b c h1 h2=>by simp at *;omega) (fun a b=>by simp;omega) l;exact h.imp fun h=>by simpa using h
def oJ {α:Type} {l ps:List (Int×α)} (nd:(l.map (·.1)).Nodup) (p:ps.Perm l) (o:ps.Pairwise fun a b=>b.1<=a.1):ps=dsc l :=
 (p.trans (oH l).symm).eq_of_pairwise (fun a b ha hb h1 h2=>yQ nd a (p.mem_iff.mp ha) b ((oH l).mem_iff.mp hb) (Int.le_antisymm h2 h1)) o (aK7 l)
def rT {α:Type} {ks:List Int} {r:List α} (h:ks.length<=r.length):(ks.zip r).map (·.1)=ks:=List.map_fst_zip h
def aW4 {α β:Type} {F:α->β->Prop} {ks:List Int} {xs:List α} {vs:List β} (nd:ks.Nodup) (hl:ks.length=xs.length) (r:Paired F xs vs):Paired F ((dsc (ks.zip xs)).map (·.2)) ((dsc (ks.zip vs)).map (·.2)):=by
 have hv:=r.length;have pz:∀ {xs:List α} {vs:List β},Paired F xs vs->∀ t∈xs.zip vs,F t.1 t.2:=by
  intro xs vs r;induction r with
  | nil=>intro t h;simp at h
  | cons a _ ih =>
   intro t h;rw [List.zip_cons_cons] at h;rcases List.mem_cons.mp h with rfl | h
   ·exact a
   ·exact ih t h
 have e1:(ks.zip (xs.zip vs)).map (fun t=>(t.1,t.2.1))=ks.zip xs:=by
  apply List.ext_getElem
  ·simp;omega
  ·intro i h1 h2;simp
 have e2:(ks.zip (xs.zip vs)).map (fun t=>(t.1,t.2.2))=ks.zip vs:=by
  apply List.ext_getElem
  ·simp;omega
  ·intro i h1 h2;simp
 have p:=oH (ks.zip (xs.zip vs));have o:=aK7 (ks.zip (xs.zip vs));have f1:(dsc (ks.zip (xs.zip vs))).map (fun t=>(t.1,t.2.1))=dsc (ks.zip xs):=oJ (by rw [rT (by omega)];exact nd) (by rw [<- e1];exact p.map _) (by rw [List.pairwise_map];exact o);have f2:(dsc (ks.zip (xs.zip vs))).map (fun t=>(t.1,t.2.2))=dsc (ks.zip vs):=oJ (by rw [rT (by omega)];exact nd) (by rw [<- e2];exact p.map _) (by rw [List.pairwise_map];exact o);rw [<- f1,<- f2,List.map_map,List.map_map];have all:∀ t∈dsc (ks.zip (xs.zip vs)),F t.2.1 t.2.2:=fun t ht=>pz r t.2 (List.of_mem_zip (show (t.1,t.2)∈_ from p.mem_iff.mp ht)).2;generalize dsc (ks.zip (xs.zip vs))=l at all;induction l with
 | nil=>exact .nil
 | cons t l ih=>exact .cons (all t List.mem_cons_self) (ih fun t h=>all t (List.mem_cons_of_mem _ h))
theorem aK8 {te:XR W} {δ:DSt} {i:Nat}:∀ {xs zs:List PyData} {h h':aA},gK te δ i xs h=some (zs,h')->zs.length=xs.length
 | [],_,_,_,e=>by cases e;rfl
 | x::xs,_,h,h',e=>by
  unfold gK at e;obtain ⟨⟨p,h1⟩,e1,e⟩:=bind_some e;cases p with
  | c j=>cases e
  | d z =>
   obtain ⟨⟨q,h2⟩,e2,e⟩:=bind_some (show (gK te δ i xs h1).bind _=_ from e);cases e;simp [aK8 e2]
section
variable {S:Sx} {A:Around} {κ1:Kp} {kS a f:Addr} {e1 n0 i:Nat} {te:XR W} {δ':DSt} {vs:List Value} {xs zs:List PyData} {h h':aA} {M:Mp} {s:Shared} {P:PySem.Fin->Shared->Prop} {E:Value->Shared->Prop}
def bX7 {x y:Bool×Obj} (R:Mem S ((κ1.up a x).up a y) M h s):Mem S (κ1.up a y) M h s:=R.less fun b z q=>by
 by_cases hb:b=a
 ·subst hb;rw [dY] at q ⊢;exact q
 ·rw [bN hb] at q;rw [bN hb,bN hb];exact q
def aK9 {bb:Bool} (turn:∀ (o:Obj) {M':Mp} {h1 h2:aA} {s1:Shared} {u:Value} {x:PyData} {z:W},Le M M'->Mem S (κ1.up kS (true,o)) M' h1 s1->Rep S M'.Z x u->te (δ'.set i (some (.d x))) h1=some (z,h2)->Wp S A (call (.ref f) [u]) (Pw S (κ1.up kS (true,o)) M' h2 z) NE s1)
  (R:Mem S (κ1.up kS (true,bC [] n0)) M h s) (rv:Reps' S M xs vs) (h6:xs.length < 64) (e:gK te δ' i xs h=some (zs,h'))
  (fin:∀ (M':Mp) (us:List Value) (n:Nat) (s':Shared),Le M M'->Mem S (κ1.up kS (true,bC us n)) M' h' s'->Reps' S M' zs us->Wp S A (ksk_end a bb vs.toArray e1 (.ref kS) us.toArray) P E s') :
  Wp S A (ksk_rest a (.ref f) bb vs.toArray e1 (.ref kS)) P E s:=by
 have vl:=rv.length;have zl:sizeLine=16777216:=sizeLine_eq;unfold ksk_rest;refine wpAny_bind (wpAny_rule ?_)
 first
  | rw [List.forIn_toArray]
  | (rw [<- Array.forIn_toList];simp only [List.toList_toArray])
  | rw [<- Array.forIn_toList]
 refine wpAny_bind (ksk_fold (fun j s'=>∃ hj M' us n zp zr,Le M M'/\Mem S (κ1.up kS (true,bC us n)) M' hj s'/\Reps' S M' zp us/\gK te δ' i (xs.drop j) hj=some (zr,h')/\zp++zr=zs/\zp.length=j) vs 0 s
  ⟨h,M,[],n0,[],zs,.refl,R,.nil,e,rfl,rfl⟩ ?step ?done)
 case step =>
  rintro j v s' hv ⟨hj,M',us,n,zp,zr,l,R',rp,ez,eq,hlen⟩;simp only [Nat.zero_add] at ez hlen ⊢;have hjl:j < xs.length:=by rw [vl];exact (List.getElem?_eq_some_iff.mp hv).1
  obtain ⟨v',ev',rx⟩:=mM rv (List.getElem?_eq_getElem hjl);rw [hv] at ev';cases ev';rw [List.drop_eq_getElem_cons hjl] at ez;unfold gK at ez;obtain ⟨⟨p,h1⟩,ep,ez⟩:=bind_some ez;cases p with
  | c j=>cases ez
  | d z =>
   obtain ⟨⟨zr',h2⟩,ezr,ez⟩:=bind_some (show (gK te δ' i (xs.drop (j+1)) h1).bind _=_ from ez);cases ez;refine wpAny_bind (wpAny_attempt (wpAny_mono (turn _ l R' (Rep.go l.z rx) ep) (fun k s'' he=>?_) fun _ _ hF=>hF.elim));obtain ⟨M2,l2,R2,rz⟩:=he;try dsimp only
   have nk:=(R2.k kS true _ dY).1 rfl;have hul:=rp.length;have s1:=Heap.SameBut.update s''.heap kS (Obj.mapSeq (·.push k));obtain ⟨c2,hc2⟩:∃ c2,(s''.heap.update kS (Obj.mapSeq (·.push k))).get? kS=some (seqObj "list" (us.toArray.push k) c2):=⟨_,get?_update_seq nk (·.push k)⟩;refine wpAny_bind (listUpdate_at nk rfl ?_ (by rw [List.size_toArray,zl];omega) (by rw [Array.size_push,List.size_toArray,zl];omega));refine wpAny_pure ⟨rfl,h1,M2,us++[k],c2,zp++[z],zr',l.trans l2,bX7 (R2.own (b:=true) (s':={ s'' with heap:=s''.heap.update kS (Obj.mapSeq (·.push k)) }) dY (fun b o hb q=>(s1.2 b hb).trans q) (show _=some (bC (us++[k]) c2) by rw [hc2];simp [seqObj]) R2.bare rfl),zW (Reps'.go l2 rp) (.cons rz .nil),ezr,by rw [<- eq];simp,by simp [hlen]⟩
 case done =>
  rintro s' ⟨hj,M',us,n,zp,zr,l,R',rp,ez,eq,hlen⟩;rw [Nat.zero_add,List.drop_of_length_le (by omega)] at ez;cases ez;rw [List.append_nil] at eq;subst eq;refine wpAny_bind (listItems_at ((R'.k kS true _ dY).1 rfl) rfl ?_);exact fin M' us n s' l R' rp
end
end DL

namespace DL
open PySem PySem.Spec PyProof.Rows L2 CI ST
theorem prs_len:∀ {zs:List PyData} {ks:List Int},aA5 zs=some ks->zs.length=ks.length
 | [],_,e=>by cases e;rfl
 | z::zs,_,e=>by
  obtain ⟨k,e1,e⟩:=bind_some (show ((prS z).map (·.1)).bind _=_ from e);obtain ⟨ks,e2,rfl⟩:=map_some e;simp [prs_len e2]
theorem aL0 {S:Sx} {Z:Zm} {hp:Heap} (hz:∀ a o,Z a=some o->hp.get? a=some o):∀ {zs:List PyData} {ks:List Int} {us:List Value},aA5 zs=some ks->Paired (Rep S Z) zs us->Paired (mO hp) ks us
 | [],_,_,e,r=>by cases e;cases r;exact .nil
 | z::zs,_,_,e,r=>by
  obtain ⟨k,e1,e⟩:=bind_some (show ((prS z).map (·.1)).bind _=_ from e);obtain ⟨ks,e2,rfl⟩:=map_some e;cases r with
  | cons a b =>
   refine .cons ?_ (aL0 hz e2 b);obtain ⟨⟨k',i,j,ez,hi,ek⟩,hh,rfl⟩:=Option.map_eq_some_iff.mp (show (prS _).map (·.1)=_ from e1);clear hh e1;subst ez;show mO hp k' _;rw [ek];obtain ⟨A,o,us,rfl,zA,⟨⟨n,rfl⟩,_⟩,rr⟩:=rep_t.mp a;cases rr with
   | cons r1 rr =>
    cases rr with
    | cons r2 rr =>
     cases rr;obtain ⟨t1,rfl⟩:=rep_i.mp r1;obtain ⟨t2,rfl⟩:=rep_i.mp r2;exact ⟨i,j,t1,t2,A,_,n,rfl,hz _ _ zA,rfl,rfl,rfl,hi.1,hi.2⟩
def bL8 {ks:List Int} (nd:ks.Nodup):(ks.map fun k=>-k).Nodup:=List.Pairwise.map _ (fun a b h z=>h (by omega)) nd
def aL1 {β:Type} {F:PyData->β->Prop} {ks:List Int} {xs:List PyData} {vs:List β} {ps:List (Int×β)} (nd:ks.Nodup) (hl:ks.length=xs.length) (r:Paired F xs vs) (hp:ps.Perm (ks.zip vs)) (ho:ps.Pairwise fun p q=>p.1<=q.1):Paired F (tO ks xs) (ps.map (·.2)):=by
 have nd':=bL8 nd;have vl:=r.length;have e:ps.map (fun p=>(-p.1,p.2))=dsc ((ks.map fun k=>-k).zip vs):=oJ (by rw [rT (by simp;omega)];exact nd') ((hp.map _).trans (.of_eq (by rw [List.zip_map_left];rfl))) (by
  rw [List.pairwise_map];exact ho.imp fun h=>by simpa using h)
 have q:=aW4 nd' (by simpa using hl) r;rw [<- e,List.map_map] at q;exact q
section
variable {X:Cx} {st:Sta} {d:Nat} {v:Evs} {a:Expr} {es:List Expr} {p pos:Pos}
def bX8 (S:Snd v) (G:Good X st d) (hx:(cV st "sorted"&&(slot st "sorted").isNone&&st.bl.contains "sorted")=true):SF X (.Call (.Name "sorted" p) (a::es) [] pos) (xb (aX v st (a::es)) fun ws=>fun _ h=>nN ws h):=by
 intro κ M δ h s w h' R F e;obtain ⟨ws,h1,e1,e⟩:=aF e;refine rR (f:=.builtin "sorted") S G hx (by decide +kernel) (.inl ⟨_,rfl⟩) R F e1 fun {M1 us s1} l1 R1 r1=>?_;have fin:∀ {ns:List Int} {u:Value} {vs:List Value},IntsAre vs ns->ns.length < 64->(∀ Rr:List Value->Shared->Prop,(∀ h2,(∀ b o,s1.heap.get? b=some o->h2.get? b=some o)->Rr vs { s1 with heap:=h2 })->Wp X.S X.A.in1 (collect u) Rr NE s1)->Wp X.S X.A (call (.builtin "sorted") [u]) (Pf X.S κ M h1 ((srt ns).map .int)) NE s1:=fun {ns u vs} hi hl hc=>by
  refine aB7 (ks:=ns) (n:=vs.length) (by rw [hi.length];exact hl) (fun Rr hR=>hc Rr fun h2 k=>hR vs ns h2 s1.drawn s1.toks hi rfl (List.Perm.refl _) k) fun b vs' ns' c h2 dr tk hi' hp ho hz hb k=>?_;have e2:=aK4 hp ho;subst e2;have hlen:=hi'.length;have hpl:=hp.length_eq;exact ⟨M1,l1,R1.dr h2 dr tk k,b,vs',c,rfl,hb,R1.new hz,by rw [hlen,hpl,sizeLine_eq];omega,qF hi'⟩
 have all:∀ {xs zs:List PyData} {u:Value} {vs:List Value},aA6 xs=some zs->Paired (Rep X.S M1.Z) xs vs->(∀ Rr:List Value->Shared->Prop,(∀ h2,(∀ b o,s1.heap.get? b=some o->h2.get? b=some o)->Rr vs { s1 with heap:=h2 })->Wp X.S X.A.in1 (collect u) Rr NE s1)->Wp X.S X.A (call (.builtin "sorted") [u]) (Pf X.S κ M h1 zs) NE s1:=fun {xs zs u vs} e rr hc=>by
  unfold aA6 at e;cases en:dG xs with
  | some ns =>
   rw [en] at e;obtain ⟨hl,e⟩:=aG e;cases e;exact fin (jY en rr) hl hc
  | none =>
   rw [en] at e;obtain ⟨ks,ek,e⟩:=bind_some e;obtain ⟨⟨nd,hl⟩,e⟩:=aG e;cases e;have vl:=rr.length;have kl:=prs_len ek;refine wS (us:=vs) nd (by omega) (aL0 R1.z ek rr) hc fun b ps c h2 hp ho hz hb k=>?_;have pl:=hp.length_eq;rw [List.length_zip] at pl;exact ⟨M1,l1,R1.dr h2 s1.drawn s1.toks k,b,ps.map (·.2),c,rfl,hb,R1.new hz,by rw [List.length_map,sizeLine_eq];omega,aL1 nd (by omega) rr hp ho⟩
 unfold nN at e;split at e
 ·obtain ⟨u,rfl,ru⟩:=w1 r1;split at e
  ·rename_i xs ex;obtain ⟨zs,ez,e⟩:=map_some e;cases e;obtain ⟨b,vs,n,rfl,ho,hz,rr⟩:=dQ R1 ru ex;exact all ez rr fun Rr hR=>wpAny_collect_seq b (.inl rfl) ho rfl rfl (fun h2 k=>hR h2 k) (by simpa using hz)
  ·rename_i xs ex;obtain ⟨zs,ez,e⟩:=map_some e;cases e;obtain ⟨b,vs,n,rfl,z,hz,rr⟩:=hH R1 ru ex;exact all ez rr fun Rr hR=>wpAny_collect_seq b (.inr rfl) (R1.z _ _ z) rfl rfl (fun h2 k=>hR h2 k) (by simpa using hz)
  ·cases e
 ·cases e
end
end DL

namespace DL
open PySem PySem.Spec PyProof.Rows L2 CI ST
section
variable {X:Cx} {st:Sta} {d:Nat} {v:Evs} {κ:Kp} {M:Mp} {δ δ':DSt} {h h':aA} {s:Shared} {te:XR W} {i:Nat} {f l:Addr} {vs:List Value} {xs zs:List PyData} {ks:List Int}
noncomputable def bL9 (b:Bool):List (Str×Value):=if b=true then [(Str.ofString "reverse",.bool true)] else []
def aW5 {b:Bool} {zs xs rs:List PyData} (e:byK b zs xs=some rs):xs.length < 64:=by
 unfold byK at e;split at e
 ·cases e
 ·obtain ⟨ks,_,e⟩:=bind_some e;exact (aG e).1.2
def bM0 {A:Around} {b:Bool} {zs rs:List PyData} {h1:aA} {Z:Zm} {a kS:Addr} {us:List Value} {e e1:Nat} {P:PySem.Fin->Shared->Prop} (ek:byK b zs xs=some rs) (ez:gK te δ' i xs h=some (zs,h1)) (hz:∀ a o,Z a=some o->s.heap.get? a=some o) (rz:Paired (Rep X.S Z) zs us) (hk:s.heap.get? kS=some (seqObj "list" us.toArray e)) (ha:s.heap.get? a=some (seqObj "list" #[] e1)) (hka:kS≠a) (vl:xs.length=vs.length)
  (fin:∀ (rv:List Value) c h',rv.length=vs.length->(∀ Z':Zm,Paired (Rep X.S Z') xs vs->Paired (Rep X.S Z') rs rv)->h'.get? a=some (seqObj "list" rv.toArray c)->(∀ b o,b≠a->b≠kS->s.heap.get? b=some o->h'.get? b=some o)->P (.done (.ret .none)) { s with heap:=h' }) :
  Wp X.S A (ksk_end a b vs.toArray e1 (.ref kS) us.toArray) P NE s:=by
 have zl:=aK8 ez;have ul:=rz.length;unfold byK at ek;cases b with
 | true =>
  rw [if_pos rfl] at ek;cases ek
 | false =>
  rw [if_neg (by decide)] at ek;obtain ⟨ks,ek1,e⟩:=bind_some ek;obtain ⟨⟨nd,h6⟩,e⟩:=aG e;cases e;have ia:=jY ek1 rz;have kl:ks.length=xs.length:=by rw [<- ia.length,<- ul,zl]
  exact aK2 (ks:=ks) hk ha hka ia nd (by omega) (by omega) fun ps c h2 hp ho hc hk=>fin (ps.map (·.2)) c h2 (by rw [List.length_map,hp.length_eq,List.length_zip];omega) (fun Z' r=>aL1 nd kl r hp ho) hc hk
def aL2 {n:Nat} {oF:Obj} (R:Mem X.S κ M h s) (ff:aU κ M f) (hf:s.heap.get? f=some oF) (hl:s.heap.get? l=some (bC vs n)) (rv:Reps' X.S M xs vs) {b:Bool} {rs:List PyData} (e:gK te δ' i xs h=some (zs,h')) (ek:byK b zs xs=some rs)
  (turn:∀ {κ':Kp} {M':Mp} {h1 h2:aA} {s1:Shared} {u:Value} {x:PyData} {z:W},(∀ a,κ a≠none->κ' a=κ a)->Le M M'->κ' f=some (true,oF)->Mem X.S κ' M' h1 s1->Rep X.S M'.Z x u->te (δ'.set i (some (.d x))) h1=some (z,h2)->Wp X.S X.A.in1.in1 (call (.ref f) [u]) (Pw X.S κ' M' h2 z) NE s1) :
  Wp X.S X.A (call (.builtin "sorted") [.ref l] ((Str.ofString "key",.ref f)::bL9 b)) (Pf X.S κ M h' rs) NE s:=by
 have vl:=rv.length;have zl:sizeLine=16777216:=sizeLine_eq;have h6:=aW5 ek;refine call_function_entry_kw kind_sorted plain_sorted entry_sorted (by cases b;exact ksk_s1 _ _;exact ksk_s2 _ _ _) ?_;unfold Builtin.«sorted»;refine wpAny_bind (m:=checkCount "sorted" 1 1 _) (wpAny_pure ?_);refine wpAny_bind (collect_list (cD hl).isList ?_ (by rw [zl];omega));refine wpAny_bind (wpAny_newList ?_ (by rw [zl];omega));have hsz:((s.heap.push (seqObj "list" #[] 0)).update s.heap.objs.size (Obj.mapSeq (·++vs.toArray))).objs.size=s.heap.objs.size+1:=by
  rw [Heap.size_update,size_push']
 have hoL:(((s.heap.push (seqObj "list" #[] 0)).update s.heap.objs.size (Obj.mapSeq (·++vs.toArray))).push (seqObj "list" vs.toArray 0)).get? (s.heap.objs.size+1)=some (seqObj "list" vs.toArray 0):=by
  rw [<- hsz];exact Heap.get?_push_size _ rfl
 have keep:∀ b o,s.heap.get? b=some o->(((s.heap.push (seqObj "list" #[] 0)).update s.heap.objs.size (Obj.mapSeq (·++vs.toArray))).push (seqObj "list" vs.toArray 0)).get? b=some o:=fun b o q=>by
  have hlt:b < s.heap.objs.size:=Heap.lt_size q;rw [Heap.get?_push_ne _ _ _ (by rw [hsz];exact Nat.ne_of_lt (Nat.lt_succ_of_lt hlt)),Heap.get?_update_ne _ _ _ _ (Nat.ne_of_lt hlt),Heap.get?_push_ne _ _ _ (Nat.ne_of_lt hlt)];exact q
 have hs1:(((s.heap.push (seqObj "list" #[] 0)).update s.heap.objs.size (Obj.mapSeq (·++vs.toArray))).push (seqObj "list" vs.toArray 0)).objs.size=s.heap.objs.size+2:=by rw [size_push',hsz]
 show wpAny _ _ _ _ _ { s with heap:=((s.heap.push (seqObj "list" #[] 0)).update s.heap.objs.size (Obj.mapSeq (·++vs.toArray))).push (seqObj "list" vs.toArray 0) };rw [hsz];generalize (((s.heap.push (seqObj "list" #[] 0)).update s.heap.objs.size (Obj.mapSeq (·++vs.toArray))).push (seqObj "list" vs.toArray 0))=H1 at hoL keep hs1;refine wpAny_bind (wpAny_holding (wpAny_call_entry_kw slot_list_sort ⟨_,hoL,rfl⟩ entry_list_sort ?body (by cases b;exact ksk_l1 _ _;exact ksk_l2 _ _ _)))
 case body =>
  show wpAny (model X.S.P X.S.w) X.A.in1.in1 (Builtin.«list.sort» ⟨[.ref (s.heap.objs.size+1)],(Str.ofString "key",.ref f)::bL9 b⟩) _ _ _;rw [show Builtin.«list.sort» ⟨[.ref (s.heap.objs.size+1)],(Str.ofString "key",.ref f)::bL9 b⟩=ksk_tree (s.heap.objs.size+1) (.ref f) b by cases b;exact ksk_t1 _ _;exact ksk_t2 _ _ _];have fa:aU κ M (s.heap.objs.size+1):=R.new (Heap.get?_none_of_le (Nat.le_succ _));have fk:aU κ M (s.heap.objs.size+3):=R.new (Heap.get?_none_of_le (by omega));have la:∀ {b o},s.heap.get? b=some o->b < s.heap.objs.size:=fun q=>Heap.lt_size q;have nfa:f≠s.heap.objs.size+1:=Nat.ne_of_lt (Nat.lt_succ_of_lt (la hf));have nfk:f≠s.heap.objs.size+3:=Nat.ne_of_lt (Nat.lt_add_right 3 (la hf));have nak:s.heap.objs.size+3≠s.heap.objs.size+1:=by simp
  generalize ea:s.heap.objs.size+1=a at hoL fa nfa nak;have al:∀ {b o},s.heap.get? b=some o->b≠a:=fun q=>by rw [<- ea];exact Nat.ne_of_lt (Nat.lt_succ_of_lt (la q))
  obtain ⟨e1,ho1⟩:∃ e1,(H1.update a (Obj.mapSeq fun _=>(#[]:Array Value))).get? a=some (seqObj "list" #[] e1):=⟨_,get?_update_seq hoL fun _=>#[]⟩;have s1:=Heap.SameBut.update H1 a (Obj.mapSeq fun _=>(#[]:Array Value));have hs2:(H1.update a (Obj.mapSeq fun _=>(#[]:Array Value))).objs.size=s.heap.objs.size+2:=by rw [Heap.size_update,hs1]
  unfold ksk_tree;refine wpAny_bind (listItems_at hoL rfl ?_);refine wpAny_bind (listUpdate_at hoL rfl ?_ (by rw [List.size_toArray,zl];omega) (Nat.zero_le _));refine wpAny_bind (seqEpoch_at ho1 rfl ?_);refine wpAny_bind (wpAny_newTuple ?_ (by show vs.length<=_;rw [zl];omega));refine wpAny_bind (wpAny_newList ?_ (Nat.zero_le _));refine wpAny_holding ?_;have kz:((H1.update a (Obj.mapSeq fun _=>(#[]:Array Value))).push (seqObj "tuple" vs.toArray 0)).objs.size=s.heap.objs.size+3:=by rw [size_push',hs2]
  have hk0:(((H1.update a (Obj.mapSeq fun _=>(#[]:Array Value))).push (seqObj "tuple" vs.toArray 0)).push (seqObj "list" #[] 0)).get? (s.heap.objs.size+3)=some (bC [] 0):=by rw [<- kz];exact Heap.get?_push_size _ rfl
  have ha0:(((H1.update a (Obj.mapSeq fun _=>(#[]:Array Value))).push (seqObj "tuple" vs.toArray 0)).push (seqObj "list" #[] 0)).get? a=some (bC [] e1):=Heap.get?_push_of_some _ (Heap.get?_push_of_some _ ho1);have keep2:∀ b o,s.heap.get? b=some o->(((H1.update a (Obj.mapSeq fun _=>(#[]:Array Value))).push (seqObj "tuple" vs.toArray 0)).push (seqObj "list" #[] 0)).get? b=some o:=fun b o q=>Heap.get?_push_of_some _ (Heap.get?_push_of_some _ ((s1.2 b (al q)).trans (keep b o q)));show wpAny _ _ (ksk_rest a (.ref f) b vs.toArray e1 (.ref ((H1.update a (Obj.mapSeq fun _=>(#[]:Array Value))).push (seqObj "tuple" vs.toArray 0)).objs.size)) _ _ { s with heap:=((H1.update a (Obj.mapSeq fun _=>(#[]:Array Value))).push (seqObj "tuple" vs.toArray 0)).push (seqObj "list" #[] 0) };rw [kz];generalize ((H1.update a (Obj.mapSeq fun _=>(#[]:Array Value))).push (seqObj "tuple" vs.toArray 0)).push (seqObj "list" #[] 0)=H2 at hk0 ha0 keep2;generalize s.heap.objs.size+3=kS at fk nfk nak hk0;have R1:Mem X.S κ M h { s with heap:=H2 }:=R.kept (t:=s.toks) keep2;have R2:=R1.more (b:=true) ⟨ff.1,ff.2.2⟩ (keep2 _ _ hf);have R3:=R2.more (b:=true) ⟨fa.1,fa.2.2⟩ ha0;have R4:=R3.more (b:=true) ⟨fk.1,fk.2.2⟩ hk0;refine aK9 (a:=a) (κ1:=(κ.up f (true,oF)).up a (true,bC [] e1)) (zs:=zs) (h':=h') (fun o {M' h1 h2 s1 u x z} l R' r' e'=>turn (fun b hb=>?_) l ?_ R' r' e') R4 rv h6 e fun M' us m s' l R' rz=>?_
  ·rw [bN fun q=>hb (by rw [q];exact fk.2.1),bN fun q=>hb (by rw [q];exact fa.2.1),bN fun q=>hb (by rw [q];exact ff.2.1)]
  ·rw [bN nfk,bN nfa,dY]
  ·have kk:(((κ.up f (true,oF)).up a (true,bC [] e1)).up kS (true,bC us m)) a=some (true,bC [] e1):=by rw [bN (Ne.symm nak),dY]
   have kf:∀ b x,κ b=some x->(((κ.up f (true,oF)).up a (true,bC [] e1)).up kS (true,bC us m)) b=some x:=fun b x q=>by
    rw [bN (a:=kS) (fun q2=>by rw [q2,fk.2.1] at q;cases q),bN (a:=a) (fun q2=>by rw [q2,fa.2.1] at q;cases q),bN (a:=f) (fun q2=>by rw [q2,ff.2.1] at q;cases q)];exact q
   refine bM0 ek e R'.z rz ((R'.k kS true _ dY).1 rfl) ((R'.k a true _ kk).1 rfl) nak vl fun rv' c h2 hlr hr hc hk=>⟨_,rfl,wpAny_pure ⟨_,rfl,?_⟩⟩;have R5:Mem X.S κ M' h' s':=R'.less kf;have fA:aU κ M' a:=⟨(R'.k a true _ kk).2.2,fa.2.1,R'.kc kk⟩;have fK:aU κ M' kS:=⟨(R'.k kS true _ dY).2.2,fk.2.1,R'.kc dY⟩;refine ⟨M',l,R5.keep (s':={ s' with heap:=h2 }) (fun b o q nf=>hk b o (fun z=>nf (by rw [z];exact fA)) (fun z=>nf (by rw [z];exact fK)) q) R5.bare rfl,a,rv',c,rfl,hc,fA,?_,hr _ (Reps'.go l rv)⟩;omega
def aL3 {a:Arg} (fd:FuncData) (hp:fd.params=⟨[],[a],none,[],[],none,[]⟩) (h1:fd.defaults=.none) (h2:fd.kwdefaults=.none) (u:Value):bindArgs fd ⟨[u],[]⟩=pure [(a.arg,u)]:=by
 unfold bindArgs;rw [hp,h1,h2];simp [show seqItems? Value.none=pure none from rfl,List.lookup]
def aL4 {A:Around} {sc:Scope} {q:Str} {L f cc:Addr} {cl:List (Str×Addr)} {qp:Str×Pos} (G:Good X st d) (lk:LamOk X d qp):Good (cxL X X.A.in1.in1 (iY sc) sc q L f cc cl) (st.lam sc) d:=by
 refine ⟨G.bl,G.gc,G.tk,G.fn,G.fnW,G.cls,G.om,G.fo,rfl,rfl,(fun z=>nomatch z),⟨G.rm.hd,?_,?_⟩,G.hm,fun q z=>nomatch z⟩
 ·have:=lk.dp;show X.A.depth+1+3*d+5 < _;omega
 ·have:=lk.un;show X.A.units+1+1+3+16*d+200 < _;omega
def bM1 {kws:List Keyword} {a:Arg} {body:Expr} {sc:Scope} {lp:Pos} {b:Bool} (e:tP kws=some ((a,body,sc,lp),b)):∃ p1 r,kws=⟨some "key",.Lambda ⟨[],[a],none,[],[],none,[]⟩ body sc lp,p1⟩::r/\((b=false/\r=[])\/(b=true/\∃ j p3 p2,r=[⟨some "reverse",.Constant (.bool true) j p3,p2⟩])):=by
 unfold tP at e;obtain ⟨y,_,ey⟩:=Option.map_eq_some_iff.mp e;have h:=y.2;rw [ey] at h;exact h
def bX9 (S:Snd v) (G:Good X st d) {a:Expr} {kws:List Keyword} {p pos:Pos} (hx:(cV st "sorted"&&(slot st "sorted").isNone&&st.bl.contains "sorted")=true):SF X (.Call (.Name "sorted" p) [a] kws pos) (aU4 v st a kws):=by
 intro κ M δ h s w h' R F e;unfold aU4 at e;obtain ⟨q,eq⟩:∃ q,st.qn=some q:=by
  cases eq:st.qn with
  | none=>rw [eq] at e;cases e
  | some q=>exact ⟨q,rfl⟩
 obtain ⟨⟨⟨ar,body,sc,lp⟩,r⟩,el⟩:∃ y,tP kws=some y:=by
  cases el:tP kws with
  | none=>rw [eq,el] at e;cases e
  | some y=>exact ⟨y,rfl⟩
 rw [eq,el] at e;dsimp only at e;obtain ⟨p1,rr,rfl,hr⟩:=bM1 el;obtain ⟨hb,e⟩:aU3 st q ar sc lp=true/\(match (iY sc).findIdx? (·==ar.arg) with
  | some i=>xb (aX v st [a]) fun ws=>(match ws with
   | [w]=>nO r (v.E (st.lam sc) body) (fH st.N sc) i (q.1++"<lambda>") lp w
   | _=>xno)
  | none=>xno) δ h=some (w,h'):=by
  by_cases hb:aU3 st q ar sc lp=true
  ·rw [if_pos hb] at e;exact ⟨hb,e⟩
  ·rw [if_neg hb] at e;cases e
 obtain ⟨i0,ei⟩:∃ i,(iY sc).findIdx? (·==ar.arg)=some i:=by
  cases ei:(iY sc).findIdx? (·==ar.arg) with
  | none=>rw [ei] at e;cases e
  | some i=>exact ⟨i,rfl⟩
 rw [ei] at e;obtain ⟨ws,h1,e1,e⟩:=aF e;have LK:=G.qn q eq;obtain ⟨c0,ec,T⟩:=LK.code;obtain ⟨b1,b2,b3⟩:=gQ G hx;have hst:=eZ e1;rw [List.all_cons,Bool.and_eq_true] at hst;unfold aU3 at hb;simp only [Bool.and_eq_true,decide_eq_true_eq,Bool.not_eq_true'] at hb;obtain ⟨rfl,hc,hco,hg,hloc⟩:=hb;have SC:CompSc X.N (iY sc) (fH st.N sc) X.env.scope sc:=by rw [G.N,G.S];exact jX hc
 obtain ⟨cl,ecl,hcl1,hcl2⟩:=fM (sc:=sc) (env:=X.env) fun y hy hf=>F.ok.has y.1 (SC.free y hy hf);rcases hr with ⟨rfl,rfl⟩ | ⟨rfl,j,p3,p2,rfl⟩
 all_goals
  refine wpAny_Call_Name_kw (gO (u:=.builtin "sorted") F R b2 b3 (by decide +kernel) b1 ?_);refine callWith_kw (e:=a) (rest:=[]) ?_ (by show _=_;unfold backTo;rw [bS a hst.1];rfl) (by have:=cL pos [] (by rfl) (X:=X);show _=_;unfold backTo;rw [bS a hst.1];rfl);refine thn (bU S G _ pos R F e1) fun us s1 ⟨M1,l1,R1,r1⟩=>?_;obtain ⟨wa,rfl⟩:∃ w,ws=[w]:=by
   rcases ws with _ | ⟨w,_ | ⟨_,_⟩⟩
   ·cases e
   ·exact ⟨w,rfl⟩
   ·cases e
  obtain ⟨u,rfl,ru⟩:=w1 r1
  change nO _ (v.E (st.lam sc) body) (fH st.N sc) i0 (q.1++"<lambda>") q.2 wa δ h1=some (w,h') at e
  unfold nO at e;split at e
  case h_2=>cases e
  rename_i xs ts ex eh;obtain ⟨ts',et,e⟩:=bind_some e;obtain ⟨⟨zs,h2⟩,ez,e⟩:=bind_some e;obtain ⟨rs,ek,e⟩:=map_some e;cases e;have F1:=F.go l1;refine kws_cons (thn (aK6 (qs':=ts') R1 F1 T ec ecl rfl eh (by rw [LK.qual];exact et)) fun uf s2 ⟨f,cc,pm,ctv,M2,euf,l2,R2,ff,hf,hcz⟩=>?_);subst euf
  first | refine kws_cons (Constant_bool (kws_nil ?_)) | refine kws_nil ?_
  have F2:=F1.go l2;have ex2:ref (h1.set 0 (.t ts')) wa=some (.list xs):=by
   cases wa with
   | d y=>exact ex
   | c k =>
    dsimp only [DL.ref] at ex ⊢
    by_cases hk:k=0
    ·subst hk;rw [eh] at ex;cases ex
    ·rw [List.getElem?_set_ne (Ne.symm hk)];exact ex
  obtain ⟨l,vs,n,rfl,hl,hz,rv⟩:=dQ R2 (ru.go l2) ex2;have hp:(iY sc)[i0]?=some ar.arg:=by
   obtain ⟨z1,z2,_⟩:=List.findIdx?_eq_some_iff_getElem.mp ei;rw [List.getElem?_eq_getElem z1,eq_of_beq z2]
  have hi:(fH st.N sc)[i0]?=some none:=by
   unfold fH;rw [List.getElem?_map,hp];show some (if sc.names.lookup ar.arg=some NameKind.free then _ else _)=_;rw [hloc,if_neg (by decide)]
  refine thn (aL2 R2 ff hf hl rv ez ek fun {κ' M' h3 h4 s3 u x z} hκ l3 kf R3 r3 e3=>?_) fun _ _ q=>Pf.go (l1.trans l2) q;have FX:Fra X κ' M' δ:=(F2.go l3).kp fun b hb=>hκ b (F2.mine hb);have hf3:=(R3.k f true _ kf).1 rfl;obtain ⟨oc,vs',t,z1,z2,z3⟩:=hcz;exact aW3 (A:=X.A.in1.in1) (w:=.d x) (by have:=LK.dp;show X.A.depth < _;omega) rfl FX.frs R3 FX SC hcl1 hcl2 hf3 ⟨cc,oc,vs',t,rfl,R3.z _ _ (l3.z _ _ z1),z2,z3⟩ (fun fd q1 q2 q3=>aL3 fd q1 q2 q3 u) hco hg hp hloc hi r3 (fun L=>S.E (aL4 (A:=X.A) G LK) body) e3
 end
end DL

namespace DL
open PySem PySem.Spec PyProof.Rows L2 CI
section
variable {X:Cx} {st:Sta} {d:Nat} {v:Evs} {κ:Kp} {M:Mp} {δ:DSt} {h h':aA} {s:Shared} {a b c e o tg iter:Expr} {es:List Expr} {pos p p2 apos:Pos} {x m:Str} {w:W}
def rU (h:tS e=false) (o i:Value):subscripted e false o i=operate [o,i] (getItem o i):=by
 cases e<;>first | rfl | cases h
def cM0 (S:Snd v) (G:Good X st d) (hs:tS b=false):SE X (.Subscript a b pos) (xb (v.E st a) fun x=>xb (v.E st b) fun y=>fun _ h=>xIx x y h):=fun _ _ _ _ _ _ _ R F e =>
 Subscript_ (two (S.E G a) (S.E G b) R F e fun R1 _ ra rb e=>bE0 G.rm R1 ra rb e (rU hs))
theorem bY0 (S:Snd v) (G:Good X st d) {f:Str->Option PyData} (hf:jS st a=some f) (hs:tS b=false):SE X (.Subscript a b pos) (xb (v.E st b) fun w=>(match w with
    | .d (.str z)=>(match f z with
     | some i=>aD (.d i)
     | none=>xno)
    | _=>xno)):=by
 intro κ M δ h s w h' R F e;obtain ⟨y,p,p',rfl,hn,hg,hm,T⟩:=aI4 G hf;obtain ⟨x,h1,e1,e⟩:=aF e;refine Subscript_ (fU F R hg hm hn (thn (S.E G b R F e1) fun u s1 ⟨M1,l1,R1,r1⟩=>?_));obtain ⟨g,m,g0,g1,g2⟩:=T.map (prog:=X.S.P) (F.ok.mod.kin.keeps R1.bk);rcases x with (_ | _ | _ | z | _ | _ | _) | _<;>first | cases e;done | skip
 obtain ⟨⟨t,rfl⟩,_⟩:=rep_s.mp (show Rep X.S M1.Z _ _ from r1);have e:(match f z with
  | some i=>aD (.d i)
  | none=>xno:XR W) δ h1=some (w,h'):=e
 cases ei:f z with
 | some i =>
  rw [ei] at e;cases e;obtain ⟨t',q',rq⟩:=g1 z i ei;exact aU7 m.typeIs PySem.F.slot_dict_getitem.lookup (rU hs _ _) (wpAny_getItem_of (rM z t) m q' (((R1.tok _).pw (w:=.d i) (show Rep X.S M1.Z i t' from Rep.go R1.base rq)).go l1))
 | none=>rw [ei] at e;cases e
def aW6:SE X (.Dict [] [] pos) (aD (.d (.dict []))):=by
 intro κ M δ h s w h' R F e;cases e;refine wpAny_Dict_empty ?_;have hd:(s.heap.push { cls:=.type "dict",data:=.dict #[] }).DictOf (mX X.S.P X.S.w) s.heap.objs.size []:=Heap.DictOf.new s.heap;obtain ⟨o,es,ep,ho,hr⟩:=hd;have R1:Mem X.S κ M h { s with heap:=s.heap.push { cls:=.type "dict",data:=.dict #[] } }:=R.kept (t:=s.toks) fun b o e=>Heap.get?_push_of_some _ e;refine ⟨M.add s.heap.objs.size o,Le.add R.size.1,R1.frz R.size ho,?_⟩;exact (aF3 (S:=X.S) (Z:=(M.add s.heap.objs.size o).Z) rfl).mpr ⟨_,o,[],rfl,gY,⟨yK F R,Nat.zero_le _,fun h2 e2=>⟨o,es,ep,e2,hr⟩⟩,.nil⟩
def bY1 {S:Sx} (hS:S.hm=false):BfS S (.builtin "min") xMn:=by
 intro κ M h h' s A E ws us w d hr hk hK hsm R r e;unfold xMn at e;split at e
 ·cases e;obtain ⟨u,v,rfl,ra,rb⟩:=w2 r;obtain ⟨t,rfl⟩:=wi.mp ra;obtain ⟨t',rfl⟩:=wi.mp rb;rename_i a b;refine min_two_ints (hr.hd hS) fun h2 tk k=>(R.kept (t:=tk) k).pw (wi.mpr ?_)
  by_cases z:b < a
  ·rw [if_pos z];exact ⟨t',by rw [Int.min_eq_right (Int.le_of_lt z)]⟩
  ·rw [if_neg z];exact ⟨t,by rw [Int.min_eq_left (Int.not_lt.mp z)]⟩
 ·cases e
def aW7 {S:Sx} {g:List W->aA->Option (W×aA)} (h:bI3 S.hm x=some g):∃ f,bootBuiltins x=some f/\((∃ i,f=.builtin i)\/∃ i,f=.type i)/\BfS S f g:=by
 unfold bI3 at h;split at h
 ·rename_i e;cases h;subst e;exact ⟨_,by decide +kernel,.inl ⟨_,rfl⟩,bU7⟩
 split at h
 ·rename_i e;cases h;subst e;exact ⟨.type "tuple",by decide +kernel,.inr ⟨_,rfl⟩,aU8⟩
 split at h
 ·rename_i e;cases h;subst e;exact ⟨.builtin "all",by decide +kernel,.inl ⟨_,rfl⟩,bU8⟩
 split at h
 ·rename_i e;cases h;subst e;exact ⟨.type "int",by decide +kernel,.inr ⟨_,rfl⟩,bV0⟩
 split at h
 ·rename_i e;subst e
  by_cases hS:S.hm=true
  ·rw [if_pos hS] at h;cases h
  ·rw [if_neg hS] at h;cases h;exact ⟨.builtin "min",by decide +kernel,.inl ⟨_,rfl⟩,bY1 (by simpa using hS)⟩
 split at h
 ·rename_i e;cases h;subst e;exact ⟨.builtin "any",by decide +kernel,.inl ⟨_,rfl⟩,bU9⟩
 ·cases h
def aL5 (S:Snd v) (G:Good X st d):SF X (.Call (.Name x p) (a::es) [] pos) (cC v st (.Call (.Name x p) (a::es) [] pos)):=by
 unfold cC;dsimp only;split
 ·rename_i hx;subst hx;split
  ·rename_i hc;exact bX3 S G hc
  ·exact iZ
 ·split
  ·rename_i hx;subst hx;split
   ·rename_i hc;exact bX8 S G hc
   ·exact iZ
  ·exact iZ
def jO (S:Snd v) (G:Good X st d) (e:Expr):SF X e (cC v st e):=by
 cases e with
 | List es p=>exact aI5 S G
 | ListComp elt gs sc p =>
  rcases gs with _ | ⟨⟨tg,iter,ifs,a⟩,_ | ⟨_,_⟩⟩
  ·exact iZ
  ·by_cases ha:a=0
   ·subst ha;exact bK5 S (lA S) G
   ·have:cC v st (.ListComp elt [⟨tg,iter,ifs,a⟩] sc p)=xno:=if_neg ha;rw [this];exact iZ
  ·exact iZ
 | BinOp a op b p =>
  cases op with
  | Add=>exact bX0 S G
  | Mult =>
   cases a with
   | List es p'=>exact bX2 S G
   | _=>exact iZ
  | _=>exact iZ
 | Call f args kw p =>
  cases f with
  | Name x px =>
   rcases args with _ | ⟨a,es⟩
   ·exact iZ
   ·rcases kw with _ | ⟨k,ks⟩
    ·exact aL5 S G
    ·rcases es with _ | ⟨_,_⟩
     ·show SF X _ (if x="sorted" then (if okC st x then aU4 v st a (k::ks) else xno) else xno)
      by_cases hx:x="sorted"
      ·subst hx;rw [if_pos rfl]
       by_cases hc:okC st "sorted"=true
       ·rw [if_pos hc];exact bX9 S G hc
       ·rw [if_neg hc];exact iZ
      ·rw [if_neg hx];exact iZ
     ·exact iZ
  | _=>exact iZ
 | _=>exact iZ
end
end DL

namespace ST
open PySem PySem.Spec PyProof.Rows
section
variable {prog:Program} {w:World} {A:Around} {E:Value->Shared->Prop} {s:Shared} {R:Result->Shared->Prop}
def bM2 (ns:List Int):(dd ns).length<=ns.length:=by
 rw [<- aG7];exact firstMet_length_le _ _
end
end ST
namespace DL
open PySem PySem.Spec PyProof.Rows L2 CI ST
section
variable {X:Cx} {st:Sta} {d:Nat} {v:Evs} {a:Expr} {p p2 pos pos2:Pos}
def aL6 (G:Good X st d) {x:Str} (h:okB st x=true):(cV st x&&(slot st x).isNone&&st.bl.contains x)=true:=by
 unfold okB at h;rw [Bool.and_eq_true] at h;exact h.1
def bM3 (S:Snd v) (G:Good X st d) (hh0:(!st.hm)=true) (h1:okB st "len"=true) (h2:okB st "set"=true) (hs:aI a=true):SE X (.Call (.Name "len" p) [.Call (.Name "set" p2) [a] [] pos2] [] pos) (xb (aX v st [a]) fun ws=>fun _ h=>xLS ws h):=by
 intro κ M δ h s w h' R F e;obtain ⟨ws,hh,e1,e⟩:=aF e;obtain ⟨n1,n2,n3⟩:=gQ G (aL6 G h1);refine wpAny_Call_Name_kw (gO (u:=.builtin "len") F R n2 n3 (by decide +kernel) n1 ?_);refine PyProof.Rows.callWith_builtin1 (yL (by rfl) ?_) rfl rfl;refine rR (f:=.type "set") S G (aL6 G h2) (by decide +kernel) (.inr ⟨_,rfl⟩) R F e1 fun {M1 us s1} l1 R1 r1=>?_;have sb:scanBound=4096:=rfl;have fin:∀ {ns:List Int} {h2:Heap} {tk2:Nat},ns.length<=62->SetI X.S.P X.S.w h2 s1.heap.objs.size (dd ns)->(∀ b o,s1.heap.get? b=some o->h2.get? b=some o)->Wp X.S X.A (call (.builtin "len") [.ref s1.heap.objs.size]) (Pw X.S κ M hh (.d (.int (dd ns).length))) NE { s1 with heap:=h2,toks:=tk2 }:=fun {ns h2 tk2} hn si k2=>by
  obtain ⟨o,es,ep,tt,ho,pt⟩:=si;have hsz:es.size=(dd ns).length:=by
   have:=pt.ks.length_eq
   simpa using this
  have hd:=bM2 ns;refine call_len_set ho pt.ex pt.dat pt.fit (by omega) ?_;rw [hsz];exact ((R1.kept (t:=tk2) k2).tok _).pi.go l1
 unfold xLS at e;rcases ws with _ | ⟨x,_ | ⟨y,ws⟩⟩
 ·cases e
 ·obtain ⟨u,rfl,ru⟩:=w1 r1;cases x with
  | c _=>cases e
  | d x =>
   cases x with
   | tuple xs =>
    dsimp only at e;cases en:dG xs with
    | none=>rw [en] at e;cases e
    | some ns =>
     rw [en] at e;obtain ⟨hn,e⟩:=aG e;cases e;obtain ⟨b,vs,n,rfl,z,hz,rr⟩:=hH (h:=h') R1 ru rfl;have hi:=jY en rr;exact lX (b:=true) (G.nh hh0) (show s1.heap.IsTuple b vs.toArray from hO (R1.z _ _ z)) (by simpa using hi) (by have:=hi.length;simp;omega) fun h2 tk2 si k2=>fin hn si k2
   | list xs =>
    dsimp only at e;cases en:dG xs with
    | none=>rw [en] at e;cases e
    | some ns =>
     rw [en] at e;obtain ⟨hn,e⟩:=aG e;cases e;obtain ⟨b,vs,n,rfl,ho,hz,rr⟩:=dQ (h:=h') R1 ru rfl;have hi:=jY en rr;exact lX (b:=false) (G.nh hh0) (cD ho).isList (by simpa using hi) (by have:=hi.length;simp;omega) fun h2 tk2 si k2=>fin hn si k2
   | _=>cases e
 ·rcases x with x | _<;>first | (cases e;done) | (cases x<;>cases e)
end
end DL

namespace DL
open PySem PySem.Spec PyProof.Rows L2 CI
section
variable {X:Cx} {st:Sta} {d:Nat} {v:Evs} {κ:Kp} {M:Mp} {δ:DSt} {h h':aA} {s:Shared} {a b c e o tg iter:Expr} {es:List Expr} {pos p p2 apos:Pos} {x m:Str} {w:W}
def bM4 (S:Snd v) (G:Good X st d) {p:Pos} {args:List Expr} (hx:(cV st "isinstance"&&(slot st "isinstance").isNone&&st.bl.contains "isinstance")=true):SE X (.Call (.Name "isinstance" p) args [] pos) (bI8 v st args):=by
 unfold bI8;cases bU3 args with
 | some y =>
  obtain ⟨⟨e,T⟩,q,rfl⟩:=y;dsimp only;split
  ·rename_i hc;simp only [Bool.and_eq_true] at hc;split
   ·rename_i Ts hT;exact bX4 S G hx hc.1.1.1 (by rw [hc.1.1.2,hc.1.2,hc.2];rfl) hT
   ·exact dI
  ·exact dI
 | none=>exact dI
def bY2 (S:Snd v) (G:Good X st d) {o:Expr} {m:Str} {apos:Pos} {args:List Expr}:SE X (.Call (.Attribute o m apos) args [] pos) (bI9 v st o m apos pos args):=by
 unfold bI9;split
 ·rename_i hc;rw [Bool.and_eq_true] at hc;rcases args with _ | ⟨a,es⟩
  ·dsimp only;split
   ·rename_i hm;subst hm;exact bL2 S G hc.1 hc.2
   ·exact dI
  ·dsimp only;split
   ·rename_i hn;split
    ·rename_i g hg;exact bL3 S G hg hc.1 hc.2 (by simpa using hn)
    ·exact dI
   ·exact dI
 ·exact dI
def bM5 (S:Snd v) (G:Good X st d) {f:Expr} {args:List Expr}:SE X (.Call f args [] pos) (yB v st f args pos):=by
 cases f with
 | Name x p =>
  unfold yB;dsimp only;split
  ·rename_i ht;rw [Bool.and_eq_true] at ht;split
   ·rename_i m hm;rcases args with _ | ⟨a,es⟩
    ·exact dI
    ·exact aJ1 S G ht.1 (G.fnW _ _ hm)
   ·split
    ·exact dI
    ·split
     ·rename_i m hm;rcases args with _ | ⟨a,es⟩
      ·exact dI
      ·exact aJ1 S G ht.1 (G.fn _ _ hm)
     ·split
      ·rename_i hbl;have hx:(cV st x&&(slot st x).isNone&&st.bl.contains x)=true:=by rw [ht.1,ht.2,hbl];rfl
       split
       ·rename_i g hg;rcases args with _ | ⟨a,es⟩
        ·exact dI
        ·obtain ⟨f,h1,h2,h3⟩:=aW7 (S:=X.S) (G.hm ▸ hg);exact cL9 S G hx h1 h2 h3
       ·split
        ·rename_i hi;subst hi;exact bM4 S G hx
        ·rcases args with _ | ⟨a,es⟩
         ·exact oA iZ
         ·exact oA (aL5 S G)
      ·exact dI
  ·split
   ·rcases args with _ | ⟨a,es⟩
    ·exact dI
    ·exact bK7 S G
   ·exact dI
 | Attribute o m apos =>
  unfold yB;dsimp only;split
  ·exact dI
  ·exact bY2 S G
 | _=>exact dI
def bM6 (S:Snd v) (G:Good X st d) {f:Expr} {args:List Expr}:SE X (.Call f args [] pos) (aH3 v st f args pos):=by
 unfold aH3;cases hq:fuS f args with
 | none=>exact bM5 S G
 | some y =>
  obtain ⟨a,p,p2,q,rfl,rfl⟩:=y;dsimp only;split
  ·rename_i hc;simp only [Bool.and_eq_true] at hc;exact bM3 S G hc.2 hc.1.1.1 hc.1.1.2 hc.1.2
  ·exact dI
def bM7 (S:Snd v) (G:Good X st d) (e:Expr):SE X e (yC v st e):=by
 cases e with
 | Name x p=>exact aI2 G
 | Constant c k p=>exact aV1
 | BinOp a op b p =>
  unfold yC;dsimp only;split
  ·rename_i es p';have:cC v st (.BinOp (.List es p') .Mult b p')=cC v st (.BinOp (.List es p') .Mult b p):=rfl;rw [this];exact oA (jO S G _)
  ·exact bV7 S G
 | Compare a ops cs p=>exact bL1 S G
 | BoolOp op vs p =>
  cases op with
  | And=>exact aI3 S G vs
  | Or=>exact bE1 S G vs
 | UnaryOp op a p =>
  cases op with
  | Not=>exact bV8 S G
  | USub=>exact bV9 S G
  | _=>exact dI
 | IfExp c a b p=>exact bW0 S G
 | Tuple es k p=>exact bW4 S G
 | List es p=>exact oA (jO S G _)
 | ListComp elt gs sc p =>
  show SE X _ (match gW st gs with
   | some (tg,iter,ifs)=>rG v st elt tg iter ifs sc
   | none=>aO (cC v st (.ListComp elt gs sc p)))
  split
  ·rename_i tg iter ifs e;rw [bW9 e];exact aV4 S G
  ·exact oA (jO S G _)
 | Subscript a b p =>
  unfold yC;dsimp only;split
  ·exact bX1 S G
  ·split
   ·exact dI
   ·rename_i hs;have hs:tS b=false:=by simpa using hs
    split
    ·rename_i f hf;exact bY0 S G hf hs
    ·exact cM0 S G hs
 | Call f args kw p =>
  rcases kw with _ | ⟨k,ks⟩
  ·exact bM6 S G
  ·exact oA (jO S G _)
 | Dict ks vs p =>
  rcases ks with _ | ⟨_,_⟩
  ·rcases vs with _ | ⟨_,_⟩
   ·exact aW6
   ·exact dI
  ·exact dI
 | _=>exact dI
theorem bE8 (S:Snd v) (G:Good X st d) (he:∀ whole,isTrue e X.env whole=(do let v <- whole;standAt e.pos;holding [v] (truthy v))):ST X e (xb (v.E st e) fun w=>(match w with
  | .d (.bool b)=>aD b
  | _=>xno)):=by
 intro κ M δ h s w h' R F e';obtain ⟨x,h1,e1,e'⟩:=aF e';refine isTrue_plain (thn (S.E G e R F e1) fun u s1 ⟨M1,l1,R1,r1⟩=>?_) (he _);rcases x with (_ | b | _ | _ | _ | _ | _) | _<;>first | cases e';done | skip
 cases e';cases wb.mp r1;exact wpAny_truthy_bool ⟨rfl,M1,l1,R1⟩
def bM8 (S:Snd v) (G:Good X st d) (e:Expr):ST X e (bD8 v st e):=by
 cases e with
 | UnaryOp op a p =>
  cases op with
  | Not =>
   intro κ M δ h s w h' R F e;obtain ⟨x,h1,e1,e⟩:=aF (show xb (v.T st a) (fun b=>aD (!b)) δ h=some (w,h') from e);cases e;exact isTrue_not (thn (S.T G a R F e1) fun c s1 ⟨ec,q⟩=>⟨by rw [ec],q⟩)
  | _=>exact bE8 S G fun _=>rfl
 | BoolOp op vs p =>
  cases op with
  | And=>exact bE2 S G vs _
  | Or=>exact bW1 S G vs _
 | Compare a ops cs p=>exact bW3 S G
 | IfExp a b c p=>exact fun _ _ _ _ _ _ _ _ _ e=>by cases e
 | _=>exact bE8 S G fun _=>rfl
def aB9:SG X e (fun _ _ _=>none):=fun _ _ _ _ _ _ _ _ _ _ _ _ e=>by cases e
def wT (h:tS b=false) (v:Value):assign (.Subscript a b pos) X.env v=(do
   let ov <- holding [v] (eval a X.env)
   let iv <- holding [v,ov] (eval b X.env)
   standAt pos
   holding [v,ov,iv] (setItem ov iv v)
   release [v,ov,iv] []):=by
 cases b<;>first | rfl | cases h
def bM9 (S:Snd v) (G:Good X st d) (e:Expr):SG X e (tV v st e):=by
 cases e with
 | Name x p =>
  unfold tV;dsimp only;split
  ·rename_i i hi;split
   ·rename_i hl;exact bK1 G hi hl
   ·exact aB9
  ·exact aB9
 | Tuple es k p =>
  unfold tV;dsimp only;split
  ·rename_i hs;exact bW6 S G hs
  ·exact aB9
 | Subscript a b p =>
  unfold tV;dsimp only;split
  ·exact aB9
  ·rename_i hs;exact bW7 S G (wT (by simpa using hs))
 | _=>exact aB9
end
end DL

namespace DL
open PySem PySem.Spec PyProof.Rows L2 CI
section
variable {X:Cx} {st:Sta} {d:Nat} {v:Evs} {κ:Kp} {M:Mp} {δ:DSt} {h h':aA} {s:Shared} {a b c e o tg iter:Expr} {es:List Expr} {pos p p2 apos px:Pos} {x m:Str} {w:W} {i:Nat}
def cQ (h:jN e=false) (t:Option Expr) (l:Nat) (env:Env):swapsWith e t l env=pure false:=by
 cases e<;>first | rfl | cases h
def uD (F:Fra X κ M δ) (G:Good X st d) {elt:Expr} {gs:List Comprehension} {sc:Scope} {l:Nat} :
  swapsWith (.ListComp elt gs sc p) (some (.Name x px)) l X.env=pure (swB st (.ListComp elt gs sc p) x px):=by
 show (pure (X.env.blockKind==.function&&X.env.kindOf x==some .local&&px.line==p.line&&!(sc.names.any fun (n,k)=>n==x&&(k==.local||k==.cell))):Sem Bool)=_;unfold swB;dsimp only;have e1:(X.env.blockKind==.function)=true:=by unfold Env.blockKind;rw [F.ok.kind];rfl
 have e2:(X.env.kindOf x==some .local)=dH st.S x:=by
  unfold Env.kindOf dH;rw [G.S];cases q:st.S.names.lookup x with
  | none=>rfl
  | some k=>cases k<;>rfl
 rw [e1,e2,Bool.true_and]
def wU (h:aU5 e tg=false) (env:Env):swappedStores [tg] e env=pure none:=by
 cases tg<;>first | rfl | (cases e<;>first | rfl | cases h)
def aW8 (h:aI e=true) (env:Env):(assignEach [e] env).map (·.2)=[assign e env]:=by
 cases e<;>first | rfl | cases h
def aL7 {f:XR W} (G:Good X st d) (he:SE X e f) (hi:slot st x=some i) (hl:(rF st.S x&&(st.top||dH st.S x))=true) (hs:∀ ⦃κ M δ⦄,Fra X κ M δ->swapsWith e (some (.Name x px)) pos.line X.env=pure false):SS X (.Assign [.Name x px] e pos) (aQ i f):=by
 intro κ M δ h s fl h' R F e';obtain ⟨⟨w,h1⟩,e1,e'⟩:=bind_some e';cases e';obtain ⟨hx,hf⟩:=aI1 G hl;refine wpAny_Assign_Name (thn (he R F e1) fun u s1 ⟨M1,l1,R1,r1⟩=>?_) (hs F);exact aI0 (F.go l1) R1 (mY G hi) hx hf r1 fun s2 κ2 o2 R2 F2 _=>⟨κ2,M1,o2,l1,R2,F2⟩
def aL8 (S:Snd v) (G:Good X st d) (hi:slot st x=some i) (hl:(rF st.S x&&(st.top||dH st.S x))=true) (hc:jN e=true) (hs:(swB st e x px||!(dH st.S x))=true) {f:XR W}
  (hf:f=cA (cC v st e)\/f=aO (cC v st e)):SS X (.Assign [.Name x px] e pos) (aQ i f):=by
 have no:∀ {e:Expr},f=cA (cC v st e)\/f=aO (cC v st e)->(∀ δ h,cC v st e δ h=none)->SS X (.Assign [.Name x px] e pos) (aQ i f):=fun {e} hf n κ M δ h s fl h' R F e'=>by
  obtain ⟨⟨w,h1⟩,e1,e'⟩:=bind_some e';rcases hf with rfl | rfl<;>(obtain ⟨q,e2,_⟩:=bind_some (show (cC v st e δ h).bind _=_ from e1);rw [n] at e2;cases e2)
 cases e with
 | ListComp elt gs sc p =>
  by_cases hw:swB st (.ListComp elt gs sc p) x px=true
  ·rcases gs with _ | ⟨⟨tg,iter,ifs,a⟩,_ | ⟨_,_⟩⟩
   ·exact no hf fun _ _=>rfl
   ·by_cases ha:a=0
    ·subst ha
     by_cases hcc:(jD st.N sc st.S&&!gF iter)=true
     ·have e0:cC v st (.ListComp elt [⟨tg,iter,ifs,0⟩] sc p)=xb (gG v st tg iter) fun p=>fun δ h=>aV (v.G (st.blk sc) tg) (aH1 v (st.blk sc) ifs) (v.E (st.blk sc) elt) p.2 p.1 p.1 (bW (fH st.N sc) δ) h []:=by
       show mB v st elt tg iter ifs sc=_;unfold mB;rw [if_pos hcc]
      rw [Bool.and_eq_true] at hcc;have hset:gF iter=false:=by simpa using hcc.2
      have hloc:st.S.names.lookup x=some .local:=by
       unfold swB at hw;simp only [Bool.and_eq_true] at hw;have h1:=hw.1.1;unfold dH at h1;split at h1
       ·assumption
       ·cases h1
      intro κ M δ h s fl h' R F e';obtain ⟨⟨w,h2⟩,e1,e'⟩:=bind_some e';cases e';have run:∀ {xs:List PyData} {h1:aA},cC v st (.ListComp elt [⟨tg,iter,ifs,0⟩] sc p) δ h=some (xs,h1)->(∀ {κ:Kp} {M:Mp} {u:Value} {s:Shared},Pf X.S κ M h1 xs u s->Pw X.S κ M h2 w u s)->Wp X.S X.A (exec (.Assign [.Name x px] (.ListComp elt [⟨tg,iter,ifs,0⟩] sc p) pos) X.env) (Ps X κ M h2 (.nx (δ.set i (some w)))) NE s:=fun {xs h1} e2 cv=>by
       rw [e0] at e2;obtain ⟨⟨all,c⟩,h0,e3,e4⟩:=aF e2;exact bK4 G.rm.hd (by rw [G.S,G.N];exact jX hcc.1) (lA S G tg iter) (fun cl C=>S.G (cY G cl C) tg) (fun cl C=>wM S (cY G cl C) ifs) (fun cl C=>S.E (cY G cl C) elt) (hX hset _) R F e3 (jW e4) (fun p=>cv (bW8 p)) (mY G hi) (by rw [G.S];exact hloc) (by rw [uD F G,hw])
      rcases hf with rfl | rfl
      ·obtain ⟨⟨xs,h1⟩,e2,e5⟩:=bind_some (show (cC v st _ δ h).bind _=_ from e1);cases e5;exact run e2 fun p=>aH4 p
      ·obtain ⟨⟨xs,h1⟩,e2,e5⟩:=bind_some (show (cC v st _ δ h).bind _=_ from e1);cases e5;exact run e2 fun p=>rH p
     ·exact no hf fun δ h=>by
       show mB v st elt tg iter ifs sc δ h=none;unfold mB;rw [if_neg hcc];rfl
    ·exact no hf fun δ h=>by
      show (if a=0 then mB v st elt tg iter ifs sc else xno) δ h=none;rw [if_neg ha];rfl
   ·exact no hf fun _ _=>rfl
  ·have hw':swB st (.ListComp elt gs sc p) x px=false:=by simpa using hw
   refine aL7 G ?_ hi hl fun κ M δ F=>by rw [uD F G,hw']
   rcases hf with rfl | rfl
   ·exact uA (jO S G _)
   ·exact oA (jO S G _)
 | SetComp elt gs sc p=>exact no hf fun _ _=>rfl
 | DictComp k w gs sc p=>exact no hf fun _ _=>rfl
 | _=>cases hc
def bY3 (S:Snd v) (G:Good X st d) (hc:jN e=false) (ht:aU5 e tg=false) (hn:aI tg=true):SS X (.Assign [tg] e pos) fun δ h=>((if cvS st tg e=true then cA (v.F st e) else v.E st e) δ h).bind fun p=>(v.G st tg p.1 δ p.2).bind fun q=>some (.nx q.1,q.2):=by
 have he:SE X e (if cvS st tg e=true then cA (v.F st e) else v.E st e):=by
  split
  ·exact uA (S.F G e)
  ·exact S.E G e
 intro κ M δ h s fl h' R F e';obtain ⟨⟨w,h1⟩,e1,e'⟩:=bind_some e';obtain ⟨⟨δ2,h2⟩,e2,e'⟩:=bind_some e';cases e';refine wpAny_Assign_stores (thn (he R F e1) fun u s1 ⟨M1,l1,R1,r1⟩=>?_) (cQ hc _ _ _) (wU ht _);rw [aW8 hn];exact thn (S.G G tg R1 (F.go l1) r1 e2) fun _ s2 ⟨κ2,M2,o2,l2,R2,F2⟩=>⟨κ2,M2,o2,l1.trans l2,R2,F2⟩
def bN0 (S:Snd v) (G:Good X st d) (t:Stmt):SS X t (tW v st t):=by
 have one:∀ (tg e:Expr) (pos:Pos),SS X (.Assign [tg] e pos) (if (jN e||aU5 e tg||!(aI tg))=true then fun _ _=>none else fun δ h=>((if cvS st tg e=true then cA (v.F st e) else v.E st e) δ h).bind fun p=>(v.G st tg p.1 δ p.2).bind fun q=>some (.nx q.1,q.2)):=fun tg e pos=>by
  split
  ·exact kZ
  ·rename_i hc;simp only [Bool.or_eq_true,not_or,Bool.not_eq_true,Bool.not_eq_true',Bool.not_eq_false] at hc;exact bY3 S G hc.1.1 hc.1.2 (by simpa using hc.2)
 cases t with
 | Return o p =>
  cases o with
  | none=>exact kZ
  | some e =>
   refine bW5 (f:=if st.cv.contains "return"=true then bU4 v st e else v.E st e) ?_;split
   ·exact uA (S.F G e)
   ·exact S.E G e
 | If c a b p=>exact cL7 S G
 | Expr e p =>
  unfold tW;dsimp only;split
  ·exact kZ
  ·rename_i hc;exact bK0 S G (cQ (by simpa using hc) _ _ _)
 | Pass p=>exact fun _ _ _ _ _ _ _ R F e=>by cases e;exact wpAny_Pass ⟨_,_,.refl,.refl,R,F⟩
 | Break p=>exact fun _ _ _ _ _ _ _ R F e=>by cases e;exact wpAny_Break ⟨_,_,.refl,.refl,R,F⟩
 | Continue p=>exact fun _ _ _ _ _ _ _ R F e=>by cases e;exact wpAny_Continue ⟨_,_,.refl,.refl,R,F⟩
 | For tg iter body els p =>
  rcases els with _ | ⟨_,_⟩
  ·unfold tW;dsimp only;split
   ·exact kZ
   ·rename_i hs;exact bE6 G.rm.hd (lA S G tg iter) (S.G G tg) (jH S G body) (hX (by simpa using hs) _)
  ·exact kZ
 | Assign tgs e p =>
  rcases tgs with _ | ⟨tg,_ | ⟨_,_⟩⟩
  ·exact kZ
  ·cases tg with
   | Name x px =>
    unfold tW;dsimp only;split
    ·rename_i i hi;split
     ·rename_i hl;split
      ·rename_i hc;split
       ·rename_i hw;split
        ·exact aL8 S G hi hl hc hw (.inl rfl)
        ·exact aL8 S G hi hl hc hw (.inr rfl)
       ·exact kZ
      ·rename_i hc;have hsw:∀ ⦃κ M δ⦄,Fra X κ M δ->swapsWith e (some (.Name x px)) p.line X.env=pure false:=fun _ _ _ _=>cQ (by simpa using hc) _ _ _;split
       ·exact aL7 G (uA (S.F G e)) hi hl hsw
       ·exact aL7 G (S.E G e) hi hl hsw
     ·exact kZ
    ·exact kZ
   | Attribute o f pa=>exact kZ
   | _=>exact one _ _ _
  ·cases tg<;>exact kZ
 | _=>exact kZ
end
def aL9 {v:Evs} (S:Snd v):Snd (step v):=⟨fun G=>bM7 S G,fun G=>bM8 S G,fun G=>jO S G,fun G=>bM9 S G,fun G=>bN0 S G⟩
def bN1:Snd Evs.no:=⟨fun _ _=>dI,fun _ _ _ _ _ _ _ _ _ _ _ e=>(by cases e),fun _ _=>iZ,fun _ _=>aB9,fun _ _=>kZ⟩
theorem aM:∀ n,Snd (evs n)
 | 0=>bN1
 | n+1=>aL9 (aM n)
end DL

namespace DL
open PySem PySem.Spec PyProof.Rows L2 CI
def zip_fst {α β:Type} {a:α} {b:β} {l:List α} {r:List β} (h:(a,b)∈l.zip r):a∈l:=(List.of_mem_zip h).1
section
variable {kd:Str->Option NameKind} {x:Str} {v:Value}
theorem jZ:∀ {bs:List (Str×Value)} {m:Str->Option Value},(∀ v,(x,v)∉bs)->bindL kd bs m x=m x/\bindC kd bs m x=m x
 | [],_,_=>⟨rfl,rfl⟩
 | (n,v)::r,m,h=>by
  unfold bindL bindC;have ne:x≠n:=by rintro rfl;exact h v List.mem_cons_self
  rw [(jZ fun w hw=>h w (List.mem_cons_of_mem _ hw)).1,(jZ fun w hw=>h w (List.mem_cons_of_mem _ hw)).2];constructor<;>split<;>simp [ne]
theorem kA:∀ {P:List Str} {vs:List Value} {i:Nat} {m:Str->Option Value},P.Nodup->P[i]?=some x->vs[i]?=some v->(kd x=some .local->bindL kd (P.zip vs) m x=some v)/\(kd x≠some .local->bindC kd (P.zip vs) m x=some v)
 | [],_,_,_,_,h,_=>by simp at h
 | _::_,[],_,_,_,_,h=>by simp at h
 | p::P,w::vs,0,m,nd,h1,h2=>by
  simp at h1 h2;subst h1;subst h2;have no:∀ v,(p,v)∉P.zip vs:=fun v hv=>(List.nodup_cons.mp nd).1 (zip_fst hv);refine ⟨fun hk=>?_,fun hk=>?_⟩
  ·show bindL kd ((p,w)::P.zip vs) m p=_;unfold bindL;rw [(jZ no).1,if_pos hk];simp
  ·show bindC kd ((p,w)::P.zip vs) m p=_;unfold bindC;rw [(jZ no).2,if_neg hk];simp
 | p::P,w::vs,i+1,m,nd,h1,h2=>by
  have ih:=fun m=>kA (i:=i) (m:=m) (List.nodup_cons.mp nd).2 (by simpa using h1) (by simpa using h2);refine ⟨fun hk=>?_,fun hk=>?_⟩
  ·show bindL kd ((p,w)::P.zip vs) m x=_;unfold bindL;exact (ih _).1 hk
  ·show bindC kd ((p,w)::P.zip vs) m x=_;unfold bindC;exact (ih _).2 hk
end
def aC0 {N:List Str} {ws:List (Option W)} {i:Nat} {w:W} (h:(ws++List.replicate (N.length - ws.length) none)[i]?=some (some w)):ws[i]?=some (some w):=by
 by_cases hi:i < ws.length
 ·rwa [List.getElem?_append_left hi] at h
 ·rw [List.getElem?_append_right (by simpa using hi),List.getElem?_replicate] at h;split at h<;>cases h
structure FnSc (t:Stmt):Prop where
 kind:(defScope t).kind=.function
 co:(defScope t).isCoroutine=false
 gen:(defScope t).isGenerator=false
 nd:(aZ t).Nodup
 par:∀ x∈parsOf t,Loc (defScope t) x
 nofree:∀ y∈(defScope t).names,y.2≠.free
def aM0 {t:Stmt} (h:fnB t=true):FnSc t:=by
 unfold fnB at h;simp only [Bool.and_eq_true,decide_eq_true_eq,List.all_eq_true,Bool.not_eq_true'] at h;obtain ⟨h1,h2,h3,h4,h5,h6⟩:=h;refine ⟨h1,h2,h3,h4,fun x hx=>?_,fun y hy e=>?_⟩
 ·have:=h5 x hx;unfold rF at this;split at this
  ·rename_i q;exact .inl q
  ·rename_i q;exact .inr q
  ·cases this
 ·have:=h6 y hy;rw [e] at this;cases this
def aW9 {t:Stmt} {i:Nat} {y:Str} (e:(aZ t)[i]?=some y) (hi:i < (parsOf t).length):(parsOf t)[i]?=some y:=by
 unfold aZ at e
 rwa [List.getElem?_append_left hi] at e
abbrev cxF (S:Sx) (t:Stmt) (q:Str) (L f:Addr) (cd:Value) (A:Around):Cx:=⟨S,A.deeper (envOfC q (defScope t) L f cd),aZ t,envOfC q (defScope t) L f cd,true⟩
section
variable {S:Sx} {κ:Kp} {M:Mp} {h h':aA} {s s1:Shared} {A:Around} {t:Stmt} {q:Str} {f:Addr} {cd:Value} {us:List Value} {ws:List (Option W)}
def oK (FS:FnSc t) (md:Mod S) (hz:S.base.objs.size<=s.heap.objs.size) (hl:ws.length=(parsOf t).length) (hk:Hk A M) (fo:FrO κ A) (R:Mem S κ M h s) (r:∀ (i:Nat) w,ws[i]?=some (some w)->∃ u,us[i]?=some u/\RepW S M w u)
  (x:InCallC s s.heap.objs.size (bindL (envOfC q (defScope t) s.heap.objs.size f cd).kindOf ((parsOf t).zip us) fun _=>none) (cellsFrom (s.heap.objs.size+1) (defScope t).names []) (bindC (envOfC q (defScope t) s.heap.objs.size f cd).kindOf ((parsOf t).zip us) fun _=>none) s1) :
  ∃ κ1,Mem S κ1 M h s1/\Fra (cxF S t q s.heap.objs.size f cd A) κ1 M (ws++List.replicate ((aZ t).length - ws.length) none)/\(∀ κ2,Own (cxF S t q s.heap.objs.size f cd A) κ1 κ2->∀ a y,κ a=some y->κ2 a=some y)/\(∀ a,a < s.heap.objs.size->κ1 a=κ a)/\∃ o m,κ1 s.heap.objs.size=some (false,o)/\jG o m/\∀ (i:Nat) y u,(parsOf t)[i]?=some y->us[i]?=some u->(defScope t).names.lookup y=some .local->m y=some u:=by
 obtain ⟨h1,tk,rfl,hk1⟩:=x.done;have R1:Mem S κ M h { s with heap:=h1,toks:=tk }:=R.kept hk1
 let fp:=(cellsFrom (s.heap.objs.size+1) (defScope t).names []).map (·.2)
 have up:∀ b∈fp,s.heap.objs.size < b:=fun b hb=>by
  obtain ⟨⟨n,c⟩,hm,rfl⟩:=List.mem_map.mp hb;exact x.above n c hm
 have fr:∀ b∈fp,aU κ M b:=fun b hb=>R.new (Heap.get?_none_of_le (Nat.le_of_lt (up b hb)));have R2:=R1.pin fr;obtain ⟨o,es,ep,ho,hd,hs,hf⟩:=x.toInCall.ns;have f0:=R.size;have R3:=R2.more (b:=false) ⟨f0.1,f0.2.2⟩ ho;have mem:∀ y c,(cellsFrom (s.heap.objs.size+1) (defScope t).names []).lookup y=some c->c∈fp:=fun y c e=>List.mem_map.mpr ⟨_,PySem.mem_of_lookup e,rfl⟩;have kc:∀ y c,(cellsFrom (s.heap.objs.size+1) (defScope t).names []).lookup y=some c->∃ oc,((eW κ fp h1).up s.heap.objs.size (false,o)) c=some (true,oc)/\oc.data=.cell (bindC (envOfC q (defScope t) s.heap.objs.size f cd).kindOf ((parsOf t).zip us) (fun _=>none) y):=fun y c e=>by
  obtain ⟨oc,h2,h3⟩:=x.cell y c e;have h2:h1.get? c=some oc:=h2;refine ⟨oc,?_,h3⟩;rw [bN (Nat.ne_of_gt (up c (mem y c e)))];unfold eW;rw [if_pos (mem y c e),h2];rfl
 have has:∀ {y:Str},(defScope t).names.lookup y=some .cell->∃ c,(cellsFrom (s.heap.objs.size+1) (defScope t).names []).lookup y=some c:=fun hy=>Option.isSome_iff_exists.mp (PySem.W.cellsFrom_some _ _ _ (.inl hy));have ndP:(parsOf t).Nodup:=(List.sublist_append_left _ _).nodup FS.nd;refine ⟨_,R3,⟨⟨md,FS.kind,rfl,rfl,fun y z c a b=>name_of_addr x.apart (PySem.mem_of_lookup a) (PySem.mem_of_lookup b),fun y hy=>?_,hz,FS.nd⟩,hk.eq rfl,?_,⟨o,_,dY,⟨es,ep,hd,hs,hf⟩,fun i y w e1 e2 e3=>?_⟩,fun y c e=>?_,?_⟩,fun κ2 own a y ea=>?_,fun a la=>?_,o,_,dY,⟨es,ep,hd,hs,hf⟩,fun i y u e1 e2 k=>(kA ndP e1 e2).1 k⟩
 ·have hy:(defScope t).names.lookup y=some .cell\/(defScope t).names.lookup y=some .free:=hy;rcases hy with hy | hy
  ·exact has hy
  ·exact absurd rfl (FS.nofree _ (PySem.mem_of_lookup hy))
 ·show (ws++List.replicate ((aZ t).length - ws.length) none).length=(aZ t).length;rw [List.length_append,List.length_replicate,hl];have:(parsOf t).length<=(aZ t).length:=by unfold aZ;rw [List.length_append];omega
  omega
 ·have ew:=aC0 e2;obtain ⟨u,eu,ru⟩:=r _ _ ew;have hi:i < (parsOf t).length:=by rw [<- hl];exact (List.getElem?_eq_some_iff.mp ew).1
  have ep:=aW9 e1 hi;refine ⟨u,ru,?_⟩;rcases FS.par y (List.mem_of_getElem? ep) with k | k
  ·exact .inl ⟨k,(kA ndP ep eu).1 k⟩
  ·obtain ⟨c,e⟩:=has k;obtain ⟨oc,h2,h3⟩:=kc y c e;rw [(kA ndP ep eu).2 (by show (defScope t).names.lookup y≠_;rw [k];decide)] at h3;exact .inr ⟨.inl k,c,oc,e,h2,h3⟩
 ·obtain ⟨oc,h2,h3⟩:=kc y c e;exact ⟨oc,_,h2,h3⟩
 ·obtain ⟨l,e1,e2⟩:=fo;refine ⟨envOfC q (defScope t) s.heap.objs.size f cd::l,by simp [Around.deeper,e1],fun env he=>?_⟩;rcases List.mem_cons.mp he with rfl | he
  ·exact ⟨by show (defScope t).kind≠_;rw [FS.kind];decide,_,o,rfl,dY,fun vs z=>by rw [hd] at z;cases z⟩
  ·obtain ⟨k1,L,o',k2,k3,k4⟩:=e2 env he;refine ⟨k1,L,o',k2,?_,k4⟩;rw [bN fun z=>by rw [z,f0.2.1] at k3;cases k3];unfold eW;rw [if_neg fun z=>by rw [(fr L z).2.1] at k3;cases k3];exact k3
 ·have nL:a≠s.heap.objs.size:=fun z=>by rw [z,f0.2.1] at ea;cases ea
  have nf:a∉fp:=fun z=>by rw [(fr a z).2.1] at ea;cases ea
  have e1:((eW κ fp h1).up s.heap.objs.size (false,o)) a=κ a:=by
   rw [bN nL];unfold eW;rw [if_neg nf]
  by_cases e2:κ2 a=((eW κ fp h1).up s.heap.objs.size (false,o)) a
  ·rw [e2,e1,ea]
  ·rcases own a e2 with z | ⟨_,y',z⟩
   ·exact (nL z).elim
   ·exact (nf (mem y' a z)).elim
 ·rw [bN (Nat.ne_of_lt la)];unfold eW;rw [if_neg fun z=>absurd (up a z) (Nat.not_lt.mpr (Nat.le_of_lt la))]
def qH {ws:List W} (FS:FnSc t) (md:Mod S) (hz:S.base.objs.size<=s.heap.objs.size) (hl:ws.length=(parsOf t).length) (hk:Hk A M) (fo:FrO κ A) (R:Mem S κ M h s) (r:RepWs S M ws us)
  (x:InCallC s s.heap.objs.size (bindL (envOfC q (defScope t) s.heap.objs.size f cd).kindOf ((parsOf t).zip us) fun _=>none) (cellsFrom (s.heap.objs.size+1) (defScope t).names []) (bindC (envOfC q (defScope t) s.heap.objs.size f cd).kindOf ((parsOf t).zip us) fun _=>none) s1) :
  ∃ κ1,Mem S κ1 M h s1/\Fra (cxF S t q s.heap.objs.size f cd A) κ1 M (cH (aZ t) ws)/\∀ κ2,Own (cxF S t q s.heap.objs.size f cd A) κ1 κ2->∀ a y,κ a=some y->κ2 a=some y:=by
 obtain ⟨κ1,h1,h2,h3,_⟩:=oK (ws:=ws.map some) FS md hz (by rw [List.length_map];exact hl) hk fo R (fun i w e=>by
  rw [List.getElem?_map] at e;obtain ⟨w',e1,e2⟩:=map_some e;cases e2;exact mM r e1) x
 rw [List.length_map] at h2;exact ⟨κ1,h1,h2,h3⟩
end
end DL

namespace DL
open PySem PySem.Spec PyProof.Rows L2 CI
section
variable {S:Sx} {κ κ2:Kp} {M M2:Mp} {h h1:aA} {s s':Shared} {n:Nat}
noncomputable def Low (n:Nat):Cell->Prop
 | .r is=>∀ j,W.c j∈is->j < n
 | .o _ fs=>∀ f j,fs.lookup f=some (.c j)->j < n
 | _=>True
def aM1 {c:Cell} (hc:∀ j∈cRefs c,j < n):Low n c:=by
 cases c with
 | r is=>exact fun j hj=>hc j (List.mem_flatten.mpr ⟨[j],List.mem_map.mpr ⟨_,hj,rfl⟩,List.mem_singleton.mpr rfl⟩)
 | o C fs =>
  intro f j e;refine hc j ?_;unfold cRefs;exact List.mem_flatten.mpr ⟨[j],List.mem_map.mpr ⟨_,PySem.mem_of_lookup e,rfl⟩,List.mem_singleton.mpr rfl⟩
 | _=>exact True.intro
def bN2 {H:Heap} {p:Addr×Addr} {c:Cell} (x:CellOk S M H p c):Low M.m.length c:=by
 cases c with
 | r is =>
  obtain ⟨us,k,_,_,r⟩:=x;intro j hj;obtain ⟨i,hi⟩:=List.getElem?_of_mem hj;obtain ⟨u,_,p,ep,_⟩:=mM r hi;exact (List.getElem?_eq_some_iff.mp ep).1
 | o C fs =>
  obtain ⟨_,_,_,mA,_,r,_⟩:=x;intro f j e;obtain ⟨u,_,p,ep,_⟩:=RelO.some_of (by rw [<- e];exact r f);exact (List.getElem?_eq_some_iff.mp ep).1
 | _=>exact True.intro
def uE {w:W} {u:Value} (r:RepW S M w u) (hl:∀ j,w=.c j->j < n):RepW S ⟨M.Z,M.m.take n⟩ w u:=by
 cases w with
 | d x=>exact r
 | c j =>
  obtain ⟨p,ep,e⟩:=r;exact ⟨p,by show (M.m.take n)[j]?=_;rw [List.getElem?_take_of_lt (hl j rfl)];exact ep,e⟩
theorem qJ:∀ {is:List W} {us:List Value},RepWs S M is us->(∀ j,W.c j∈is->j < n)->RepWs S ⟨M.Z,M.m.take n⟩ is us
 | [],_,r,_=>by cases r;exact .nil
 | i::is,_,r,l=>by
  cases r with
  | cons a b=>exact .cons (uE a fun j ej=>l j (by rw [ej];exact List.mem_cons_self)) (qJ b fun j hj=>l j (List.mem_cons_of_mem _ hj))
def aM2 {H:Heap} {p:Addr×Addr} {c:Cell} (x:CellOk S M H p c) (l:Low n c):CellOk S ⟨M.Z,M.m.take n⟩ H p c:=by
 cases c with
 | r is =>
  obtain ⟨us,k,e,z,r⟩:=x;exact ⟨us,k,e,z,qJ r l⟩
 | o C fs =>
  obtain ⟨a,b,c,mA,d,r,e⟩:=x;refine ⟨a,b,c,mA,d,fun f=>?_,e⟩;have rf:=r f;cases q:fs.lookup f with
  | none=>rw [q] at rf;cases q2:mA f with
   | none=>exact True.intro
   | some u=>rw [q2] at rf;exact rf.elim
  | some w =>
   rw [q] at rf;obtain ⟨u,eu,ru⟩:=RelO.some_of rf;rw [eu];exact uE ru fun j ej=>l f j (by rw [q,ej])
 | l xs=>exact x
 | k xs=>exact x
 | n xs=>exact x
 | t xs=>exact x
def Mem.cut (R0:Mem S κ M h s) (l:Le M M2) (R:Mem S κ M2 h1 s') (ok:okP h h1):Mem S κ ⟨M2.Z,M.m⟩ (h1.take h.length) s':=by
 obtain ⟨k,ek⟩:=l.m;have em:M.m=M2.m.take h.length:=by rw [ek,<- R0.len];simp
 have lt:h.length<=h1.length:=by rw [<- R.len,ek,<- R0.len];simp
 have at_:∀ {i:Nat} {p:Addr×Addr},M.m[i]?=some p->M2.m[i]?=some p:=fun e=>l.at e;have sub:∀ p∈M.m,p∈M2.m:=fun p hp=>by rw [ek];exact List.mem_append_left _ hp
 refine ⟨R.z,R.k,by rw [List.length_take];show M.m.length=_;rw [R0.len];omega,fun i j p q a b=>R.ap i j p q (at_ a) (at_ b),fun p hp=>R.off p (sub p hp),fun i p c a b=>?_,R.base,R.bare,R.os⟩;have a:M.m[i]?=some p:=a;have hi:i < h.length:=by rw [<- R0.len];exact (List.getElem?_eq_some_iff.mp a).1
 rw [List.getElem?_take_of_lt hi] at b;have lo:Low h.length c:=by
  rcases ok i c hi b with z | z
  ·exact aM1 z
  ·have:=bN2 (R0.cel i p c a z)
   rwa [R0.len] at this
 have:=aM2 (R.cel i p c (at_ a) b) lo
 rwa [<- em] at this
def aX0 {p:Fl×aA} {z:PyData} {h2:aA} {u:Value} (R0:Mem S κ M h s) (l:Le M M2) (R:Mem S κ M2 p.2 s') (e:ends h p=some (z,h2)) (hr:(∃ δ,p.1=.nx δ/\u=.none)\/∃ w,p.1=.rt w/\RepW S M2 w u):Pw S κ M h2 (.d z) u s':=by
 unfold ends at e
 classical
 obtain ⟨ok,e⟩:=aG e;have R3:=R0.cut l R ok;have l3:Le M ⟨M2.Z,M.m⟩:=⟨l.z,[],by simp⟩;rcases hr with ⟨δ,hp,rfl⟩ | ⟨w,hp,r⟩
 ·rw [hp] at e;cases e;exact R3.pn.go l3
 ·rw [hp] at e;cases w with
  | d y=>cases e;exact ⟨_,l3,R3,r⟩
  | c i =>
   dsimp only at e;obtain ⟨q,eq,rfl⟩:=r;obtain ⟨z1,k1,_⟩:=R.off q (List.mem_of_getElem? eq) q.1 (.inl rfl);have fr:h.length<=i->aU κ ⟨M2.Z,M.m⟩ q.1:=fun hi=>⟨z1,k1,fun r hr=>by
    obtain ⟨j,hj⟩:=List.getElem?_of_mem hr;have hj:M.m[j]?=some r:=hj;have hlt:j < h.length:=by rw [<- R0.len];exact (List.getElem?_eq_some_iff.mp hj).1
    obtain ⟨a,_,b,_⟩:=R.ap j i r q (l.at hj) eq (by omega);exact ⟨a,b⟩⟩
   split at e
   ·rename_i xs ei;obtain ⟨hi,e⟩:=aG e;cases e;obtain ⟨us,n,ho,hz,rr⟩:=R.cel i q _ eq ei;exact ⟨_,l3.trans (Le.add (fr hi).1),R3.frz (fr hi) ho,rep_l.mpr ⟨_,_,us,rfl,gY,⟨⟨n,rfl⟩,hz⟩,Reps'.go (Le.add (fr hi).1) rr⟩⟩
   ·rename_i xs ei;obtain ⟨hi,e⟩:=aG e;cases e;obtain ⟨vs,hd,rr,hs,hz⟩:=R.cel i q _ eq ei;obtain ⟨o,es,ep,ho,hr⟩:=hd;exact ⟨_,l3.trans (Le.add (fr hi).1),R3.frz (fr hi) ho,(aF3 (xS rr)).mpr ⟨_,o,vs,rfl,gY,⟨hs,hz,fun h2 e2=>⟨o,es,ep,e2,hr⟩⟩,RepK.go (M:=⟨M2.Z,M.m⟩) (Le.add (fr hi).1) rr⟩⟩
   ·cases e
end
structure Fun (K:PySem.W.Frag) (x qual:Str) (st:Stmt) (f:Addr) (fd:FuncData):Prop where
 ex:∃ (oc:Value) (od:Option Addr) (kV doc pm:Value) (an:Option Addr) (cdv ct:Value) (osl:Array (Option Value)),
  fd=PySem.W.fnOf x qual (cM st) (aN st) (defScope st) .none kV doc pm an cdv ct/\K.lookup f=some ⟨oc,od,.func fd,osl⟩/\PySem.W.codeIn K cdv qual=true
 kp:PySem.W.keepIn K (.ref f)=true
structure TopOk (t:Top) (S:Sx):Prop where
 bl:∀ x,t.bl.contains x=true->S.mg x=none
 gc:∀ x z,t.gc x=some z->∃ u,S.mg x=some u/\Rep S S.base.get? z u
 tk:∀ x f,t.tk x=some f->∃ p,S.mg x=some (.ref p)/\TabK S p f
 defs:∀ x s,t.defs x=some s->∃ f fd,Fun S.K x x s f fd/\S.mg x=some (.ref f)/\eO S.K fd (parsOf s)
 ini:∀ x C s,t.ini x=some (C,s)->∃ n q f fd,Fun S.K n q s f fd/\Mk S.K C f/\S.mg x=some (.ref C)/\eO S.K fd (parsOf s)
 mt:∀ x C s,t.mt x=some (C,s)->Cls S.K C/\∃ n q f fd,Fun S.K n q s f fd/\Meth S.K C x f/\eO S.K fd (parsOf s)
 fo:∀ C f,t.fo C f=true->Cls S.K C/\wH S.K C f
 hm:t.hm=S.hm
 qn:∀ x q,t.qn x=some q->t.mt x=none/\t.ini x=none/\∀ s f fd,Fun S.K x x s f fd->S.mg x=some (.ref f)->x++".<locals>."=q.1/\∃ c0,fd.code=.ref c0/\TbS S c0 q.2
structure TabOk (S:Sx) (d:Nat) (fn:Str->Option XF) (ob:ObS):Prop where
 fn:∀ x m,fn x=some m->FnG S d x (toW m)
 fnW:∀ x m,ob.fnW x=some m->FnG S d x m
 cls:∀ x C m,ob.cls x=some (C,m)->(∀ ws h,m ws h=none)\/∃ k f fd ps,k+1<=d/\Mk S.K C f/\FnS S k f fd ps m/\S.mg x=some (.ref C)/\eO S.K fd ps
 om:∀ x C m,ob.om x=some (C,m)->(∀ ws h,m ws h=none)\/(Cls S.K C/\∃ f fd ps,Meth S.K C x f/\FnS S d f fd ps m/\eO S.K fd ps)
 fo:∀ C f,ob.fo C f=true->Cls S.K C/\wH S.K C f
section
variable {S:Sx} {t:Top} {fn:Str->Option XF} {ob:ObS} {x n q:Str} {st:Stmt} {f:Addr} {fd:FuncData} {k:Nat}
def cZ {A:Around} {L:Addr} {cd:Value} (T:TopOk t S) (B:TabOk S k fn ob) (hr:Room S (k+1) A) (hq:∀ q',t.qn x=some q'->q++".<locals>."=q'.1/\∃ c0,cd=.ref c0/\TbS S c0 q'.2):Good (cxF S st q L f cd A) (t.sta fn ob x st) k :=
 ⟨T.bl,T.gc,T.tk,B.fn,B.fnW,B.cls,B.om,B.fo,rfl,rfl,fun _=>rfl,hr.deeper _,T.hm,fun q' e=>⟨(hq q' e).1,(hq q' e).2,by have:=hr.dp;show A.depth+1+3*k+7 < _;omega,by have:=hr.un;show A.units+3+16*k+212 < _;omega⟩⟩
def yR {m:XFW} {Bf:XS} (F:Fun S.K n q st f fd) (hB:∀ {A:Around} {L:Addr},Room S (k+1) A->SSs (cxF S st q L f fd.code A) (aN st) Bf) (hb:fnB st=true) (len:∀ ws h r,m ws h=some r->ws.length=(parsOf st).length)
  (he:∀ ws h r,m ws h=some r->∃ p,Bf (cH (aZ st) ws) h=some p/\∀ {κ M M2 s s' u},Mem S κ M h s->Le M M2->Mem S κ M2 p.2 s'->((∃ δ,p.1=.nx δ/\u=.none)\/∃ w,p.1=.rt w/\RepW S M2 w u)->Pw S κ M r.2 r.1 u s') (hnb:∀ ws h r p,m ws h=some r->Bf (cH (aZ st) ws) h=some p->(∃ δ,p.1=.nx δ)\/∃ w,p.1=.rt w) :
  FnS S (k+1) f fd (parsOf st) m:=by
 refine ⟨len,fun {A κ M h h' s args us ws w} hr hk fo md hz R hbd r e=>?_⟩;obtain ⟨oc,od,kV,doc,pm,an,cdv,ct,osl,rfl,lk,hcd⟩:=F.ex;have FS:=aM0 hb;have KX:S.K.In s.heap:=md.kin.keeps R.bk;have lim:s.heap.NoLimit:=md.nolimit.keeps R.bk;have hkind:∀ y∈(parsOf st).zip us,(defScope st).names.lookup y.1=some .local\/((defScope st).names.lookup y.1=some .cell/\((cellsFrom (s.heap.objs.size+1) (defScope st).names []).lookup y.1).isSome=true):=fun ⟨n,v⟩ hy=>by
  rcases FS.par n (zip_fst hy) with q | q
  ·exact .inl q
  ·exact .inr ⟨q,PySem.W.cellsFrom_some _ _ _ (.inl q)⟩
 have hdep:A.depth < recursionLimit:=by have:=hr.dp;omega
 refine codeAny_call_function hdep (KX _ _ lk) rfl FS.co FS.gen rfl (PySem.W.codeRec_of KX hcd) (hbd _ _ _ _ ?_);refine wpAny_newFunctionEnv_cells FS.kind hkind fun env he' s1 ic=>?_;subst he';refine ⟨lim.keeps ic.toInCall.keep,codeAny_func ?_⟩;obtain ⟨⟨fl,h1⟩,ep,fin⟩:=he ws h _ e;obtain ⟨κ1,R1,F1,back⟩:=qH (A:=A) FS md hz (len _ _ _ e) hk fo R r ic;refine wpAny_mono (hB hr R1 F1 ep) (fun fl2 s2 ⟨κ2,M2,o2,l2,R2,fw⟩=>?_) fun _ _ z=>z.elim;have R3:Mem S κ M2 h1 s2:=R2.less (back κ2 o2);rcases hnb ws h _ _ e ep with ⟨δ,hp⟩ | ⟨w',hp⟩
 ·cases hp;cases fl2 with
  | next=>exact ⟨.none,rfl,fin R l2 R3 (.inl ⟨δ,rfl,rfl⟩)⟩
  | _=>exact fw.elim
 ·cases hp;cases fl2 with
  | ret u=>exact ⟨u,rfl,fin R l2 R3 (.inr ⟨w',rfl,fw⟩)⟩
  | _=>exact fw.elim
def bN3 {m:XFW} (hq:∀ q',t.qn x=some q'->q++".<locals>."=q'.1/\∃ c0,fd.code=.ref c0/\TbS S c0 q'.2) (T:TopOk t S) (F:Fun S.K n q st f fd) (B:TabOk S k fn ob) (hb:fnB st=true) (len:∀ ws h r,m ws h=some r->ws.length=(parsOf st).length)
  (he:∀ ws h r,m ws h=some r->∃ p,xSs (evs t.deep) (t.sta fn ob x st) (aN st) (cH (aZ st) ws) h=some p/\∀ {κ M M2 s s' u},Mem S κ M h s->Le M M2->Mem S κ M2 p.2 s'->((∃ δ,p.1=.nx δ/\u=.none)\/∃ w,p.1=.rt w/\RepW S M2 w u)->Pw S κ M r.2 r.1 u s') (hnb:∀ ws h r p,m ws h=some r->xSs (evs t.deep) (t.sta fn ob x st) (aN st) (cH (aZ st) ws) h=some p->(∃ δ,p.1=.nx δ)\/∃ w,p.1=.rt w) :
  FnS S (k+1) f fd (parsOf st) m :=
 yR F (fun {A L} hr=>jH (aM t.deep) (cZ (x:=x) T B hr hq) _) hb len he hnb
def yS {d:Nat} {ps:List Str} {m:XFW} (hm:∀ ws h,m ws h=none):FnS S d f fd ps m:=⟨fun ws h r e=>(by rw [hm] at e;cases e),fun _ _ _ _ _ _ _ _ e=>(by rw [hm] at e;cases e)⟩
def aM3 (hq:∀ q',t.qn x=some q'->q++".<locals>."=q'.1/\∃ c0,fd.code=.ref c0/\TbS S c0 q'.2) (T:TopOk t S) (F:Fun S.K n q st f fd) (B:TabOk S k fn ob):FnS S (k+1) f fd (parsOf st) (jF t fn ob x st):=by
 by_cases hb:fnB st=true
 ·have op:∀ {ws h r},jF t fn ob x st ws h=some r->ws.length=(parsOf st).length/\∃ p,xSs (evs t.deep) (t.sta fn ob x st) (aN st) (cH (aZ st) ws) h=some p/\jE p=some r:=fun {ws h r} e=>by
   unfold jF at e;obtain ⟨hc,e⟩:=aG e;obtain ⟨p,e1,e2⟩:=bind_some e;exact ⟨hc.2,p,e1,e2⟩
  refine bN3 (x:=x) hq T F B hb (fun ws h r e=>(op e).1) (fun ws h r e=>?_) fun ws h r p e e1=>?_
  ·obtain ⟨_,⟨fl,h1⟩,e1,e2⟩:=op e;refine ⟨_,e1,fun {κ M M2 s s' u} R0 l R hr=>?_⟩;rcases hr with ⟨δ,hp,rfl⟩ | ⟨w,hp,r⟩
   ·cases hp;cases e2;exact (R.pn.go l)
   ·cases hp;cases e2;exact ⟨M2,l,R,r⟩
  ·obtain ⟨_,p',e1',e2⟩:=op e;rw [e1] at e1';cases e1';obtain ⟨fl,h1⟩:=p;cases fl with
   | nx δ=>exact .inl ⟨δ,rfl⟩
   | rt w=>exact .inr ⟨w,rfl⟩
   | _=>cases e2
 ·exact yS fun ws h=>by unfold jF;rw [if_neg fun z=>hb z.1]
def kD (st:Stmt) (Bf:XS):XF:=fun ws h=>if fnB st=true/\ws.length=(parsOf st).length then (Bf (cH (aZ st) ws) h).bind (ends h) else none
def wV {Bf:XS} (F:Fun S.K n q st f fd) (hB:∀ {A:Around} {L:Addr},Room S (k+1) A->SSs (cxF S st q L f fd.code A) (aN st) Bf):FnS S (k+1) f fd (parsOf st) (toW (kD st Bf)):=by
 by_cases hb:fnB st=true
 ·have op:∀ {ws h r},toW (kD st Bf) ws h=some r->ws.length=(parsOf st).length/\∃ p z,Bf (cH (aZ st) ws) h=some p/\ends h p=some (z,r.2)/\r.1=.d z:=fun {ws h r} e=>by
   obtain ⟨⟨z,h2⟩,e0,e⟩:=bind_some e;cases e;unfold kD at e0;obtain ⟨hc,e0⟩:=aG e0;obtain ⟨p,e1,e2⟩:=bind_some e0;exact ⟨hc.2,p,z,e1,e2,rfl⟩
  refine yR F hB hb (fun ws h r e=>(op e).1) (fun ws h r e=>?_) fun ws h r p e e1=>?_
  ·obtain ⟨_,p,z,e1,e2,ez⟩:=op e;refine ⟨_,e1,fun {κ M M2 s s' u} R0 l R hr=>?_⟩;rw [ez];exact aX0 R0 l R e2 hr
  ·obtain ⟨_,p',z,e1',e2,_⟩:=op e;rw [e1] at e1';cases e1';unfold ends at e2
   classical
   obtain ⟨_,e2⟩:=aG e2;obtain ⟨fl,h1⟩:=p;cases fl with
   | nx δ=>exact .inl ⟨δ,rfl⟩
   | rt w=>exact .inr ⟨w,rfl⟩
   | _=>cases e2
 ·exact yS fun ws h=>by unfold toW kD;rw [if_neg fun z=>hb z.1];rfl
def bE9 (hq:∀ q',t.qn x=some q'->q++".<locals>."=q'.1/\∃ c0,fd.code=.ref c0/\TbS S c0 q'.2) (T:TopOk t S) (F:Fun S.K n q st f fd) (B:TabOk S k fn ob):FnS S (k+1) f fd (parsOf st) (toW (tX t fn ob x st)) :=
 wV F fun {A L} hr=>jH (aM t.deep) (cZ (x:=x) T B hr hq) _
abbrev yT (t:Top) (S:Sx) (d:Nat):Prop:=TabOk S d (fnT t fun y=>aE t d y) (obT t (fun y=>callW t d y) (fun y=>callI t d y) fun y=>callM t d y)
def uF (T:TopOk t S):yT t S 0:=by
 refine ⟨fun x m e=>?_,fun x m e=>?_,fun x C m e=>?_,fun x C m e=>?_,T.fo⟩
 ·obtain ⟨s,hs,rfl⟩:=map_some e;exact .inl fun _ _=>rfl
 ·dsimp only at e;split at e
  ·obtain ⟨s,hs,rfl⟩:=map_some e;exact .inl fun _ _=>rfl
  ·cases e
 ·obtain ⟨p,hs,e2⟩:=map_some e;cases e2;exact .inl fun _ _=>rfl
 ·obtain ⟨p,hs,e2⟩:=map_some e;cases e2;exact .inl fun _ _=>rfl
def uG (T:TopOk t S) {d:Nat} (B:yT t S d) (hI:∀ x C s,t.ini x=some (C,s)->(∀ ws h,callI t (d+1) x ws h=none)\/∃ k f fd ps,k+1<=d+1/\Mk S.K C f/\FnS S k f fd ps (callI t (d+1) x)/\S.mg x=some (.ref C)/\eO S.K fd ps):yT t S (d+1):=by
 refine ⟨fun x m e=>?_,fun x m e=>?_,fun x C m e=>?_,fun x C m e=>?_,T.fo⟩
 ·obtain ⟨s,hs,rfl⟩:=map_some e;obtain ⟨f,fd,F,hm,hb⟩:=T.defs x s hs;have e:aE t (d+1) x=tX t (fnT t fun y=>aE t d y) (obT t (fun y=>callW t d y) (fun y=>callI t d y) fun y=>callM t d y) x s:=by
   rw [aE,hs]
  dsimp only;rw [e];exact .inr ⟨f,fd,parsOf s,hm,F.kp,hb,bE9 (fun q' e=>(T.qn x q' e).2.2 _ _ _ F hm) T F B⟩
 ·dsimp only at e;split at e
  ·obtain ⟨s,hs,rfl⟩:=map_some e;obtain ⟨f,fd,F,hm,hb⟩:=T.defs x s hs;have e:callW t (d+1) x=jF t (fnT t fun y=>aE t d y) (obT t (fun y=>callW t d y) (fun y=>callI t d y) fun y=>callM t d y) x s:=by
    rw [callW,hs]
   try dsimp only
   rw [e];exact .inr ⟨f,fd,parsOf s,hm,F.kp,hb,aM3 (fun q' e=>(T.qn x q' e).2.2 _ _ _ F hm) T F B⟩
  ·cases e
 ·obtain ⟨⟨C',s⟩,hs,e2⟩:=map_some e;cases e2;exact hI x _ s hs
 ·obtain ⟨⟨C',s⟩,hs,e2⟩:=map_some e;cases e2;obtain ⟨hc,n,q,f,fd,F,hM,hb⟩:=T.mt x _ s hs;have e:callM t (d+1) x=jF t (fnT t fun y=>aE t d y) (obT t (fun y=>callW t d y) (fun y=>callI t d y) fun y=>callM t d y) x s:=by
   rw [callM,hs]
  dsimp only;rw [e];exact .inr ⟨hc,f,fd,parsOf s,hM,aM3 (fun q' e=>by rw [(T.qn x q' e).1] at hs;cases hs) T F B,hb⟩
theorem eB (T:TopOk t S):∀ d,yT t S d
 | 0=>uF T
 | 1=>uG T (uF T) fun x C s _=>.inl fun _ _=>rfl
 | d+2=>uG T (eB T (d+1)) fun x C s hs=>by
  obtain ⟨n,q,f,fd,F,hM,hm,hb⟩:=T.ini x C s hs;have e:callI t (d+2) x=jF t (fnT t fun y=>aE t d y) (obT t (fun y=>callW t d y) (fun y=>callI t d y) fun y=>callM t d y) x s:=by
   rw [callI,hs]
  refine .inr ⟨d+1,f,fd,parsOf s,Nat.le_refl _,hM,?_,hm,hb⟩;show FnS S (d+1) f fd (parsOf s) (callI t (d+2) x);rw [e];exact aM3 (fun q' e=>by rw [(T.qn x q' e).2.1] at hs;cases hs) T F (eB T d)
end
end DL

namespace Att
open PySem PySem.W PySem.Calls PyProof.Rows

def mQ {P:Params} {h:Heap}:∀ (ns:List Int) (vs:List Value),WellAll P h vs (ns.map WData.int)->IntsAre vs ns:=by
 intro ns;induction ns with
 | nil =>
  intro vs w;rw [List.map_nil] at w;cases w;exact .nil
 | cons n ns ih =>
  intro vs w;rw [List.map_cons] at w;cases w with
  | cons a b =>
   cases a;exact .cons _ _ (ih _ b)

def aC1 {l:OpenLaw} {n:Nat} (hn:l.most=some n) {P:Params} {h:Heap} {args:List WData} {vals:List Value}
  (hpre:l.row.toRowW.claim.pre args=true) (hwl:WellAll P h vals args) :
  ∃ a vs ns,vals=[Value.ref a]/\args=[WData.list (ns.map WData.int)]/\h.get? a=some { cls:=.type "list",data:=.seq vs.toArray }/\IntsAre vs ns/\ns.length<=n:=by
 have hsh:WShape.hasAll [] args [.list .int]=true:=(pre_splitW hpre).1;have hc:l.pre.holds [] { args:=args }=true:=(pre_splitW hpre).2;obtain ⟨d,r,rfl,h1,h2⟩:=hasAllW_cons hsh;obtain rfl:=hasAllW_nil h2;obtain ⟨xs,rfl,h3⟩:=hasW_list h1;obtain ⟨ns,rfl⟩:=items_int h3;have hlen:ns.length<=n:=by
  unfold OpenLaw.pre at hc;have h4:(WTm.not (.lt (.lit (.int (n:Int))) (.len (.arg 0)))).holds [] { args:=[.list (ns.map .int)] }=true:=by
   have h4:=(holds_andW hc).1;rw [hn] at h4;exact h4
  have h5:=condW_of h4 (w_not (w_lt w_lit (w_len_list (w_arg rfl))));rw [List.length_map] at h5;refine Nat.le_of_not_lt fun q=>?_;have q':(n:Int) < ((ns.length:Nat):Int):=by omega
  first
   | (rw [decide_eq_true q'] at h5;exact absurd h5 (by decide))
   | (simp at h5;omega)
 cases hwl with
 | cons w1 w2 =>
  cases w2;cases w1 with
  | list ho hall=>exact ⟨_,_,ns,rfl,rfl,ho,mQ ns _ hall,hlen⟩

def aC2 (l:OpenLaw) (args:List WData):l.row.toRowW.claim.post args (.bool true) args=true :=
 postW_of (r:=l.row.toRowW) (X:=(true==true))
  (show WShape.has [] (.bool true) .bool=true by first | rfl | decide | simp [WShape.has,WShape.arms,WShape.armsAll])
  (show (WTm.eq .res (.lit (.bool true))).value [] { args:=args,res:=some (.bool true),after:=args }=some (.bool (true==true)) from w_eq_bool (w_res rfl) w_lit) rfl

def attach_call {l:OpenLaw} {n:Nat} {q:Program} {loose:List Str} {XP:(Str->Option Value)->Heap->Prop} {YP:World->Heap->Prop} {d:DefRec}
  (hn:l.most=some n) (hdf:d.params.defaults=[])
  (call:∀ (w:World) (s₀ s₁:Shared) (mg mb:Str->Option Value) (fa:Addr) (o:Obj) (pm cd doc:Value) (a:Addr) (vs:List Value) (ns:List Int),
   Ground q loose [] XP w s₀ mg mb s₁.heap->YP w s₁.heap ->
   s₁.heap.get? fa=some o->o.data=.func (docDef d.name d.params d.body d.scope pm cd doc)->s₁.heap.CodeRec cd d.name->mg d.name=some (.ref fa) ->
   s₁.heap.get? a=some { cls:=.type "list",data:=.seq vs.toArray }->IntsAre vs ns->ns.length<=n->s₁.gens=#[] ->
   codeAny (model l.prog w) callerA (.call (.ref fa) ⟨[.ref a],[]⟩) (fun r s'=>r=.ok (.ret (.bool true))/\OldK s₁.heap s'.heap/\s'.os=s₁.os/\AllBare s'.gens) s₁) :
  WalkO q loose XP YP l.row.toRowW d [] (fun f vs=>PySem.call f vs):=by
 intro w s₀ s₁ mg mb G Y fa o pm cd doc dV kV ho hd hcd hD hmg hg args vals as hpre hlay hrd hwl hlo;obtain rfl:dV=.none:=Dflts.none hD hdf;obtain rfl:kV=.none:=Dflts.noKw hD;obtain ⟨a,vs,ns,rfl,rfl,hobj,hints,hlen⟩:=aC1 hn hpre hwl;refine enter_call (codeAny_mono (call w s₀ s₁ mg mb fa o pm cd doc a vs ns G Y ho (fd_plain hd) hcd hmg hobj hints hlen hg) fun r s' hq=>?_);obtain ⟨rfl,h2,h3,h4⟩:=hq;exact ⟨.inl ⟨.bool true,.bool true,[],rfl,fun _=>rfl,.bool true,aC2 l _,fun _=>⟨List.Pairwise.nil,fun _ hm=>(nomatch hm)⟩⟩,h2,h3,h4⟩

end Att

namespace CI
open PySem PySem.Spec PyProof.Rows L2 DL
noncomputable def bF0 (x:Str):Stmt->Bool
 | .FunctionDef n _ _ _ _ _ _ _ _ _=>n==x
 | _=>false
def wW (b:List Stmt) (x:Str):Option Stmt:=b.find? (bF0 x)
noncomputable def yU:Nat->Expr->Option PyData
 | _,.Constant (.int i) _ _=>some (.int i)
 | _,.Constant (.str x) _ _=>some (.str x)
 | _,.Constant (.bool x) _ _=>some (.bool x)
 | _,.Constant .none _ _=>some .none
 | n+1,.Tuple es _ _=>(es.mapM (yU n)).map .tuple
 | _,_=>none
def bN4 (b:List Stmt) (x:Str):Option PyData:=b.findSome? fun s=>match s with
 | .Assign [.Name y _] e _=>if y==x&&!(x==("__name__":Str)) then yU 4 e else none
 | _=>none
def bN5:List (Option Expr)->List Expr->Option (List (Str×PyData))
 | [],[]=>some []
 | some (.Constant (.str x) _ _)::ks,e::vs=>(yU 4 e).bind fun i=>(bN5 ks vs).map ((x,i)::·)
 | _,_=>none
noncomputable def tkS:(s:Stmt)->Option (Str×List (Option Expr)×List Expr)
 | .Assign [.Name y _] (.Dict ks vs _) _=>some (y,ks,vs)
 | _=>none
def bN6 (b:List Stmt) (x:Str):Option (Str->Option PyData):=b.findSome? fun s=>(tkS s).bind fun y=>if y.1==x then (bN5 y.2.1 y.2.2).map fun t z=>t.lookup z else none
noncomputable def blAll:List Str:=["len","tuple","all","any","isinstance","int","bool","str","list","range","sorted","set","zip","enumerate","dict","max","min","sum","reversed","abs"]
def bF1 (b:List Stmt) (ac:Str->List Nat) (cv:Str->List Str) (fuel deep:Nat) (wf:Str->Bool:=fun _=>false) (ini mt:Str->Option (Addr×Stmt):=fun _=>none) (fo:Addr->Str->Bool:=fun _ _=>false) (qn:Str->Option (Str×Pos):=fun _=>none):Top:=⟨blAll,bN4 b,bN6 b,wW b,ac,cv,fuel,deep,wf,ini,mt,fo,qn,false⟩
def gcl (b:List Stmt):List (Str×PyData):=b.filterMap fun s=>match s with
 | .Assign [.Name y _] e _=>if !(y==("__name__":Str)) then (yU 4 e).map (y,·) else none
 | _=>none
def bN7 {b:List Stmt} {x:Str} {z:PyData} (h:bN4 b x=some z):(x,z)∈gcl b:=by
 obtain ⟨s,hs,e⟩:=List.exists_of_findSome?_eq_some h;refine List.mem_filterMap.mpr ⟨s,hs,?_⟩;split at e
 ·rename_i y p e0 q;split at e
  ·rename_i hc;rw [Bool.and_eq_true] at hc;have:y=x:=eq_of_beq hc.1;subst this;try simp only []
   rw [if_pos hc.2,e];rfl
  ·cases e
 ·cases e
def tkl (b:List Stmt):List (Str×List (Str×PyData)):=b.filterMap fun s=>(tkS s).bind fun y=>(bN5 y.2.1 y.2.2).map (y.1,·)
def bN8 {b:List Stmt} {x:Str} {f:Str->Option PyData} (h:bN6 b x=some f):∃ t,(x,t)∈tkl b/\f=fun z=>t.lookup z:=by
 obtain ⟨s,hs,e⟩:=List.exists_of_findSome?_eq_some h;obtain ⟨y,ey,e1⟩:=Option.bind_eq_some_iff.mp e;obtain ⟨hc,e2⟩:=aG e1;have:y.1=x:=eq_of_beq hc;subst this;obtain ⟨t,et,rfl⟩:=Option.map_eq_some_iff.mp e2;refine ⟨t,List.mem_filterMap.mpr ⟨_,hs,?_⟩,rfl⟩;rw [ey,Option.bind_some,et];rfl
noncomputable def dfl (b:List Stmt):List (Str×Stmt):=b.filterMap fun s=>match s with
 | .FunctionDef n _ _ _ _ _ _ _ _ _=>some (n,s)
 | _=>none
def bN9 {b:List Stmt} {x:Str} {s:Stmt} (h:wW b x=some s):(x,s)∈dfl b:=by
 have h1:=List.find?_some h;have h2:=List.mem_of_find?_eq_some h;refine List.mem_filterMap.mpr ⟨s,h2,?_⟩;unfold bF0 at h1;split at h1
 ·simp only [eq_of_beq h1]
 ·cases h1
def uH {x k:Str} {hh:Int} {t:Tok} {v:Value} {es:List DictEntry}:findBy Value.isStrOf (⟨hh,.str k t,v⟩::es).toArray x=if k=x then some v else findBy Value.isStrOf es.toArray x:=by
 unfold findBy;simp only [List.find?_toArray,List.find?_cons,Value.isStrOf]
 by_cases e:k=x
 ·simp [e]
 ·have:(k==x)=false:=beq_eq_false_iff_ne.mpr e;simp [e,this]
section
variable {K:PySem.W.Frag} {S:Sx}
def wX {x qual:Str} {st:Stmt} {f:Addr} {oc:Value} {od an:Option Addr} {osl:Array (Option Value)} {kV doc pm cdv ct:Value} (l:K.lookup f=some ⟨oc,od,.func (PySem.W.fnOf x qual (cM st) (aN st) (defScope st) .none kV doc pm an cdv ct),osl⟩)
  (c:PySem.W.codeIn K cdv qual=true) (k:PySem.W.keepIn K (.ref f)=true):Fun K x qual st f (PySem.W.fnOf x qual (cM st) (aN st) (defScope st) .none kV doc pm an cdv ct):=⟨⟨oc,od,kV,doc,pm,an,cdv,ct,osl,rfl,l,c⟩,k⟩
abbrev BA (n q:Str) (s:Stmt) (us:List Value):Prop:=∀ (kV doc pm:Value) (an:Option Addr) (cdv ct:Value),bindArgs (PySem.W.fnOf n q (cM s) (aN s) (defScope s) .none kV doc pm an cdv ct) ⟨us,[]⟩=pure ((parsOf s).zip us)
def _root_.DL.Fun.binds {x q:Str} {st:Stmt} {f:Addr} {fd:FuncData} (F:Fun K x q st f fd) (h:∀ us:List Value,us.length=(parsOf st).length->BA x q st us):eO K fd (parsOf st):=by
 obtain ⟨oc,od,kV,doc,pm,an,cdv,ct,osl,rfl,lk,hcd⟩:=F.ex;exact fun s us _ hl=>.of_eq (h us hl kV doc pm an cdv ct)
def FI (K:PySem.W.Frag) (n:Str) (s:Stmt):Prop:=∃ (f:Addr) (od an:Option Addr) (sl:Array (Option Value)) (oc kV dc pm cd ct:Value),PySem.W.nsIn K mainGlobals n=some (some (.ref f))/\K.lookup f=some ⟨oc,od,.func (PySem.W.fnOf n n (cM s) (aN s) (defScope s) .none kV dc pm an cd ct),sl⟩/\PySem.W.codeIn K cd n=true/\PySem.W.keepIn K (.ref f)=true
def fi_mk {n:Str} {s:Stmt} {f:Addr} {od an:Option Addr} {sl:Array (Option Value)} {oc kV dc pm cd ct:Value} (a:PySem.W.nsIn K mainGlobals n=some (some (.ref f))) (l:K.lookup f=some ⟨oc,od,.func (PySem.W.fnOf n n (cM s) (aN s) (defScope s) .none kV dc pm an cd ct),sl⟩) (c:PySem.W.codeIn K cd n=true) (k:PySem.W.keepIn K (.ref f)=true):FI K n s:=⟨_,_,_,_,_,_,_,_,_,_,a,l,c,k⟩
abbrev FR (K:PySem.W.Frag) (mg:Str->Option Value) (n:Str) (s:Stmt):Prop:=∃ f fd,Fun K n n s f fd/\mg n=some (.ref f)/\eO K fd (parsOf s)
variable {n q:Str} {s:Stmt} {h:Heap} {mg:Str->Option Value}
def FI.ok (a:FI K n s) (X:K.In h) (G:h.Ns mainGlobals mg) (hb:∀ us:List Value,us.length=(parsOf s).length->BA n n s us):FR K mg n s:=by
 obtain ⟨f,od,an,sl,oc,kV,dc,pm,cd,ct,a,l,c,k⟩:=a;have F:=wX (st:=s) l c k;exact ⟨f,_,F,PySem.W.mg_of X G a,F.binds hb⟩
def cM1 {P:Str->Stmt->Prop}:∀ p∈([]:List (Str×Stmt)),P p.1 p.2:=fun _ z=>nomatch z
def cM2 {P:Str->Stmt->Prop} {x:Str} {s:Stmt} {l:List (Str×Stmt)} (a:P x s) (b:∀ p∈l,P p.1 p.2):∀ p∈(x,s)::l,P p.1 p.2:=List.forall_mem_cons.mpr ⟨a,b⟩
def FI.ok1 (a:FI K n s) (X:K.In h) (G:h.Ns mainGlobals mg) (hn:(parsOf s).length=1) (hb:∀ u,BA n n s [u]):FR K mg n s:=a.ok X G fun us hl=>by
 rw [hn] at hl
 match us,hl with
 | [u],_=>exact hb u
def FI.ok2 (a:FI K n s) (X:K.In h) (G:h.Ns mainGlobals mg) (hn:(parsOf s).length=2) (hb:∀ u v,BA n n s [u,v]):FR K mg n s:=a.ok X G fun us hl=>by
 rw [hn] at hl
 match us,hl with
 | [u,v],_=>exact hb u v
def FI.ok3 (a:FI K n s) (X:K.In h) (G:h.Ns mainGlobals mg) (hn:(parsOf s).length=3) (hb:∀ u v x,BA n n s [u,v,x]):FR K mg n s:=a.ok X G fun us hl=>by
 rw [hn] at hl
 match us,hl with
 | [u,v,x],_=>exact hb u v x
def FI.ok4 (a:FI K n s) (X:K.In h) (G:h.Ns mainGlobals mg) (hn:(parsOf s).length=4) (hb:∀ u v x y,BA n n s [u,v,x,y]):FR K mg n s:=a.ok X G fun us hl=>by
 rw [hn] at hl
 match us,hl with
 | [u,v,x,y],_=>exact hb u v x y
def FI.ok5 (a:FI K n s) (X:K.In h) (G:h.Ns mainGlobals mg) (hn:(parsOf s).length=5) (hb:∀ u v x y z,BA n n s [u,v,x,y,z]):FR K mg n s:=a.ok X G fun us hl=>by
 rw [hn] at hl
 match us,hl with
 | [u,v,x,y,z],_=>exact hb u v x y z
def bO0 {a:Addr} {n:Nat} {ws:List Int} {its:Array Value} (X:K.In h) (l:K.lookup a=some ⟨.type "tuple",none,.seq its n,#[]⟩) (hv:Paired (fun (i:Int) v=>∃ t,v=.int i t) ws its.toList) (hs:its.size<=sizeLine):Rep S h.get? (.tuple (ws.map .int)) (.ref a) :=
 rep_t.mpr ⟨a,_,its.toList,rfl,X a _ l,⟨⟨n,by rw [Array.toArray_toList]⟩,by rw [Array.length_toList];exact hs⟩,tJ (nG (fun _ _ x=>rep_i.mpr x) hv)⟩
def rV {a:Addr} {n:Nat} {ws:List Str} {its:Array Value} (X:K.In h) (l:K.lookup a=some ⟨.type "tuple",none,.seq its n,#[]⟩) (hv:Paired (fun (i:Str) v=>(∃ t,v=.str i t)/\PyData.strOk i=true) ws its.toList) (hs:its.size<=sizeLine):Rep S h.get? (.tuple (ws.map .str)) (.ref a) :=
 rep_t.mpr ⟨a,_,its.toList,rfl,X a _ l,⟨⟨n,by rw [Array.toArray_toList]⟩,by rw [Array.length_toList];exact hs⟩,tJ (nG (fun _ _ x=>rep_s.mpr x) hv)⟩
theorem uI {Z:Zm}:∀ {ns:List Int} {vs:List Value},IntsAre vs ns->Paired (Rep S Z) (ns.map .int) vs
 | _,_,.nil=>.nil
 | _,_,.cons n t h=>.cons (rep_i.mpr ⟨t,rfl⟩) (uI h)
end
def Top.fv (t:Top) (l:List Str):Top:={ t with gc:=fun x=>if l.contains x=true then some (fkD x) else t.gc x }
def TopOk.fv {S:Sx} {t:Top} (T:TopOk t S) {l:List Str} (hl:∀ x,l.contains x=true->∃ s,t.defs x=some s):TopOk (t.fv l) S where
 bl:=T.bl
 gc:=fun x z e=>by
  have e:(if l.contains x=true then some (fkD x) else t.gc x)=some z:=e
  by_cases h:l.contains x=true
  ·rw [if_pos h] at e;cases e;obtain ⟨s,hs⟩:=hl x h;obtain ⟨f,fd,_,mg,_⟩:=T.defs x s hs;exact ⟨_,mg,(aF4 rfl).mpr ⟨⟨f,rfl⟩,mg⟩⟩
  ·rw [if_neg h] at e;exact T.gc x z e
 tk:=T.tk
 defs:=T.defs
 ini:=T.ini
 mt:=T.mt
 fo:=T.fo
 hm:=T.hm
 qn:=T.qn
end CI

namespace CI
open PySem PySem.Spec PyProof.Rows L2 DL
section
variable {K:PySem.W.Frag} {mg:Str->Option Value}
def aC3 {P:Program} {w:World} {mb:Str->Option Value} {k:Nat} {fa a Pt c0:Addr} {fd:FuncData} {x:Str} {m:XF} {s₁:Shared} {vs:List Value} {ns:List Int} {qs:List (Pos×Str)}
  (KX:K.In s₁.heap) (hns:s₁.heap.Ns mainGlobals mg) (hb:s₁.heap.Ns builtinsNs mb) (hbb:∀ x:Str,x≠"__name__"->mb x=bootBuiltins x) (hlim:s₁.heap.NoLimit) (hg:s₁.gens=#[])
  (ha:s₁.heap.get? a=some { cls:=.type "list",data:=.seq vs.toArray }) (hi:IntsAre vs ns) (hl:ns.length<=sizeLine) (hr:∀ S:Sx,Room S k callerA)
  (hPt:s₁.heap.get? Pt=some (PySem.W.tabObj #[])) (hKP:K.lookup Pt=none) (hcd:PySem.W.codeHdIn K c0 Pt=true)
  (hbm:∃ bm ob,mg "__builtins__"=some (.ref bm)/\bm≠builtinsNs/\s₁.heap.get? bm=some ob/\ob.cls=.type "module"/\ob.dict=some builtinsNs/\ob.data=.plain)
  (F:∀ base:Heap,K.In base->base.Ns mainGlobals mg->base.BuiltinsAt mg Pt->FnS ⟨P,w,K,mg,base,s₁.os,#[],Pt,false⟩ k fa fd [x] (toW m)) (hbind:BindsTo s₁ fd ⟨[.ref a],[]⟩ [(x,.ref a)]) (e:m [.d (.list (ns.map .int))] [.t []]=some (.bool true,[.t qs])) :
  codeAny (model P w) callerA (.call (.ref fa) ⟨[.ref a],[]⟩) (fun r s'=>r=.ok (.ret (.bool true))/\OldK s₁.heap s'.heap/\s'.os=s₁.os/\AllBare s'.gens) s₁:=by
 have haP:a≠Pt:=fun z=>by rw [z,hPt] at ha;cases ha
 have get:∀ {b:Addr} {o:Obj},s₁.heap.get? b=some o->b≠Pt->(PySem.W.hideAll s₁.heap [Pt]).get? b=some o:=fun e n=>PySem.W.hideAll_get [Pt] e (by simpa using n);have back:∀ {b:Addr} {o:Obj},(PySem.W.hideAll s₁.heap [Pt]).get? b=some o->s₁.heap.get? b=some o:=fun e=>PySem.W.of_hideAll [Pt] e;have non:(PySem.W.hideAll s₁.heap [Pt]).get? Pt=none:=PySem.W.hideAll_none [Pt] (by simp);have hsz:(PySem.W.hideAll s₁.heap [Pt]).objs.size=s₁.heap.objs.size:=PySem.W.hideAll_size _ _;generalize PySem.W.hideAll s₁.heap [Pt]=base at get back non hsz;have nsK:∀ {b:Addr} {m:Str->Option Value},s₁.heap.Ns b m->base.Ns b m:=fun {b m} ⟨o,es,ep,e,d,r⟩=>⟨o,es,ep,get e (fun z=>by
  rw [z,hPt] at e;cases e;exact Data.noConfusion (show Data.fields #[]=Data.dict es ep from d)),d,r⟩
 have hKb:K.In base:=fun b o e=>get (KX b o e) fun z=>by rw [z,hKP] at e;cases e
 have hB:base.BuiltinsAt mg Pt:=by
  obtain ⟨bm,ob,b1,b2,b3,b4,b5,b6⟩:=hbm;have bP:bm≠Pt:=fun z=>by rw [z,hPt] at b3;cases b3;cases b6
  have bg:bm≠mainGlobals:=fun z=>by
   obtain ⟨o,es,ep,e,d,_⟩:=hns;rw [<- z,b3] at e;cases e;rw [b6] at d;cases d
  exact ⟨bm,ob,b1,b2,bg,bP,get b3 bP,b4,b5,b6⟩
 have R:Mem ⟨P,w,K,mg,base,s₁.os,#[],Pt,false⟩ (fun _=>none) ⟨base.get?,[(Pt,Pt)]⟩ [.t []] s₁:=by
  refine ⟨fun _ _ e=>back e,fun _ _ _ e=>(by cases e),rfl,fun i j p q e1 e2 ne=>?_,fun p hp b hb=>?_,fun i p c e1 e2=>?_,fun _ _ e=>e,.of_eq hg,rfl⟩
  ·have h1:=(List.getElem?_eq_some_iff.mp e1).1;have h2:=(List.getElem?_eq_some_iff.mp e2).1;simp at h1 h2;omega
  ·cases List.mem_singleton.mp hp;have:b=Pt:=hb.elim id id;subst this;exact ⟨non,rfl,_,hPt⟩
  ·cases i with
   | zero =>
    simp at e1 e2;subst e1 e2;exact ⟨[],hPt,.nil,rfl⟩
   | succ i=>simp at e1
 have md:Mod ⟨P,w,K,mg,base,s₁.os,#[],Pt,false⟩:=⟨hKb,nsK hns,⟨mb,nsK hb,hbb⟩,hlim.imp fun _ z=>z.imp nsK id⟩;have e':toW m [.d (.list (ns.map .int))] [.t []]=some (.d (.bool true),[.t qs]):=by unfold toW;rw [e];rfl
 have hv:=uI (S:=⟨P,w,K,mg,base,s₁.os,#[],Pt,false⟩) (Z:=base.get?) hi;have hlen:=hv.length;rw [List.length_map] at hlen;refine codeAny_mono ((F base hKb (nsK hns) hB).run (us:=[.ref a]) (hr _) (.inl rfl) ⟨[],rfl,fun _ z=>nomatch z⟩ md (Nat.le_of_eq hsz) R hbind (ws:=[.d (.list (ns.map .int))]) (.cons (rep_l.mpr ⟨a,_,vs,rfl,get ha haP,⟨⟨0,rfl⟩,by omega⟩,hv⟩) .nil) e') fun r s' ⟨u,hq,M',l,R',ru⟩=>?_;subst hq;cases wb.mp ru;obtain ⟨cs,hP',_,_⟩:=R'.cel 0 (Pt,Pt) (.t qs) (l.at rfl) rfl;have hP':s'.heap.get? Pt=some (PySem.W.tabObj (#[]++(eQ qs cs).toArray)):=hP';have keep:∀ b o,b≠Pt->s₁.heap.get? b=some o->s'.heap.get? b=some o:=fun b o hb e=>R'.bk b o (get e hb);refine ⟨rfl,⟨fun b o e=>?_,fun b o e=>?_⟩,R'.os,R'.bare⟩
 ·by_cases hb:b=Pt
  ·subst hb;rw [hPt] at e;cases e;have C:=PySem.W.codeHd_of_K KX hcd;exact .inr (.inl ⟨(C.tab hPt).isCodeTable,rfl,#[],_,rfl,hP'⟩)
  ·exact .inl (keep b o hb e)
 ·by_cases hb:b=Pt
  ·subst hb;exact ⟨_,hP'⟩
  ·exact ⟨o,keep b o hb e⟩
def aM4 {l:PySem.W.OpenLaw} {n k:Nat} {q:Program} {loose:List Str} {XP:(Str->Option Value)->Heap->Prop} {YP:World->Heap->Prop} {d:DefRec} {K:Params->PySem.W.Frag} {m:XF} {x:Str} {Pt c0:Addr}
  (hn:l.most=some n) (hn2:n<=sizeLine) (hdf:d.params.defaults=[]) (hr:∀ S:Sx,Room S k callerA)
  (hY:∀ (w:World) (h:Heap),YP w h->(K w.params).In h/\h.get? Pt=some (PySem.W.tabObj #[])) (hKP:∀ w:World,(K w.params).lookup Pt=none) (hcd:∀ w:World,PySem.W.codeHdIn (K w.params) c0 Pt=true)
  (F:∀ (w:World) (mg:Str->Option Value) (fa:Addr) (h:Heap) (os:OsState),(K w.params).In h->h.Ns mainGlobals mg->mg d.name=some (.ref fa) ->
   ∃ fd:FuncData,(∀ (s:Shared) (u:Value),BindsTo s fd ⟨[u],[]⟩ [(x,u)])/\∀ base:Heap,(K w.params).In base->base.Ns mainGlobals mg->base.BuiltinsAt mg Pt->FnS ⟨l.prog,w,K w.params,mg,base,os,#[],Pt,false⟩ k fa fd [x] (toW m))
  (hm:∀ ns:List Int,ns.length<=n->∃ qs,m [.d (.list (ns.map .int))] [.t []]=some (.bool true,[.t qs])) :
  PySem.W.WalkO q loose XP YP l.row.toRowW d [] (fun f vs=>PySem.call f vs):=by
 refine Att.attach_call hn hdf fun w s₀ s₁ mg mb fa o pm cd doc a vs ns G Y ho hd hcd' hmg hobj hints hlen hg=>?_;obtain ⟨KX,hP⟩:=hY w _ Y;obtain ⟨fd,hb,hF⟩:=F w mg fa s₁.heap s₁.os KX G.T.g hmg;obtain ⟨qs,e⟩:=hm ns hlen;exact aC3 KX G.T.g G.T.b G.T.builtins G.T.nolimit hg hobj hints (Nat.le_trans hlen hn2) hr hP (hKP w) (hcd w) G.T.bmain hF (hb _ _) e
def FIT (K:PySem.W.Frag) (n:Str) (s:Stmt) (Pt:Addr):Prop:=∃ (f c0:Addr) (od an:Option Addr) (sl:Array (Option Value)) (oc kV dc pm ct:Value),PySem.W.nsIn K mainGlobals n=some (some (.ref f))/\K.lookup f=some ⟨oc,od,.func (PySem.W.fnOf n n (cM s) (aN s) (defScope s) .none kV dc pm an (.ref c0) ct),sl⟩/\PySem.W.codeIn K (.ref c0) n=true/\PySem.W.keepIn K (.ref f)=true/\PySem.W.codeHdIn K c0 Pt=true
def fit_mk {n:Str} {s:Stmt} {Pt f c0:Addr} {od an:Option Addr} {sl:Array (Option Value)} {oc kV dc pm ct:Value} (a:PySem.W.nsIn K mainGlobals n=some (some (.ref f))) (l:K.lookup f=some ⟨oc,od,.func (PySem.W.fnOf n n (cM s) (aN s) (defScope s) .none kV dc pm an (.ref c0) ct),sl⟩) (c:PySem.W.codeIn K (.ref c0) n=true) (k:PySem.W.keepIn K (.ref f)=true) (hd:PySem.W.codeHdIn K c0 Pt=true):FIT K n s Pt:=⟨_,_,_,_,_,_,_,_,_,_,a,l,c,k,hd⟩
def FIT.fi {n:Str} {s:Stmt} {Pt:Addr} (a:FIT K n s Pt):FI K n s:=by
 obtain ⟨f,c0,od,an,sl,oc,kV,dc,pm,ct,a,l,c,k,_⟩:=a;exact ⟨f,od,an,sl,oc,kV,dc,pm,.ref c0,ct,a,l,c,k⟩
def FIT.code {S:Sx} {h:Heap} {n:Str} {s s':Stmt} {f:Addr} {fd:FuncData} (a:FIT S.K n s S.tp) (X:S.K.In h) (G:h.Ns mainGlobals S.mg) (F:Fun S.K n n s' f fd) (hf:S.mg n=some (.ref f)) (htb:S.tb=#[]) (hbm:S.base.BuiltinsAt S.mg S.tp) (pos:Pos):∃ c0,fd.code=.ref c0/\TbS S c0 pos:=by
 obtain ⟨f',c0,od,an,sl,oc,kV,dc,pm,ct,a,l,c,k,hd⟩:=a;have e:=hf.symm.trans (PySem.W.mg_of X G a);cases e;obtain ⟨oc',od',kV',doc',pm',an',cdv',ct',osl',rfl,lk,_⟩:=F.ex;rw [l] at lk;have e2:=congrArg (fun o:Option Obj=>(o.map (·.data))) lk;have e3:Data.func (PySem.W.fnOf n n (cM s) (aN s) (defScope s) .none kV dc pm an (.ref c0) ct)=Data.func (PySem.W.fnOf n n (cM s') (aN s') (defScope s') .none kV' doc' pm' an' cdv' ct'):=Option.some.inj e2;have e4:=congrArg (fun d:Data=>match d with | .func fd=>fd.code | _=>.none) e3;have e5:Value.ref c0=cdv':=e4;exact ⟨c0,e5.symm,hd,by rw [htb];exact True.intro,by rw [htb];rfl,hbm⟩
end
end CI

namespace CI
open PySem PySem.Spec PyProof.Rows L2 DL
@[simp] theorem rW (j:Nat) (y x:PyData) (δ:DSt) (h:aA):kX j y x δ h=match h[j]?,y with
   | some (.l xs),.int k=>(ixN xs.length k).map fun n=>(δ,h.set j (.l (xs.set n x)))
   | some (.r ws),.int k=>(ixN ws.length k).map fun n=>(δ,h.set j (.r (ws.set n (.d x))))
   | _,_=>none:=rfl
@[simp] theorem cP6 (j:Nat) (x:PyData) (h:aA):tT (.c j) [.d x] h=match h[j]? with
 | some (.l xs)=>if xs.length < sizeLine then some (.d .none,h.set j (.l (xs++[x]))) else none
 | _=>none:=rfl
@[simp] theorem cP7 (j k:Nat) (h:aA):tT (.c j) [.c k] h=match h[j]? with
 | some (.r is)=>if is.length < sizeLine then some (.d .none,h.set j (.r (is++[.c k]))) else none
 | _=>none:=rfl
def bO1 {a b:String} (h:Str.ofString a=Str.ofString b):a=b:=by
 simp only [Str.ofString_eq_byList] at h;unfold Str.ofStringByList at h;have h1:=congrArg Str.cps h;have h2:(a.toList.map Char.toNat)=(b.toList.map Char.toNat):=by
  have:=congrArg Array.toList h1
  simpa using this
 have h3:a.toList=b.toList:=by
  refine (List.map_inj_right ?_).mp h2;intro x y e;exact Char.toNat_inj.mp e
 exact String.toList_inj.mp h3
@[simp] theorem bY4 (a b:String):(Str.ofString a=Str.ofString b)=(a=b):=propext ⟨bO1,fun e=>by rw [e]⟩
@[simp] theorem cM3 (a b:String):(Str.ofString a==Str.ofString b)=(a==b):=by
 rw [Bool.eq_iff_iff,beq_iff_eq,beq_iff_eq,bY4]
end CI
namespace DL
open PySem PySem.Spec PyProof.Rows L2
@[simp] theorem cM4 (i j:Int):PyData.eqv (.int i) (.int j)=decide (i=j):=by rw [PyData.eqv];exact Bool.beq_eq_decide_eq i j
@[simp] theorem cM5 (i j:Str):PyData.eqv (.str i) (.str j)=(i==j):=by rw [PyData.eqv]
@[simp] theorem at0 {a:PyData} {r:List PyData}:atI (a::r) 0=some a:=by simp [atI,ixN]
@[simp] theorem at1 {a b:PyData} {r:List PyData}:atI (a::b::r) 1=some b:=by
 have:(1:Int) < (r.length:Int)+1+1:=by omega
 simp [atI,ixN,this]
@[simp] theorem at2 {a b c:PyData} {r:List PyData}:atI (a::b::c::r) 2=some c:=by
 have:(2:Int) < (r.length:Int)+1+1+1:=by omega
 simp [atI,ixN,this]
@[simp] theorem at3 {a b c d:PyData} {r:List PyData}:atI (a::b::c::d::r) 3=some d:=by
 have:(3:Int) < (r.length:Int)+1+1+1+1:=by omega
 simp [atI,ixN,this]
@[simp] theorem ix0 (n:Nat):ixN (n+1) 0=some 0:=by
 have:(0:Int) < ((n+1:Nat):Int):=by omega
 simp only [ixN,this,Int.le_refl,if_true];rfl
def ix_nat {n i:Nat} (h:i < n):ixN n (i:Int)=some i:=by
 have h1:(i:Int) < (n:Int):=by omega
 have h2:(0:Int)<=(i:Int):=by omega
 simp [ixN,h1,h2]
@[simp] theorem bY5 (h:aA) (i:Nat) (a:Cell):(h.set i a).take h.length=h.set i a:=by
 rw [List.take_of_length_le (by simp)]
@[simp] theorem cT5:ixN 3 2=some 2:=rfl
@[simp] theorem cT6:ixN 3 0=some 0:=rfl
end DL
namespace L2
def fV {α:Type} {xs:List α} {j:Nat} {v:α} (h:xs[j]?=some v):atI xs (j:Int)=some v:=by
 unfold atI;rw [DL.ix_nat (List.getElem?_eq_some_iff.mp h).1];exact h
end L2
namespace DL
open PySem
def szl:sizeLine=16777216:=rfl
end DL

namespace SJ
open PySem
set_option genInjectivity true in
inductive One where
 | read (k:Nat) | write (k:Nat) (v:Int) | add (k:Nat) (n:Int) | swap (k:Nat) (o n:Int)
set_option genInjectivity true in
inductive Call where
 | one (c:One) | span (lo hi:Nat) | deal (cs:List One)
set_option genInjectivity true in
inductive Stp where
 | call (c:Call) | look (c:Call) | lay (ps:List (Nat×Int))
def One.dat:One->PyData
 | .read k=>.tuple [.str "read",.int k]
 | .write k v=>.tuple [.str "write",.int k,.int v]
 | .add k n=>.tuple [.str "add",.int k,.int n]
 | .swap k o n=>.tuple [.str "swap",.int k,.int o,.int n]
def One.key:One->Nat
 | .read k=>k | .write k _=>k | .add k _=>k | .swap k _ _=>k
def Call.dat:Call->PyData
 | .one c=>c.dat
 | .span lo hi=>.tuple [.str "span",.int lo,.int hi]
 | .deal cs=>.tuple [.str "deal",.tuple (cs.map One.dat)]
def One.ok (c:One):Prop:=c.key < 8
noncomputable def Call.ok:Call->Prop
 | .one c=>c.ok
 | .span lo hi=>lo < hi/\hi<=8
 | .deal cs=>cs.length<=4/\1<=cs.length/\∀ c∈cs,c.ok
noncomputable def nums (st:List Int):List PyData:=st.map .int
noncomputable def got (v:Int):PyData:=.tuple [.str "got",.int v]
noncomputable def dn:PyData:=.tuple [.str "done"]
noncomputable def yes:PyData:=.tuple [.str "yes"]
def no:PyData:=.tuple [.str "no"]
end SJ

namespace SJ
open PySem
mutual
noncomputable def sok:PyData->Bool
 | .str x=>PyData.strOk x
 | .list xs=>decide (xs.length<=1000)&&soks xs
 | .tuple xs=>decide (xs.length<=1000)&&soks xs
 | _=>true
noncomputable def soks:List PyData->Bool
 | []=>true
 | x::r=>sok x&&soks r
end
def aC4 {x:PyData} {xs:List PyData}:soks (x::xs)=true ↔ sok x=true/\soks xs=true:=by rw [soks,Bool.and_eq_true]
noncomputable def gR:PyData->Bool
 | .int _=>true
 | _=>false
noncomputable def eX (x:PyData) (lo hi:Int):Bool:=match x with
 | .int i=>decide (lo<=i)&&decide (i<=hi)
 | _=>false
def kE (x:PyData):Bool:=eX x 0 7
noncomputable def fW:PyData->Int->Bool
 | .tuple xs,n=>decide ((xs.length:Int)=n)
 | _,_=>false
noncomputable def gA:PyData->PyData
 | .tuple (.str s::_)=>.str s
 | _=>.none
noncomputable def aS (x:PyData) (s:Str) (n:Int):Bool:=match x with
 | .tuple (.str t::r)=>(t==s)&&decide ((r.length:Int)+1=n)
 | _=>false
def nb (s:Str):Option Int:=if s=Str.ofString "read" then some 0 else if s=Str.ofString "write" then some 1 else if s=Str.ofString "add" then some 1 else if s=Str.ofString "swap" then some 2 else none
def cF:PyData->Bool
 | .tuple (.str s::r)=>match nb s with
  | some n=>(decide ((r.length:Int)+1=2+n))&&(match r with
   | k::vs=>kE k&&vs.all gR
   | []=>false)
  | none=>false
 | _=>false
noncomputable def gT:PyData->Bool
 | .tuple [.str s,.int a,.int b]=>(s==Str.ofString "span")&&decide (0<=a)&&decide (a < b)&&decide (b<=8)
 | _=>false
def hZ:PyData->Bool
 | .tuple [.str s,.tuple ps]=>(s==Str.ofString "deal")&&decide (1<=ps.length)&&decide (ps.length<=4)&&ps.all cF
 | _=>false
def eJ (x:PyData):Bool:=cF x||gT x||hZ x
def lB:PyData->Bool
 | .tuple [.str s,c]=>(s==Str.ofString "look")&&eJ c
 | _=>false
def gB:PyData->Bool
 | .tuple [k,v]=>kE k&&gR v
 | _=>false
noncomputable def mR:PyData->Int
 | .int i=>i
 | _=>0
noncomputable def qK:PyData->PyData
 | .tuple (k::_)=>k
 | _=>.none
noncomputable def bY6 (ns:List Int):Bool:=(List.range (ns.length - 1)).all fun k=>decide (ns.getD k 0 < ns.getD (k+1) 0)
def qL:PyData->Bool
 | .tuple [.str s,.tuple ps]=>(s==Str.ofString "lay")&&!ps.isEmpty&&ps.all gB&&bY6 (ps.map fun p=>mR (qK p))
 | _=>false
def oM (x:PyData):Bool:=eJ x||lB x||qL x
end SJ

namespace SJ
open PySem PySem.Spec PyProof.Rows L2 DL
structure Bad (x:PyData):Prop where
 so:sok x=true
 si:cF x=false
 ca:eJ x=false
 st:oM x=false
def aX1:nb "read"=some 0:=by decide +kernel
def aM5:nb "write"=some 1:=by decide +kernel
def bO2:nb "add"=some 1:=by decide +kernel
def aX2:nb "swap"=some 2:=by decide +kernel
def aX3:PyData.strOk "read"=true:=by decide +kernel
def aM6:PyData.strOk "write"=true:=by decide +kernel
def bO3:PyData.strOk "add"=true:=by decide +kernel
def aX4:PyData.strOk "swap"=true:=by decide +kernel
end SJ

namespace SJ
open PySem PySem.Spec PyProof.Rows L2 DL
def aX5:PyData.strOk "span"=true:=by decide +kernel
def aX6:PyData.strOk "deal"=true:=by decide +kernel
def bO4 {k:Nat} (h:k < 8):kE (.int k)=true:=by
 simp [kE,eX];omega
def oN {o:One} (h:o.ok):cF o.dat=true/\sok o.dat=true:=by
 have h':o.key < 8:=h;cases o<;>simp [One.key] at h'<;>simp [One.dat,cF,aX1,aM5,bO2,aX2,bO4 h',gR,sok,soks,aX3,aM6,bO3,aX4]
theorem uJ:∀ {cs:List One},(∀ c∈cs,c.ok)->(cs.map One.dat).all cF=true/\soks (cs.map One.dat)=true
 | [],_=>⟨rfl,rfl⟩
 | c::r,h=>by
  obtain ⟨h1,h2⟩:=oN (h c List.mem_cons_self);obtain ⟨h3,h4⟩:=uJ fun z hz=>h z (List.mem_cons_of_mem _ hz);rw [List.map_cons,List.all_cons,h1,h3,aC4];exact ⟨rfl,h2,h4⟩
def fE {o:SJ.Call} (h:o.ok):eJ o.dat=true/\oM o.dat=true/\sok o.dat=true:=by
 have hc:eJ o.dat=true/\sok o.dat=true:=by
  cases o with
  | one c =>
   obtain ⟨h1,h2⟩:=oN (o:=c) h;exact ⟨by simp [eJ,Call.dat,h1],h2⟩
  | span lo hi =>
   obtain ⟨h1,h2⟩:=h;refine ⟨?_,by simp [Call.dat,sok,soks,aX5]⟩;have e1:(0:Int)<=lo:=by omega
   have e2:(lo:Int) < hi:=by omega
   have e3:(hi:Int)<=8:=by omega
   simp [eJ,Call.dat,gT,e2,e3]
  | deal cs =>
   obtain ⟨h1,h2,h3⟩:=h;obtain ⟨h4,h5⟩:=uJ h3;refine ⟨?_,by simp [Call.dat,sok,soks,aX6,h5];omega⟩;simp only [eJ,Call.dat,hZ,h4,List.length_map];simp [h1,h2]
 exact ⟨hc.1,by simp [oM,hc.1],hc.2⟩
end SJ

namespace SJ
open PySem
set_option genInjectivity true in
inductive An1 where
 | got (v:Int) | dn | yes | no
def An1.dat:An1->PyData
 | .got v=>.tuple [.str "got",.int v]
 | .dn=>.tuple [.str "done"]
 | .yes=>.tuple [.str "yes"]
 | .no=>.tuple [.str "no"]
def An1.fits:One->An1->Prop
 | .read _,.got _=>True
 | .add _ _,.got _=>True
 | .write _ _,.dn=>True
 | .swap _ _ _,.yes=>True
 | .swap _ _ _,.no=>True
 | _,_=>False
set_option genInjectivity true in
inductive Ans where
 | one (a:An1) | all (ns:List Int) | each (as:List An1)
def Ans.dat:Ans->PyData
 | .one a=>a.dat
 | .all ns=>.tuple [.str "all",.tuple (ns.map .int)]
 | .each as=>.tuple [.str "each",.tuple (as.map An1.dat)]
set_option genInjectivity true in
inductive Fit2:List One->List An1->Prop
 | nil:Fit2 [] []
 | cons {o:One} {a:An1} {os:List One} {as:List An1} (h:An1.fits o a) (t:Fit2 os as):Fit2 (o::os) (a::as)
def Ans.fits:Call->Ans->Prop
 | .one o,.one a=>An1.fits o a
 | .span lo hi,.all ns=>ns.length=hi - lo
 | .deal cs,.each as=>Fit2 cs as
 | _,_=>False
def dB (o:One) (t:PyData):Bool:=match o with
 | .read _=>(match t with
  | .tuple [.str s,v]=>(s==Str.ofString "got")&&gR v
  | _=>false)
 | .add _ _=>(match t with
  | .tuple [.str s,v]=>(s==Str.ofString "got")&&gR v
  | _=>false)
 | .write _ _=>aS t "done" 1
 | .swap _ _ _=>aS t "yes" 1||aS t "no" 1
def fX:List One->List PyData->Bool
 | o::os,t::ts=>dB o t&&fX os ts
 | _,_=>true
def cB (c:Call) (t:PyData):Bool:=match c with
 | .one o=>dB o t
 | .span lo hi=>(match t with
  | .tuple [.str s,.tuple xs]=>(s==Str.ofString "all")&&decide ((xs.length:Int)=(hi:Int) - lo)&&xs.all gR
  | _=>false)
 | .deal cs=>(match t with
  | .tuple [.str s,.tuple xs]=>(s==Str.ofString "each")&&decide (xs.length=cs.length)&&fX cs xs
  | _=>false)
theorem Fit2.length:∀ {os:List One} {as:List An1},Fit2 os as->as.length=os.length
 | _,_,.nil=>rfl
 | _,_,.cons _ t=>by simp [t.length]
def uK {o:One} {a:An1} (h:An1.fits o a):dB o a.dat=true:=by
 cases o<;>cases a<;>first | exact False.elim h | rfl
theorem qM:∀ {os:List One} {as:List An1},Fit2 os as->fX os (as.map An1.dat)=true
 | _,_,.nil=>rfl
 | _,_,.cons h t=>by simp [fX,uK h,qM t]
def aC5 {c:Call} {a:Ans} (h:Ans.fits c a) (hc:c.ok):cB c a.dat=true:=by
 cases c<;>cases a<;>first | exact False.elim h | skip
 ·exact uK h
 ·rename_i lo hi ns;have:=hc.1
  replace h:ns.length=hi - lo:=h
  simp [cB,Ans.dat,h,gR];omega
 ·rename_i cs as
  replace h:Fit2 cs as:=h
  simp [cB,Ans.dat,qM h,h.length]
end SJ

namespace CI
open PySem DL
@[simp] theorem bY7 {α β:Type} (x:XR α) (f:α->XR β) (δ:DSt) (h:aA):xb x f δ h=(x δ h).bind fun p=>f p.1 δ p.2:=rfl
@[simp] theorem uL {α:Type} (a:α) (δ:DSt) (h:aA):aD a δ h=some (a,h):=rfl
@[simp] theorem cM6 {α:Type} (δ:DSt) (h:aA):(xno:XR α) δ h=none:=rfl
@[simp] theorem cJ7 (i:Nat) (δ:DSt) (h:aA):aB i δ h=match δ[i]? with
 | some (some w)=>some (w,h)
 | _=>none:=rfl
def dC (h:aA):okP h h:=fun i c _ e=>.inr e
def lC {h h1:aA} (L:aA) (hl:h1.length=h.length) (k:okP h h1):okP h (h1++L):=fun i c hi e=>k i c hi (by rwa [List.getElem?_append_left (by omega)] at e)
def aM7 {h h1:aA} (i:Nat) (xs:List PyData) (k:okP h h1):okP h (h1.set i (.l xs)):=fun j c hj e=>by
 by_cases q:i=j
 ·subst q
  by_cases hi:i < h1.length
  ·rw [List.getElem?_set_self hi] at e;cases e;exact .inl fun m hm=>by cases hm
  ·rw [List.set_eq_of_length_le (by omega)] at e;exact k i c hj e
 ·rw [List.getElem?_set_ne q] at e;exact k j c hj e
@[simp] theorem cT7 (h:aA):okP h h=True:=eq_true (dC h)
@[simp] theorem cT8 (h L:aA):okP h (h++L)=True:=eq_true (lC L rfl (dC h))
def aM8 (h0:aA) (z:PyData) (h:aA) (ok:okP h0 h):ends h0 (.rt (.d z),h)=some (z,h.take h0.length):=by
 unfold ends;rw [if_pos ok]
def aM9 (h0:aA) (δ:DSt) (h:aA) (ok:okP h0 h):ends h0 (.nx δ,h)=some (.none,h.take h0.length):=by
 unfold ends;rw [if_pos ok]
@[simp] theorem aX7 (h:aA) (z:PyData):ends h (.rt (.d z),h)=some (z,h):=by rw [aM8 _ _ _ (dC h),List.take_length]
@[simp] theorem cJ8 (h:aA) (δ:DSt):ends h (.nx δ,h)=some (.none,h):=by rw [aM9 _ _ _ (dC h),List.take_length]
@[simp] theorem cJ9 (h L:aA) (z:PyData):ends h (.rt (.d z),h++L)=some (z,h):=by rw [aM8 _ _ _ (lC L rfl (dC h)),List.take_left'];rfl
@[simp] theorem cK0 (h L:aA) (δ:DSt):ends h (.nx δ,h++L)=some (.none,h):=by rw [aM9 _ _ _ (lC L rfl (dC h)),List.take_left'];rfl
@[simp] theorem cK1 (δ:DSt) (h:aA):jE (.nx δ,h)=some (.d .none,h):=rfl
@[simp] theorem cK2 (w:W) (h:aA):jE (.rt w,h)=some (w,h):=rfl
@[simp] theorem bS6 (δ:DSt):bW [] δ=[]:=rfl
@[simp] theorem bO5 (r:List (Option Nat)) (δ:DSt):bW (none::r) δ=none::bW r δ:=rfl
@[simp] theorem bO6 (i:Nat) (r:List (Option Nat)) (δ:DSt):bW (some i::r) δ=(δ[i]?).bind id::bW r δ:=rfl
@[simp] theorem bY8 (gs:List XG) (xs:List PyData) (δ:DSt) (h:aA):aR gs (.d (.tuple xs)) δ h=cW gs xs δ h:=rfl
@[simp] theorem bY9 (δ:DSt) (h:aA):cW [] [] δ h=some (δ,h):=rfl
@[simp] theorem bS7 (g:XG) (gs:List XG) (x:PyData) (xs:List PyData) (δ:DSt) (h:aA):cW (g::gs) (x::xs) δ h=(g (.d x) δ h).bind fun p=>cW gs xs p.1 p.2:=rfl
@[simp] theorem cP8 (h:aA) (x:PyData):ref h (.d x)=some x:=rfl
end CI

namespace CI
open PySem PySem.Spec PyProof.Rows L2 DL
section
variable {δ:DSt} {h:aA}
@[simp] theorem bZ0 (x:XR Bool):bH x δ h=(x δ h).map asW:=rfl
@[simp] theorem cM7 (b:Bool):asW (b,h)=(.d (.bool b),h):=rfl
@[simp] theorem cM8 (op:CmpOp) (x y:XR W):xC1 op x y δ h=(x δ h).bind fun u=>(y δ u.2).bind fun w=>dZ op u.1 w.1 w.2:=rfl
@[simp] theorem cM9 (op op':CmpOp) (x y z:XR W):xC2 op op' x y z δ h=(x δ h).bind fun u=>(y δ u.2).bind fun w=>(dZ op u.1 w.1 w.2).bind fun p=>if p.1=true then (z δ p.2).bind fun q=>dZ op' w.1 q.1 q.2 else some (false,p.2):=rfl
@[simp] theorem cN0 (op op' op'':CmpOp) (x y z t:XR W):xC3 op op' op'' x y z t δ h=(x δ h).bind fun u=>(y δ u.2).bind fun w=>(dZ op u.1 w.1 w.2).bind fun p =>
 if p.1=true then (z δ p.2).bind fun q=>(dZ op' w.1 q.1 q.2).bind fun p'=>if p'.1=true then (t δ p'.2).bind fun q'=>dZ op'' q.1 q'.1 q'.2 else some (false,p'.2) else some (false,p.2):=rfl
@[simp] theorem bZ1 (f:Str->Option PyData) (x:XR W):lZ f x δ h=(x δ h).bind fun p=>(match p.1 with
 | .d (.str s)=>some (!(f s).isSome,p.2)
 | .d .none=>some (true,p.2)
 | _=>none):=by
 unfold lZ;rw [bY7]
 congr 1
 funext p
 obtain ⟨w,h'⟩:=p;cases w with
 | d x=>cases x<;>rfl
 | c i=>rfl
@[simp] theorem cK3 (x:XR (List PyData)):aO x δ h=(x δ h).bind fun p=>some (.d (.list p.1),p.2):=rfl
@[simp] theorem bZ2 (x:XR (List PyData)):cA x δ h=(x δ h).bind fun p=>some (.c p.2.length,p.2++[.l p.1]):=rfl
@[simp] theorem cN1 (x:XR (List W)):xPl x δ h=(x δ h).bind fun p=>(match gM p.1 with
 | some xs=>if xs.length<=sizeLine then some (xs,p.2) else none
 | none=>none):=rfl
@[simp] theorem cK4 (i:Nat) (x:XR W):aQ i x δ h=(x δ h).bind fun p=>some (.nx (δ.set i (some p.1)),p.2):=rfl
@[simp] theorem bZ3 (x:XR W):bB x δ h=(x δ h).bind fun p=>(match p.1 with
 | .d (.list xs)=>some ((xs,none),p.2)
 | .d (.tuple xs)=>some ((xs,none),p.2)
 | .c i=>(match p.2[i]? with
  | some (.l xs)=>some ((xs,some (i,false)),p.2)
  | _=>none)
 | _=>none):=rfl
@[simp] theorem bO7:gM []=some []:=rfl
@[simp] theorem bZ4 (x:PyData) (r:List W):gM (.d x::r)=(gM r).map (x::·):=rfl
@[simp] theorem cN2 (i j:Int):dZ .Lt (.d (.int i)) (.d (.int j)) h=some (decide (i < j),h):=rfl
@[simp] theorem cN3 (i j:Int):dZ .LtE (.d (.int i)) (.d (.int j)) h=some (decide (i<=j),h):=rfl
@[simp] theorem cN4 (i j:Int):dZ .Gt (.d (.int i)) (.d (.int j)) h=some (decide (j < i),h):=rfl
@[simp] theorem cN5 (i j:Int):dZ .GtE (.d (.int i)) (.d (.int j)) h=some (decide (j<=i),h):=rfl
@[simp] theorem cN6 (u w:W):dZ .Eq u w h=(xEq u w h).map fun b=>(b,h):=rfl
@[simp] theorem cN7 (u w:W):dZ .NotEq u w h=(xEq u w h).map fun b=>(!b,h):=rfl
@[simp] theorem cN8 (u w:W):dZ .Is u w h=(xIs u w).map fun b=>(b,h):=rfl
@[simp] theorem bS8 (u w:W):dZ .IsNot u w h=(xIs u w).map fun b=>(!b,h):=rfl
@[simp] theorem cN9 (u w:W):dZ .In u w h=(xIn u w h).map fun b=>(b,h):=rfl
@[simp] theorem bS9 (u w:W):dZ .NotIn u w h=(xIn u w h).map fun b=>(!b,h):=rfl
def yV (a b:PyData):xEq (.d a) (.d b) h=if (aK 64 a&&aK 64 b)=true then some (PyData.eqv a b) else none:=rfl
@[simp] theorem cK5 (n:Nat):aK n .none=true:=by rw [aK]
@[simp] theorem cK6 (n:Nat) (b:Bool):aK n (.bool b)=true:=by rw [aK]
@[simp] theorem bO8 (n:Nat) (i:Int):aK n (.int i)=true:=by rw [aK]
@[simp] theorem cO0 (n:Nat) (x:Str):aK n (.str x)=true:=by rw [aK]
@[simp] theorem aX8 (n:Nat) (xs:List PyData):aK (n+1) (.list xs)=plainsB n xs:=by rw [aK]
@[simp] theorem oO (n:Nat) (xs:List PyData):aK (n+1) (.tuple xs)=plainsB n xs:=by rw [aK]
@[simp] theorem aX9 (n:Nat):plainsB n []=true:=by rw [plainsB]
@[simp] theorem uM (n:Nat) (x:PyData) (xs:List PyData):plainsB n (x::xs)=(aK n x&&plainsB n xs):=by rw [plainsB]
@[simp] theorem cK7 (i j:Int):xEq (.d (.int i)) (.d (.int j)) h=some (decide (i=j)):=by rw [yV];simp [PyData.eqv];exact Bool.beq_eq_decide_eq i j
@[simp] theorem cK8 (x y:Str):xEq (.d (.str x)) (.d (.str y)) h=some (x==y):=by simp [yV,PyData.eqv]
@[simp] theorem bZ5 (x y:Bool):xEq (.d (.bool x)) (.d (.bool y)) h=some (x==y):=by cases x<;>cases y<;>simp [yV,PyData.eqv]
@[simp] theorem bF2 (y:Str):xEq (.d .none) (.d (.str y)) h=some false:=by simp [yV,PyData.eqv]
@[simp] theorem cP9 (x:PyData):bJ [.d x] h=(match x with
  | .list xs=>some (.d (.int xs.length),h)
  | .tuple xs=>some (.d (.int xs.length),h)
  | _=>none):=by cases x<;>rfl
@[simp] theorem cK9 (xs:List PyData):bM [.d (.list xs)] h=some (.d (.tuple xs),h):=rfl
@[simp] theorem cL0 (xs:List PyData):bM [.d (.tuple xs)] h=some (.d (.tuple xs),h):=rfl
@[simp] theorem bF3 (xs:List PyData):gC [.d (.list xs)] h=(cX xs).map fun bs=>(.d (.bool (bs.all id)),h):=rfl
@[simp] theorem ix_t (xs:List PyData) (i:Int):xIx (.d (.tuple xs)) (.d (.int i)) h=(atI xs i).map fun v=>(.d v,h):=rfl
@[simp] theorem cT9 (xs:List PyData) (i:Int):xIx (.d (.list xs)) (.d (.int i)) h=(atI xs i).map fun v=>(.d v,h):=rfl
@[simp] theorem sl_t (xs:List PyData) (lo hi:Option Int):xSl (.d (.tuple xs)) lo hi h=some (.d (.tuple (cut xs lo hi)),h):=rfl
@[simp] theorem sl_l (xs:List PyData) (lo hi:Option Int):xSl (.d (.list xs)) lo hi h=some (.d (.list (cut xs lo hi)),h):=rfl
@[simp] theorem bT0 (i j:Int):hV .Add (.d (.int i)) (.d (.int j)) h=some (.d (.int (i+j)),h):=rfl
@[simp] theorem bT1 (i j:Int):hV .Sub (.d (.int i)) (.d (.int j)) h=some (.d (.int (i - j)),h):=rfl
@[simp] theorem bT2 (i j:Int):hV .Mult (.d (.int i)) (.d (.int j)) h=if gZ i j=true then some (.d (.int (i*j)),h) else none:=rfl
@[simp] theorem bT3 (i j:Int):hV .FloorDiv (.d (.int i)) (.d (.int j)) h=if cP j=true then some (.d (.int (i / j)),h) else none:=rfl
@[simp] theorem bT4 (i j:Int):hV .Mod (.d (.int i)) (.d (.int j)) h=if 0 < j then some (.d (.int (i%j)),h) else none:=rfl
@[simp] theorem bT5 (i j:Int):hV .Pow (.d (.int i)) (.d (.int j)) h=if lY i j=true then some (.d (.int (i^j.toNat)),h) else none:=rfl
@[simp] theorem bT6 (xs ys:List PyData):hV .Add (.d (.tuple xs)) (.d (.tuple ys)) h=if xs.length+ys.length<=sizeLine then some (.d (.tuple (xs++ys)),h) else none:=rfl
@[simp] theorem bT7 (xs ys:List PyData):hV .Add (.d (.list xs)) (.d (.list ys)) h=if xs.length+ys.length<=sizeLine then some (.d (.list (xs++ys)),h) else none:=rfl
@[simp] theorem cN (xs:List PyData):condB none xs h=true:=rfl
theorem fF {g:XG} {te:XR W} {all:List PyData} (f:PyData->PyData) (k:Nat) (hg:∀ w δ h,g w δ h=some (δ.set k (some w),h)) :
  ∀ (rest:List PyData) (δ:DSt) (ac:List PyData),(∀ x∈rest,∀ u,te ((δ.set k u).set k (some (.d x))) h=some (.d (f x),h))->aV g (aD true) te none all rest δ h ac=some (ac++rest.map f,h)
 | [],δ,ac,_=>by simp [aV]
 | x::r,δ,ac,hf=>by
  have e:=hf x List.mem_cons_self none;rw [List.set_set] at e;rw [aV,cN,if_pos rfl,hg];simp only [Option.bind_some,uL,if_true,e];rw [fF f k hg r _ _ fun y hy u=>by
   have:=hf y (List.mem_cons_of_mem _ hy) u;rw [List.set_set] at this ⊢;rw [List.set_set];exact this]
  simp
theorem iJ {f:PyData->Bool}:∀ xs:List PyData,cX (xs.map fun x=>.bool (f x))=some (xs.map f)
 | []=>rfl
 | x::r=>by rw [List.map_cons,cX,iJ r];rfl
theorem all_map {f:PyData->Bool} {h:aA} (xs:List PyData):gC [.d (.list (xs.map fun x=>.bool (f x)))] h=some (.d (.bool (xs.all f)),h):=by
 rw [bF3,iJ,Option.map_some,List.all_map];rfl
end
end CI

namespace CI
open PySem PySem.Spec PyProof.Rows L2 DL
abbrev S3:=Int×Int×Int
noncomputable def stL (s:S3):Cell:=.l [.int s.1,.int s.2.1,.int s.2.2]
def iM {i:Int} (h1:-(2^64) < i) (h2:i < 2^64) (j:Int):gZ i j=true:=by
 unfold gZ;rw [decide_eq_true h1,decide_eq_true h2];rfl
def aY0 {j:Int} (h1:-(2^64) < j) (h2:j < 2^64) (i:Int):gZ i j=true:=by
 unfold gZ;rw [decide_eq_true h1,decide_eq_true h2,Bool.and_self,Bool.or_true]
def qN {h L:aA} {i:Nat} {c:Cell} (hi:i < h.length):h.set i c++L=(h++L).set i c:=(List.set_append_left _ _ hi).symm
def aY1 {h:aA} {i:Nat} {xs:List PyData} (hi:i < h.length):ref (h.set i (.l xs)) (.c i)=some (.list xs):=by
 simp [ref,hi]
@[simp] theorem cU0 {h:aA} {i:Nat} {xs:List PyData} (hi:i < h.length) (k:Int):xIx (.c i) (.d (.int k)) (h.set i (.l xs))=(atI xs k).map fun v=>(.d v,h.set i (.l xs)):=by
 unfold xIx;rw [aY1 hi]
end CI

namespace CI
open PySem PySem.Spec PyProof.Rows L2 DL
variable (h:aA)
@[simp] theorem cO1 (L:aA) (i:Nat) (c:Cell):(h.set i c++L).take h.length=h.set i c:=by
 rw [List.take_append_of_le_length (by simp)];simp
end CI

namespace CI
open PySem PySem.Spec PyProof.Rows L2 DL
theorem oQ {g:XG} {te:XR W} {all:List PyData} {h:aA} (J:DSt->Prop) :
  ∀ (ps:List (PyData×PyData)) (δ:DSt) (ac:List PyData),J δ->(∀ p∈ps,∀ δ,J δ->∃ δ1,g (.d p.1) δ h=some (δ1,h)/\J δ1/\te δ1 h=some (.d p.2,h))->aV g (aD true) te none all (ps.map (·.1)) δ h ac=some (ac++ps.map (·.2),h)
 | [],δ,ac,_,_=>by simp [aV]
 | x::r,δ,ac,j,hf=>by
  obtain ⟨δ1,e1,j1,e2⟩:=hf x List.mem_cons_self δ j;rw [List.map_cons,aV];simp [e1,e2,aD];rw [oQ J r δ1 (ac++[x.2]) j1 fun y hy=>hf y (List.mem_cons_of_mem _ hy)];simp
@[simp] theorem cO2 (xs:List PyData) (h:aA):iX (.d (.list xs)) h=some ((bX xs,none),h):=rfl
@[simp] theorem rX (xs:List PyData) (h:aA):iX (.d (.tuple xs)) h=some ((bX xs,none),h):=rfl
@[simp] theorem cO3 (xs:List PyData):nK (.d (.tuple xs))=some xs:=rfl
@[simp] theorem cO4 (xs:List PyData):nK (.d (.list xs))=some xs:=rfl
def bO9 (a:PyData) (xs:List PyData) (h:aA):xIn (.d a) (.d (.tuple xs)) h=if (aK 64 (.tuple xs)&&aK 64 a)=true then some (xs.any fun z=>PyData.eqv z a) else none:=rfl
@[simp] theorem bZ6 (x a b:Str) (h:aA):xIn (.d (.str x)) (.d (.tuple [.str a,.str b])) h=some (a==x||b==x):=by
 rw [bO9];simp [PyData.eqv]
end CI

namespace CI
open PySem PySem.Spec PyProof.Rows L2 DL ST
theorem uN {g:XG} {tb:XS} {all:List PyData} (I:DSt->aA->Prop):∀ (rest:List PyData),(∀ x∈rest,∀ δ h,I δ h->∃ δ1 h1 δ2 h2,g (.d x) δ h=some (δ1,h1)/\tb δ1 h1=some (.nx δ2,h2)/\I δ2 h2) ->
  ∀ (δ:DSt) (h:aA),I δ h->∃ δ' h',bQ g tb none all rest δ h=some (.nx δ',h')/\I δ' h'
 | [],_,δ,h,i=>⟨δ,h,by simp [bQ],i⟩
 | x::r,ht,δ,h,i=>by
  obtain ⟨δ1,h1,δ2,h2,e1,e2,i2⟩:=ht x List.mem_cons_self δ h i;obtain ⟨δ3,h3,e3,i3⟩:=uN I r (fun y hy=>ht y (List.mem_cons_of_mem _ hy)) δ2 h2 i2;refine ⟨δ3,h3,?_,i3⟩;rw [bQ,cN,if_pos rfl,e1];simp only [Option.bind_some,e2];exact e3
def lE {g:XG} {tb:XS} {all:List PyData} (I:DSt->aA->Prop) (rest:List PyData) (ht:∀ x∈rest,∀ δ h,I δ h->∃ δ1 h1,g (.d x) δ h=some (δ1,h1)/\∃ δ2 h2,tb δ1 h1=some (.nx δ2,h2)/\I δ2 h2) (δ:DSt) (h:aA) (i:I δ h) :
  ∃ δ' h',bQ g tb none all rest δ h=some (.nx δ',h')/\I δ' h':=uN I rest (fun x hx δ h i=>let ⟨δ1,h1,e1,δ2,h2,e2,i2⟩:=ht x hx δ h i;⟨δ1,h1,δ2,h2,e1,e2,i2⟩) δ h i
section
variable (h:aA)
@[simp] theorem bZ7:dG []=some []:=rfl
@[simp] theorem bT8 (i:Int) (r:List PyData):dG (.int i::r)=(dG r).map (i::·):=rfl
@[simp] theorem cQ0:xIs (.d .none) (.d .none)=some true:=rfl
@[simp] theorem cQ1 (i:Int):xIs (.d (.int i)) (.d .none)=some false:=rfl
@[simp] theorem cQ2 (xs:List PyData):xIs (.d (.tuple xs)) (.d .none)=some false:=rfl
def get_last (c:Cell):(h++[c])[h.length]?=some c:=by simp
def set_last (c c':Cell):(h++[c]).set h.length c'=h++[c']:=by simp
def mpre_last (xs:List PyData):jT "append" (.c h.length) (h++[.l xs])=true:=by
 unfold jT;rw [if_pos rfl];simp
def aY2 {lo:Int} {n:Nat} {x:PyData} (hx:x∈rng lo n):∃ k:Nat,k < n/\x=.int (lo+k):=by
 unfold rng at hx;obtain ⟨k,hk,rfl⟩:=List.mem_map.mp hx;exact ⟨k,by simpa using hk,rfl⟩
end
end CI

namespace CI
open PySem PySem.Spec PyProof.Rows L2 DL ST
@[simp high] theorem bs {α β:Type} (a:α) (f:α->Option β):(some a).bind f=f a:=id rfl
@[simp high] theorem xv0 (w:W) (l:DSt) (h:aA):aB 0 (some w::l) h=some (w,h):=id rfl
@[simp high] theorem xv1 {x0:Option W} (w:W) (l:DSt) (h:aA):aB 1 (x0::some w::l) h=some (w,h):=id rfl
@[simp high] theorem xv2 {x0 x1:Option W} (w:W) (l:DSt) (h:aA):aB 2 (x0::x1::some w::l) h=some (w,h):=id rfl
@[simp high] theorem xv3 {x0 x1 x2:Option W} (w:W) (l:DSt) (h:aA):aB 3 (x0::x1::x2::some w::l) h=some (w,h):=id rfl
@[simp high] theorem xv4 {x0 x1 x2 x3:Option W} (w:W) (l:DSt) (h:aA):aB 4 (x0::x1::x2::x3::some w::l) h=some (w,h):=id rfl
@[simp high] theorem xv5 {x0 x1 x2 x3 x4:Option W} (w:W) (l:DSt) (h:aA):aB 5 (x0::x1::x2::x3::x4::some w::l) h=some (w,h):=id rfl
@[simp high] theorem xv6 {x0 x1 x2 x3 x4 x5:Option W} (w:W) (l:DSt) (h:aA):aB 6 (x0::x1::x2::x3::x4::x5::some w::l) h=some (w,h):=id rfl
@[simp high] theorem xv7 {x0 x1 x2 x3 x4 x5 x6:Option W} (w:W) (l:DSt) (h:aA):aB 7 (x0::x1::x2::x3::x4::x5::x6::some w::l) h=some (w,h):=id rfl
@[simp high] theorem xv8 {x0 x1 x2 x3 x4 x5 x6 x7:Option W} (w:W) (l:DSt) (h:aA):aB 8 (x0::x1::x2::x3::x4::x5::x6::x7::some w::l) h=some (w,h):=id rfl
@[simp high] theorem xv9 {x0 x1 x2 x3 x4 x5 x6 x7 x8:Option W} (w:W) (l:DSt) (h:aA):aB 9 (x0::x1::x2::x3::x4::x5::x6::x7::x8::some w::l) h=some (w,h):=id rfl
@[simp high] theorem cU1 {x0 x1 x2 x3 x4 x5 x6 x7 x8 x9:Option W} (w:W) (l:DSt) (h:aA):aB 10 (x0::x1::x2::x3::x4::x5::x6::x7::x8::x9::some w::l) h=some (w,h):=id rfl
@[simp high] theorem cU2 {x0 x1 x2 x3 x4 x5 x6 x7 x8 x9 x10:Option W} (w:W) (l:DSt) (h:aA):aB 11 (x0::x1::x2::x3::x4::x5::x6::x7::x8::x9::x10::some w::l) h=some (w,h):=id rfl
@[simp high] theorem cU3 {x0 x1 x2 x3 x4 x5 x6 x7 x8 x9 x10 x11:Option W} (w:W) (l:DSt) (h:aA):aB 12 (x0::x1::x2::x3::x4::x5::x6::x7::x8::x9::x10::x11::some w::l) h=some (w,h):=id rfl
@[simp high] theorem cU4 {x0 x1 x2 x3 x4 x5 x6 x7 x8 x9 x10 x11 x12:Option W} (w:W) (l:DSt) (h:aA):aB 13 (x0::x1::x2::x3::x4::x5::x6::x7::x8::x9::x10::x11::x12::some w::l) h=some (w,h):=id rfl
theorem yW {g:XG} {tt:XR Bool} {te:XR W} {all:List PyData} {h:aA} (p:PyData->Bool) (f:PyData->PyData) (I:DSt->Prop):∀ (xs:List PyData) (δ:DSt) (ac:List PyData),I δ ->
  (∀ x∈xs,∀ δ,I δ->∃ δ',g (.d x) δ h=some (δ',h)/\I δ'/\tt δ' h=some (p x,h)/\(p x=true->te δ' h=some (.d (f x),h)))->aV g tt te none all xs δ h ac=some (ac++(xs.filter p).map f,h)
 | [],δ,ac,_,_=>by simp [aV]
 | x::r,δ,ac,i,hx=>by
  obtain ⟨δ',e1,i',e2,e3⟩:=hx x List.mem_cons_self δ i;have ih:=fun ac=>yW (all:=all) p f I r δ' ac i' fun y hy=>hx y (List.mem_cons_of_mem _ hy);rw [aV,cN,if_pos rfl,e1];simp only [bs,e2];cases hp:p x with
  | true=>rw [if_pos rfl,e3 hp];simp only [bs];rw [ih];simp [hp]
  | false=>rw [if_neg (by simp)];rw [ih];simp [hp]
def aN0 {g:XG} {te:XR W} {all:List PyData} {h:aA} (f:PyData->PyData) (I:DSt->Prop) (xs:List PyData) (δ:DSt) (i:I δ)
  (hx:∀ x∈xs,∀ δ,I δ->∃ δ',g (.d x) δ h=some (δ',h)/\I δ'/\te δ' h=some (.d (f x),h)):aV g (aD true) te none all xs δ h []=some (xs.map f,h):=by
 have:=yW (g:=g) (tt:=aD true) (te:=te) (all:=all) (h:=h) (fun _=>true) f I xs δ [] i fun x m δ i=>by
  obtain ⟨δ',a,b,c⟩:=hx x m δ i;exact ⟨δ',a,b,rfl,fun _=>c⟩
 rw [this,List.filter_eq_self.mpr (fun _ _=>rfl),List.nil_append]
def forX_find {α β:Type} {g:XG} {tb:XS} {all:List PyData} {h:aA} (F:α->PyData) (fd:α->Option β) (wd:β->W) (I:DSt->Prop) (qs:List α) {δ:DSt} (hi:I δ)
  (ht:∀ q∈qs,∀ δ,I δ->∃ δ1,g (.d (F q)) δ h=some (δ1,h)/\((∃ b,fd q=some b/\tb δ1 h=some (.rt (wd b),h))\/(fd q=none/\∃ δ2,tb δ1 h=some (.nx δ2,h)/\I δ2))) :
  (∃ b,qs.findSome? fd=some b/\bQ g tb none all (qs.map F) δ h=some (.rt (wd b),h))\/(qs.findSome? fd=none/\∃ δ',I δ'/\bQ g tb none all (qs.map F) δ h=some (.nx δ',h)):=by
 induction qs generalizing δ with
 | nil=>exact .inr ⟨rfl,δ,hi,by simp [bQ]⟩
 | cons q r ih =>
  obtain ⟨δ1,e1,hh⟩:=ht q List.mem_cons_self δ hi;rw [List.map_cons,bQ,cN,if_pos rfl,e1];rcases hh with ⟨b,e2,e3⟩ | ⟨e2,δ2,e3,i2⟩
  ·refine .inl ⟨b,by rw [List.findSome?_cons,e2],?_⟩;simp only [bs,e3]
  ·rw [List.findSome?_cons,e2];simp only [bs,e3];exact ih i2 fun y hy=>ht y (List.mem_cons_of_mem _ hy)
def iN {g:XG} {tb:XS} {all:List PyData} {P:DSt->aA->Prop} (I:Nat->DSt->aA->Prop) {rest:List PyData} {δ:DSt} {h:aA} (hi:I 0 δ h) (hP:∀ δ h,I rest.length δ h->P δ h)
  (ht:∀ n (hn:n < rest.length) δ h,I n δ h->∃ δ1 h1,g (.d rest[n]) δ h=some (δ1,h1)/\∃ δ2 h2,tb δ1 h1=some (.nx δ2,h2)/\I (n+1) δ2 h2):∃ δ' h',bQ g tb none all rest δ h=some (.nx δ',h')/\P δ' h':=by
 suffices H:∀ (r:List PyData) (n:Nat) (δ:DSt) (h:aA),(∃ p,rest=p++r/\p.length=n)->I n δ h->∃ δ' h',bQ g tb none all r δ h=some (.nx δ',h')/\I rest.length δ' h' by
  obtain ⟨δ',h',e,i⟩:=H rest 0 δ h ⟨[],rfl,rfl⟩ hi;exact ⟨δ',h',e,hP δ' h' i⟩
 intro r;induction r with
 | nil =>
  rintro n δ h ⟨p,e1,e2⟩ i;subst e2;simp at e1;subst e1;exact ⟨δ,h,by simp [bQ],i⟩
 | cons x r ih =>
  rintro n δ h ⟨p,e1,e2⟩ i;have hn:n < rest.length:=by rw [e1];simp;omega
  have hx:rest[n]=x:=by subst e2;subst e1;simp
  obtain ⟨δ1,h1,e1',δ2,h2,e2',i2⟩:=ht n hn δ h i;rw [hx] at e1';obtain ⟨δ3,h3,e3,i3⟩:=ih (n+1) δ2 h2 ⟨p++[x],by simp [e1],by simp [e2]⟩ i2;refine ⟨δ3,h3,?_,i3⟩;rw [bQ,cN,if_pos rfl,e1'];simp only [bs,e2'];exact e3
def rng_len (lo:Int) (n:Nat):(rng lo n).length=n:=by simp [rng]
def uO {i j:Nat} (hi:i<=100) (hj:j<=100):eV i j=true:=by
 unfold eV;simp only [Bool.and_eq_true,decide_eq_true_eq];omega
@[simp] theorem at4 (a b c e f:PyData) (r:List PyData):atI (a::b::c::e::f::r) 4=some f:=fV (j:=4) (by simp)
@[simp] theorem at5 (a b c e f g:PyData) (r:List PyData):atI (a::b::c::e::f::g::r) 5=some g:=fV (j:=5) (by simp)
end CI

namespace CI
open PySem DL
variable {h L:aA} {i:Nat} {c c':Cell}
open Classical in
@[simp] theorem rY (h0:aA) (z:PyData) (h1:aA):ends h0 (.rt (.d z),h1)=if okP h0 h1 then some (z,h1.take h0.length) else none:=rfl
open Classical in
@[simp] theorem aN1 (h0:aA) (δ:DSt) (h1:aA):ends h0 (.nx δ,h1)=if okP h0 h1 then some (PyData.none,h1.take h0.length) else none:=rfl
def yX (xs:List PyData):okP (h.set i c) (h.set i (.l xs)):=by
 have:=aM7 i xs (dC (h.set i c))
 rwa [List.set_set] at this
@[simp] theorem cQ3 (xs:List PyData):okP (h.set i c) (h.set i (.l xs))=True:=eq_true (yX xs)
@[simp] theorem cQ4 (s:S3):okP (h.set i c) (h.set i (stL s))=True:=eq_true (yX _)
@[simp] theorem cQ5 (xs:List PyData):okP (h.set i c) (h.set i (.l xs)++L)=True:=eq_true (lC L (by simp) (yX xs))
@[simp] theorem bP0 (s:S3):okP (h.set i c) (h.set i (stL s)++L)=True:=eq_true (lC L (by simp) (yX _))
@[simp] theorem cQ6 (s:S3) (hi:i < h.length):okP (h.set i c) ((h++L).set i (stL s))=True:=by rw [<- qN hi,bP0]
@[simp] theorem cO5:(h.set i c).take h.length=h.set i c:=List.take_of_length_le (by simp)
@[simp] theorem bZ8:(h.set i c++L).take h.length=h.set i c:=by rw [List.take_append_of_le_length (by simp),cO5]
@[simp] theorem cQ7 (hi:i < h.length):((h++L).set i c).take h.length=h.set i c:=by rw [<- qN hi,bZ8]
end CI

noncomputable section
namespace K45
open PySem PySem.Spec PyProof.Rows L2 DL CI SJ
noncomputable def body:List Stmt:=PySem.Challenge.pw_storejudge_k45_rows_asked_for.main.body
noncomputable def cv (x:Str):List Str:=if x="left_by" then ["left"] else if x="look_entries" then ["entries"] else if x="hand_entries" then ["entries"] else if x="key_entries" then ["entries"] else if x="pairs_where" then ["pairs"] else if x="triples_of" then ["triples"] else if x="_law_moved" then ["_law_rows[]"] else if x="_law_history" then ["_law_deeds","_law_rows","_law_stand","_law_rows[]"] else if x="_law_due" then ["_law_items","_law_pairs"] else if x="_law_refused" then ["_law_kinds"] else if x="_law_dense" then ["_law_deeds","_law_free_here","_law_stand","_law_free_here"] else if x="_law_far" then ["_law_deeds"] else if x="law" then ["_law_owners","_law_told"] else if x="problems_of" then ["return"] else if x="deeds_of" then ["return"] else []
noncomputable def wf (x:Str):Bool:=decide (x="problems_of")||decide (x="deeds_of")||decide (x="_law_moved")
noncomputable def qn (x:Str):Option (Str×Pos):=if x="taking_part" then some ("taking_part.<locals>.",⟨200,31,200,64⟩) else none
def TT (b:Bool):Top:={ (bF1 body (fun _=>[]) cv 100000 60 wf (qn:=qn)).fv ["really_ahead","ahead_by_hand"] with hm:=b }
abbrev T:Top:=TT false
end K45

namespace K45
open PySem PySem.Spec PyProof.Rows L2 DL CI
noncomputable def YE:Fl×aA->Option (Fl×aA):=fun p=>match p.1 with
  | Fl.nx δ'=>some (Fl.nx δ',p.2)
  | f=>some (f,p.2)
theorem cO6 :YE=fun p=>match p.1 with
 | Fl.nx δ'=>some (Fl.nx δ',p.2)
 | f=>some (f,p.2):=rfl
def YN:W->XR (List W):=fun w=>xb (aD []) fun ws=>aD (w::ws)
@[simp] theorem lF :YN=fun w=>xb (aD []) fun ws=>aD (w::ws):=rfl
def YC (w:W):List W->XR (List W):=fun ws=>aD (w::ws)
@[simp] theorem lG (w:W):YC w=fun ws=>aD (w::ws):=rfl
def YF (b:Bool) (d:Nat) (s:String):List W->XR W:=fun ws x h=>Option.bind (aE (TT b) d (Str.ofString s) ws h) fun p=>some (W.d p.1,p.2)
@[simp] theorem kF (b:Bool) (d:Nat) (s:String):YF b d s=fun ws x h=>Option.bind (aE (TT b) d (Str.ofString s) ws h) fun p=>some (W.d p.1,p.2):=rfl
def YI (n:Int):W->XR W:=fun x=>xb (aD (W.d (PyData.int n))) fun y x_1 h=>xIx x y h
@[simp] theorem oR (n:Int):YI n=fun x=>xb (aD (W.d (PyData.int n))) fun y x_1 h=>xIx x y h:=rfl
def YB (o:Operator) (n:Int):W->XR W:=fun u=>xb (aD (W.d (PyData.int n))) fun w x h=>hV o u w h
@[simp] theorem oS (o:Operator) (n:Int):YB o n=fun u=>xb (aD (W.d (PyData.int n))) fun w x h=>hV o u w h:=rfl
def YO (o:Operator) (u:W):W->XR W:=fun w x h=>hV o u w h
@[simp] theorem oT (o:Operator) (u:W):YO o u=fun w x h=>hV o u w h:=rfl
def YT:List PyData->XR W:=fun xs=>aD (W.d (PyData.tuple xs))
@[simp] theorem lH :YT=fun xs=>aD (W.d (PyData.tuple xs)):=rfl
noncomputable def YW:W×aA->Option (Fl×aA):=fun p=>some (Fl.rt p.1,p.2)
@[simp] theorem cU5 :YW=fun p=>some (Fl.rt p.1,p.2):=rfl
def YS (s:String):XR W:=aD (W.d (PyData.str (Str.ofString s)))
@[simp] theorem oU (s:String):YS s=aD (W.d (PyData.str (Str.ofString s))):=rfl
def YJ (n:Int):XR W:=aD (W.d (PyData.int n))
@[simp] theorem lL (n:Int):YJ n=aD (W.d (PyData.int n)):=rfl
noncomputable def YK (f:List W->aA->Option (W×aA)):List W->XR W:=fun ws x h=>f ws h
@[simp] theorem cU6 (f:List W->aA->Option (W×aA)):YK f=fun ws x h=>f ws h:=rfl
noncomputable def YQ (k:DSt->Fl×aA->Option (Fl×aA)):Fl×aA->Option (Fl×aA):=fun p=>match p.1 with
  | Fl.nx δ'=>k δ' p
  | f=>some (f,p.2)
noncomputable def YP {α β:Type} (x:Option α) (f:α->Option β):Option β:=Option.bind x f
@[simp] theorem cU7 {α β:Type} (x:Option α) (f:α->Option β):YP x f=Option.bind x f:=rfl
noncomputable def YG (i:Nat):XG:=fun w δ h=>some (List.set δ i (some w),h)
@[simp] theorem iA (i:Nat):YG i=fun w δ h=>some (List.set δ i (some w),h):=rfl
def YZ:XR W:=aD (W.d PyData.none)
@[simp] theorem mS:YZ=aD (W.d PyData.none):=rfl
def YV (i:Nat) (n:Int):XR W:=xb (aB i) (YI n)
@[simp] theorem oV (i:Nat) (n:Int):YV i n=xb (aB i) (YI n):=rfl
def YA (e:XR (List W)):W->XR W:=fun w δ h=>if jT (Str.ofString "append") w h=true then Option.bind (e δ h) fun p=>tT w p.1 p.2 else none
@[simp] theorem cU8 (e:XR (List W)):YA e=fun w δ h=>if jT (Str.ofString "append") w h=true then Option.bind (e δ h) fun p=>tT w p.1 p.2 else none:=rfl
def YR :W->XR (List PyData×Cw):=fun w x h=>match w with
  | W.d (PyData.int j)=>if eV 0 j=true then some ((rng 0 (Int.toNat j),none),h) else none
  | x=>none
@[simp] theorem cU9 :YR =fun w x h=>match w with
  | W.d (PyData.int j)=>if eV 0 j=true then some ((rng 0 (Int.toNat j),none),h) else none
  | x=>none:=rfl
def YD :W->XR Bool:=fun w=>match w with
  | W.d (PyData.bool b)=>aD b
  | x=>xno
@[simp] theorem cV0 :YD =fun w=>match w with
  | W.d (PyData.bool b)=>aD b
  | x=>xno:=rfl
def YU :W->XR (Option Int):=fun w=>match w with
  | W.d (PyData.int i)=>aD (some i)
  | x=>xno
@[simp] theorem cV1 :YU =fun w=>match w with
  | W.d (PyData.int i)=>aD (some i)
  | x=>xno:=rfl
def YX (x:W):W->XR W:=fun y _ h=>xIx x y h
@[simp] theorem lN (x:W):YX x=fun y _ h=>xIx x y h:=rfl
def YS3 (x:W) (l:Option Int):Option Int->XR W:=fun u _ h=>xSl x l u h
@[simp] theorem cQ8 (x:W) (l:Option Int):YS3 x l=fun u _ h=>xSl x l u h:=rfl
def YT2 (b:Bool) (δ:DSt):Bool×aA->Option (Fl×aA):=fun p=>if p.1=true then YP (YP (aD (W.d (PyData.bool b)) δ p.2) YW) YE else some (Fl.nx δ,p.2)
@[simp] theorem cQ9 (b:Bool) (δ:DSt):YT2 b δ=fun p=>if p.1=true then YP (YP (aD (W.d (PyData.bool b)) δ p.2) YW) YE else some (Fl.nx δ,p.2):=rfl
def YNg :W->XR W:=fun w=>match w with
  | W.d (PyData.int i)=>aD (W.d (PyData.int (-i)))
  | x=>xno
@[simp] theorem cR0 :YNg =fun w=>match w with
  | W.d (PyData.int i)=>aD (W.d (PyData.int (-i)))
  | x=>xno:=rfl
def Y1 (a:XR W):XR (List W):=xb a YN
@[simp] theorem lO (a:XR W):Y1 a=xb a YN:=rfl
def Y2 (a b:XR W):XR (List W):=xb a fun w=>xb (Y1 b) (YC w)
@[simp] theorem lP (a b:XR W):Y2 a b=xb a fun w=>xb (Y1 b) (YC w):=rfl
def Y3 (a b c:XR W):XR (List W):=xb a fun w=>xb (Y2 b c) (YC w)
@[simp] theorem oW (a b c:XR W):Y3 a b c=xb a fun w=>xb (Y2 b c) (YC w):=rfl
def Y4 (a b c e:XR W):XR (List W):=xb a fun w=>xb (Y3 b c e) (YC w)
@[simp] theorem oX (a b c e:XR W):Y4 a b c e=xb a fun w=>xb (Y3 b c e) (YC w):=rfl
def Y5 (a b c e f:XR W):XR (List W):=xb a fun w=>xb (Y4 b c e f) (YC w)
@[simp] theorem oY (a b c e f:XR W):Y5 a b c e f=xb a fun w=>xb (Y4 b c e f) (YC w):=rfl
def Y6 (a b c e f g:XR W):XR (List W):=xb a fun w=>xb (Y5 b c e f g) (YC w)
@[simp] theorem cV2 (a b c e f g:XR W):Y6 a b c e f g=xb a fun w=>xb (Y5 b c e f g) (YC w):=rfl
def Y7 (a b c e f g i:XR W):XR (List W):=xb a fun w=>xb (Y6 b c e f g i) (YC w)
@[simp] theorem cV3 (a b c e f g i:XR W):Y7 a b c e f g i=xb a fun w=>xb (Y6 b c e f g i) (YC w):=rfl
def YRt (x:Option (W×aA)):Option (Fl×aA):=YP (YP x YW) YE
@[simp] theorem cR1 (x:Option (W×aA)):YRt x=YP (YP x YW) YE:=rfl
def YNb :Bool->XR Bool:=fun b=>aD !b
@[simp] theorem cR2 :YNb =fun b=>aD !b:=rfl
def YNt (x:XR Bool):XR Bool:=xb x fun b=>aD !b
@[simp] theorem cR3 (x:XR Bool):YNt x=xb x fun b=>aD !b:=rfl
def YOb (x:XR Bool):Bool->XR Bool:=fun c=>if c=true then aD true else x
@[simp] theorem cR4 (x:XR Bool):YOb x=fun c=>if c=true then aD true else x:=rfl
def YAb (x:XR Bool):Bool->XR Bool:=fun c=>if c=true then x else aD false
@[simp] theorem cR5 (x:XR Bool):YAb x=fun c=>if c=true then x else aD false:=rfl
def YAn (b:XR W):W->XR W:=fun w=>match w with
  | W.d (PyData.bool true)=>b
  | W.d (PyData.bool false)=>aD (W.d (PyData.bool false))
  | x=>xno
@[simp] theorem cR6 (b:XR W):YAn b=fun w=>match w with
  | W.d (PyData.bool true)=>b
  | W.d (PyData.bool false)=>aD (W.d (PyData.bool false))
  | x=>xno:=rfl
def YOr (b:XR W):W->XR W:=fun w=>match w with
  | W.d (PyData.bool true)=>aD (W.d (PyData.bool true))
  | W.d (PyData.bool false)=>b
  | x=>xno
@[simp] theorem cR7 (b:XR W):YOr b=fun w=>match w with
  | W.d (PyData.bool true)=>aD (W.d (PyData.bool true))
  | W.d (PyData.bool false)=>b
  | x=>xno:=rfl
def YOx (o:Operator) (x:XR W):W->XR W:=fun u=>xb x (YO o u)
@[simp] theorem cR8 (o:Operator) (x:XR W):YOx o x=fun u=>xb x (YO o u):=rfl
def YXx (x:XR W):W->XR W:=fun u=>xb x (YX u)
@[simp] theorem bZ9 (x:XR W):YXx x=fun u=>xb x (YX u):=rfl
def YSl (l r:XR (Option Int)):W->XR W:=fun x=>xb l fun u=>xb r (YS3 x u)
@[simp] theorem cR9 (l r:XR (Option Int)):YSl l r=fun x=>xb l fun u=>xb r (YS3 x u):=rfl
def YIs (s:String):W->XR W:=fun w x h=>YP (ref h w) fun d=>if noD d=true then some (W.d (PyData.bool (isi d s)),h) else none
@[simp] theorem cS0 (s:String):YIs s=fun w x h=>YP (ref h w) fun d=>if noD d=true then some (W.d (PyData.bool (isi d s)),h) else none:=rfl
noncomputable def YNx {α:Type} (D:DSt):α×aA->Option (Fl×aA):=fun p=>some (Fl.nx D,p.2)
@[simp] theorem cS1 {α:Type} (D:DSt):YNx (α:=α) D=(fun p=>some (Fl.nx D,p.2):α×aA->Option (Fl×aA)):=rfl
noncomputable def YIf (D:DSt) (a:Bool×aA->Option (Fl×aA)):Bool×aA->Option (Fl×aA):=fun p=>if p.1=true then a p else some (Fl.nx D,p.2)
@[simp] theorem cS2 (D:DSt) (a:Bool×aA->Option (Fl×aA)):YIf D a=fun p=>if p.1=true then a p else some (Fl.nx D,p.2):=rfl
def YIr (D:DSt) (e:XR W):Bool×aA->Option (Fl×aA):=fun p=>if p.1=true then YP (YP (e D p.2) YW) YE else some (Fl.nx D,p.2)
@[simp] theorem cS3 (D:DSt) (e:XR W):YIr D e=fun p=>if p.1=true then YP (YP (e D p.2) YW) YE else some (Fl.nx D,p.2):=rfl
def YCp (g:XG) (t:XR Bool) (e:XR W) (l:List (Option Nat)):List PyData×Cw->XR (List PyData):=fun p δ h=>aV g t e p.2 p.1 p.1 (bW l δ) h []
@[simp] theorem cS4 (g:XG) (t:XR Bool) (e:XR W) (l:List (Option Nat)):YCp g t e l=fun p δ h=>aV g t e p.2 p.1 p.1 (bW l δ) h []:=rfl
def YFr (g:XG) (b:XS) (D:DSt):(List PyData×Cw)×aA->Option (Fl×aA):=fun p=>bQ g b p.1.2 p.1.1 p.1.1 D p.2
@[simp] theorem cS5 (g:XG) (b:XS) (D:DSt):YFr g b D=fun p=>bQ g b p.1.2 p.1.1 p.1.1 D p.2:=rfl
def YPt (o k:XR W) (D:DSt):W×aA->Option (Fl×aA):=fun p=>YP (YP (o D p.2) fun p_1=>YP (k D p_1.2) fun q=>match p_1.1,q.1,p.1 with
  | W.c j,W.d y,W.d x=>kX j y x D q.2
  | W.c j,W.d y,W.c i=>tU j y i D q.2
  | x,x_2,x_3=>none) fun q=>some (Fl.nx q.1,q.2)
@[simp] theorem cS6 (o k:XR W) (D:DSt):YPt o k D=fun p=>YP (YP (o D p.2) fun p_1=>YP (k D p_1.2) fun q=>match p_1.1,q.1,p.1 with
  | W.c j,W.d y,W.d x=>kX j y x D q.2
  | W.c j,W.d y,W.c i=>tU j y i D q.2
  | x,x_2,x_3=>none) fun q=>some (Fl.nx q.1,q.2):=rfl
noncomputable def YKa {α:Type} (f:List W->aA->Option (α×aA)):List W->XR α:=fun ws x h=>f ws h
@[simp] theorem cS7 {α:Type} (f:List W->aA->Option (α×aA)):YKa (α:=α) f=(fun ws x h=>f ws h:List W->XR α):=rfl
def YWf (d:Nat) (s:String):List W->XR W:=fun ws x h=>callW T d (Str.ofString s) ws h
@[simp] theorem cS8 (d:Nat) (s:String):YWf d s=fun ws x h=>callW T d (Str.ofString s) ws h:=rfl
def YTp (l:XR (List W)):XR W:=xb (xPl l) YT
@[simp] theorem cS9 (l:XR (List W)):YTp l=xb (xPl l) YT:=rfl
def YF1 (b:Bool) (d:Nat) (s:String) (a:XR W):XR W:=xb (Y1 a) (YF b d s)
@[simp] theorem cT0 (b:Bool) (d:Nat) (s:String) (a:XR W):YF1 b d s a=xb (Y1 a) (YF b d s):=rfl
def YF2 (m:Bool) (d:Nat) (s:String) (a b:XR W):XR W:=xb (Y2 a b) (YF m d s)
@[simp] theorem cT1 (m:Bool) (d:Nat) (s:String) (a b:XR W):YF2 m d s a b=xb (Y2 a b) (YF m d s):=rfl
def YK1 (f:List W->aA->Option (W×aA)) (a:XR W):XR W:=xb (Y1 a) (YK f)
@[simp] theorem cT2 (f:List W->aA->Option (W×aA)) (a:XR W):YK1 f a=xb (Y1 a) (YK f):=rfl
def wY (b:Bool) (d:Nat) (w0:W) (h:aA):aE (TT b) (d+1) "is_whole" [w0] h =
 YP (YRt (xb (xb (aB 0) (YIs "int")) (YAn (xb (xb (aB 0) (YIs "bool")) fun (w:W)=>match w with|W.d (PyData.bool b)=>aD (W.d (PyData.bool (!b)))|x=>xno)) [some w0] h)) (ends h):=by kernel_rfl
def rZ (b:Bool) (d:Nat) (w0 w1 w2:W) (h:aA):aE (TT b) (d+1) "is_between" [w0,w1,w2] h =
 YP (YRt (xb (YF1 b d "is_whole" (aB 0)) (YAn (bH (xC2 CmpOp.LtE CmpOp.LtE (aB 1) (aB 0) (aB 2)))) [some w0,some w1,some w2] h)) (ends h):=by kernel_rfl
def pS (b:Bool) (d:Nat) (w0 w1:W) (h:aA):aE (TT b) (d+1) "is_tuple_of" [w0,w1] h =
 YP (YRt (xb (xb (aB 0) (YIs "tuple")) (YAn (bH (xC1 CmpOp.Eq (YK1 bJ (aB 0)) (aB 1)))) [some w0,some w1] h)) (ends h):=by kernel_rfl
def uP (b:Bool) (d:Nat) (w0:W) (h:aA):aE (TT b) (d+1) "are_whole" [w0] h =
 YP (YRt (xb (Y1 (aO (xb (bB (aB 0)) (YCp (YG 0) (aD true) (YF1 b d "is_whole" (aB 0)) [none])))) (YK gC) [some w0] h)) (ends h):=by kernel_rfl
def sB (d:Nat) (w0:W) (h:aA):aE T (d+1) "are_rising" [w0] h =
 YP (YRt (xb (Y1 (aO (xb (xb (xb (YK1 bJ (aB 0)) (YB .Sub 1)) YR) (YCp (YG 0) (aD true) (bH (xC1 CmpOp.Lt (xb (aB 1) (YXx (aB 0))) (xb (aB 1) (YXx (xb (aB 0) (YB .Add 1)))))) [none,some 0])))) (YK gC) [some w0] h)) (ends h):=by kernel_rfl
def aN2 (b:Bool) (d:Nat) (w0:W) (h:aA):aE (TT b) (d+1) "is_key" [w0] h =
 YP (YRt (xb (Y3 (aB 0) (YJ 0) (YJ 7)) (YF b d "is_between") [some w0] h)) (ends h):=by kernel_rfl
def iP (b:Bool) (d:Nat) (w0:W) (h:aA):aE (TT b) (d+1) "word_of" [w0] h =
 YP (YP (YP (xb (xb (xb (aB 0) (YIs "tuple")) YD) (YAb (xb (xC1 CmpOp.Gt (YK1 bJ (aB 0)) (YJ 0)) (YAb (xb (xb (YV 0 0) (YIs "str")) YD)))) [some w0] h) (YIr [some w0] (xb (aB 0) (YI 0)))) (YQ fun δ' p=>YRt (YZ δ' p.2))) (ends h):=by kernel_rfl
def uQ (b:Bool) (d:Nat) (w0 w1 w2:W) (h:aA):aE (TT b) (d+1) "is_worded" [w0,w1,w2] h =
 YP (YRt (xb (bH (xC1 CmpOp.Eq (YF1 b d "word_of" (aB 0)) (aB 1))) (YAn (bH (xC1 CmpOp.Eq (YK1 bJ (aB 0)) (aB 2)))) [some w0,some w1,some w2] h)) (ends h):=by kernel_rfl
def uR (b:Bool) (d:Nat) (w0:W) (h:aA):aE (TT b) (d+1) "is_single" [w0] h =
 YP (YP (aQ 1 (YF1 b d "word_of" (aB 0)) [some w0,none] h) (YQ fun δ' p=>YP (YP (xb (lZ (fun (z:Str)=>List.lookup z [(Str.ofString "read",PyData.int 0),(Str.ofString "write",PyData.int 1),(Str.ofString "add",PyData.int 1),(Str.ofString "swap",PyData.int 2)]) (aB 1)) (YOb (xC1 CmpOp.NotEq (YK1 bJ (aB 0)) (xb (YJ 2) (YOx .Add (xb (aB 1) fun (w:W)=>match w with|W.d (PyData.str z)=>(match List.lookup z [(Str.ofString "read",PyData.int 0),(Str.ofString "write",PyData.int 1),(Str.ofString "add",PyData.int 1),(Str.ofString "swap",PyData.int 2)] with|some i=>aD (W.d i)|none=>xno)|x=>xno))))) δ' p.2) (YT2 false δ')) (YQ fun δ' p=>YRt (xb (YF1 b d "is_key" (YV 0 1)) (YAn (YF1 b d "are_whole" (xb (aB 0) (YSl (xb (YJ 2) YU) (aD none))))) δ' p.2)))) (ends h):=by kernel_rfl
def aC6 (b:Bool) (d:Nat) (w0:W) (h:aA):aE (TT b) (d+1) "is_span" [w0] h =
 YP (YP (YP (xb (YNt (xb (xb (Y3 (aB 0) (YS "span") (YJ 3)) (YF b d "is_worded")) YD)) (YOb (YNt (xb (YF1 b d "are_whole" (xb (aB 0) (YSl (xb (YJ 1) YU) (aD none)))) YD))) [some w0] h) (YT2 false [some w0])) (YQ fun δ' p=>YRt (bH (xC3 CmpOp.LtE CmpOp.Lt CmpOp.LtE (YJ 0) (YV 0 1) (YV 0 2) (xb (YJ 7) (YB .Add 1))) δ' p.2))) (ends h):=by kernel_rfl
def aC7 (b:Bool) (d:Nat) (w0:W) (h:aA):aE (TT b) (d+1) "is_deal" [w0] h =
 YP (YP (YP (xb (YNt (xb (xb (Y3 (aB 0) (YS "deal") (YJ 2)) (YF b d "is_worded")) YD)) (YOb (YNt (xb (xb (YV 0 1) (YIs "tuple")) YD))) [some w0] h) (YT2 false [some w0])) (YQ fun δ' p=>YRt (xb (bH (xC2 CmpOp.LtE CmpOp.LtE (YJ 1) (YK1 bJ (YV 0 1)) (YJ 4))) (YAn (YK1 gC (aO (xb (bB (YV 0 1)) (YCp (YG 0) (aD true) (YF1 b d "is_single" (aB 0)) [none]))))) δ' p.2))) (ends h):=by kernel_rfl
def aC8 (b:Bool) (d:Nat) (w0:W) (h:aA):aE (TT b) (d+1) "is_call" [w0] h =
 YP (YRt (xb (YF1 b d "is_single" (aB 0)) (YOr (xb (YF1 b d "is_span" (aB 0)) (YOr (YF1 b d "is_deal" (aB 0))))) [some w0] h)) (ends h):=by kernel_rfl
def aC9 (b:Bool) (d:Nat) (w0:W) (h:aA):aE (TT b) (d+1) "is_look" [w0] h =
 YP (YRt (xb (xb (Y3 (aB 0) (YS "look") (YJ 2)) (YF b d "is_worded")) (YAn (YF1 b d "is_call" (YV 0 1))) [some w0] h)) (ends h):=by kernel_rfl
def mT (b:Bool) (d:Nat) (w0:W) (h:aA):aE (TT b) (d+1) "is_value_pair" [w0] h =
 YP (YRt (xb (YF2 b d "is_tuple_of" (aB 0) (YJ 2)) (YAn (xb (YF1 b d "is_key" (YV 0 0)) (YAn (YF1 b d "is_whole" (YV 0 1))))) [some w0] h)) (ends h):=by kernel_rfl
def aN3 (b:Bool) (d:Nat) (w0:W) (h:aA):aE (TT b) (d+1) "is_lay" [w0] h =
 YP (YP (YP (xb (YNt (xb (xb (Y3 (aB 0) (YS "lay") (YJ 2)) (YF b d "is_worded")) YD)) (YOb (xb (YNt (xb (xb (YV 0 1) (YIs "tuple")) YD)) (YOb (xC1 CmpOp.Eq (YK1 bJ (YV 0 1)) (YJ 0))))) [some w0] h) (YT2 false [some w0])) (YQ fun δ' p=>YP (YP (xb (xb (YK1 gC (aO (xb (bB (YV 0 1)) (YCp (YG 0) (aD true) (YF1 b d "is_value_pair" (aB 0)) [none])))) YD) YNb δ' p.2) (YT2 false δ')) (YQ fun δ' p=>YRt (xb (Y1 (aO (xb (bB (YV 0 1)) (YCp (YG 0) (aD true) (YV 0 0) [none])))) (YF b d "are_rising") δ' p.2)))) (ends h):=by kernel_rfl
def qO (b:Bool) (d:Nat) (w0:W) (h:aA):aE (TT b) (d+1) "is_step" [w0] h =
 YP (YRt (xb (YF1 b d "is_call" (aB 0)) (YOr (xb (YF1 b d "is_look" (aB 0)) (YOr (YF1 b d "is_lay" (aB 0))))) [some w0] h)) (ends h):=by kernel_rfl
def uS (b:Bool) (d:Nat) (w0 w1:W) (h:aA):aE (TT b) (d+1) "is_answer" [w0,w1] h =
 YP (YP (YP (xb (xb (YF1 b d "is_step" (aB 0)) YD) YNb [some w0,some w1] h) (YT2 false [some w0,some w1])) (YQ fun δ' p=>YP (YP (xb (xb (Y3 (aB 1) (YS "refused") (YJ 1)) (YF b d "is_worded")) YD δ' p.2) (YIr δ' (YF1 b d "is_call" (aB 0)))) (YQ fun δ' p=>YRt (xb (Y2 (aB 0) (aB 1)) (YF b d "is_own_answer") δ' p.2)))) (ends h):=by kernel_rfl
def bO (b:Bool) (d:Nat) (w0 w1:W) (h:aA):aE (TT b) (d+1) "is_own_answer" [w0,w1] h =
 YP (YP (aQ 2 (YV 0 0) [some w0,some w1,none] h) (YQ fun δ' p=>YP (YP (xC1 CmpOp.In (aB 2) (YTp (Y2 (YS "read") (YS "add"))) δ' p.2) (YIr δ' (xb (xb (Y3 (aB 1) (YS "got") (YJ 2)) (YF b d "is_worded")) (YAn (YF1 b d "is_whole" (YV 1 1)))))) (YQ fun δ' p=>YP (YP (xC1 CmpOp.In (aB 2) (YTp (Y2 (YS "write") (YS "lay"))) δ' p.2) (YIr δ' (xb (Y3 (aB 1) (YS "done") (YJ 1)) (YF b d "is_worded")))) (YQ fun δ' p=>YP (YP (xC1 CmpOp.Eq (aB 2) (YS "swap") δ' p.2) (YIr δ' (xb (xb (Y3 (aB 1) (YS "yes") (YJ 1)) (YF b d "is_worded")) (YOr (xb (Y3 (aB 1) (YS "no") (YJ 1)) (YF b d "is_worded")))))) (YQ fun δ' p=>YP (YP (xC1 CmpOp.Eq (aB 2) (YS "span") δ' p.2) (YIr δ' (xb (xb (Y3 (aB 1) (YS "all") (YJ 2)) (YF b d "is_worded")) (YAn (xb (YF2 b d "is_tuple_of" (YV 1 1) (xb (YV 0 2) (YOx .Sub (YV 0 1)))) (YAn (YF1 b d "are_whole" (YV 1 1)))))))) (YQ fun δ' p=>YP (YP (xC1 CmpOp.Eq (aB 2) (YS "look") δ' p.2) (YIr δ' (YF2 b d "is_own_answer" (YV 0 1) (aB 1)))) (YQ fun δ' p=>YP (YP (xb (YNt (xb (xb (Y3 (aB 1) (YS "each") (YJ 2)) (YF b d "is_worded")) YD)) (YOb (YNt (xb (YF2 b d "is_tuple_of" (YV 1 1) (YK1 bJ (YV 0 1))) YD))) δ' p.2) (YT2 false δ')) (YQ fun δ' p=>YRt (xb (Y1 (aO (xb (xb (YV 0 1) fun (u:W)=>xb (YV 1 1) fun (w:W) (x:DSt) (h:aA)=>match nK u,nK w with|some xs,some ys=>some ((kU xs ys,none),h)|x,x_1=>none) (YCp (aR [YG 0,YG 1]) (aD true) (YF2 b d "is_own_answer" (aB 0) (aB 1)) [none,none])))) (YK gC) δ' p.2))))))))) (ends h):=by kernel_rfl
def aD0 (b:Bool) (d:Nat) (w0:W) (h:aA):aE (TT b) (d+1) "is_time" [w0] h =
 YP (YRt (xb (YF1 b d "is_whole" (aB 0)) (YAn (bH (xC1 CmpOp.GtE (aB 0) (YJ 0)))) [some w0] h)) (ends h):=by kernel_rfl
def lQ (b:Bool) (d:Nat) (w0:W) (h:aA):aE (TT b) (d+1) "is_deed" [w0] h =
 YP (YP (YP (xb (YNt (xb (YF2 b d "is_tuple_of" (aB 0) (YJ 5)) YD)) (YOb (YNt (xb (xb (Y3 (YV 0 0) (YJ 0) (YJ 5)) (YF b d "is_between")) YD))) [some w0] h) (YT2 false [some w0])) (YQ fun δ' p=>YP (YP (xb (YNt (xb (YF1 b d "is_time" (YV 0 1)) YD)) (YOb (YNt (xb (YF1 b d "is_call" (YV 0 3)) YD))) δ' p.2) (YT2 false δ')) (YQ fun δ' p=>YP (YP (xC1 CmpOp.Is (YV 0 2) YZ δ' p.2) (YIr δ' (bH (xC1 CmpOp.Is (YV 0 4) YZ)))) (YQ fun δ' p=>YRt (xb (YF1 b d "is_time" (YV 0 2)) (YAn (xb (bH (xC1 CmpOp.Lt (YV 0 1) (YV 0 2))) (YAn (YF2 b d "is_answer" (YV 0 3) (YV 0 4))))) δ' p.2))))) (ends h):=by kernel_rfl
def wZ (b:Bool) (d:Nat) (w0:W) (h:aA):aE (TT b) (d+1) "times_of" [w0] h =
 YP (YRt (xb (xC1 CmpOp.Is (YV 0 2) YZ) (fun (t:Bool)=>if t=true then aO (xPl (Y1 (YV 0 1))) else aO (xPl (Y2 (YV 0 1) (YV 0 2)))) [some w0] h)) (ends h):=by kernel_rfl
def pT (b:Bool) (d:Nat) (w0 w1:W) (h:aA):aE (TT b) (d+1) "ended_below" [w0,w1] h =
 YP (YRt (xb (bH (xC1 CmpOp.IsNot (YV 0 2) YZ)) (YAn (bH (xC1 CmpOp.Lt (YV 0 2) (aB 1)))) [some w0,some w1] h)) (ends h):=by kernel_rfl
def jI (b:Bool) (d:Nat) (w0 w1:W) (h:aA):aE (TT b) (d+1) "go_together" [w0,w1] h =
 YP (YP (YP (xb (YK1 tN (aO (xb (bB (YF1 b d "times_of" (aB 0))) (YCp (YG 0) (aD true) (bH (xC1 CmpOp.In (aB 0) (YF1 b d "times_of" (aB 1)))) [none,some 1])))) YD [some w0,some w1] h) (YT2 false [some w0,some w1])) (YQ fun δ' p=>YRt (xb (bH (xC1 CmpOp.NotEq (YV 0 0) (YV 1 0))) (YOr (xb (YF2 b d "ended_below" (aB 0) (YV 1 1)) (YOr (YF2 b d "ended_below" (aB 1) (YV 0 1))))) δ' p.2))) (ends h):=by kernel_rfl
@[simp] def dJ (b:Bool) (d:Nat) (x:DSt) (x_1:aA):Option (Fl×aA) :=
 YP (YP (xb (xb (YK1 gC (aO (xb (bB (xb (aB 0) (YSl (aD none) (xb (aB 1) YU)))) (YCp (YG 0) (aD true) (YF2 b d "go_together" (aB 1) (aB 0)) [none,some 3])))) YD) YNb x x_1) (YIf x fun p=>YP none YE)) YE
@[simp] def dN (b:Bool) (d:Nat) (x:DSt) (x_1:aA):Option (Fl×aA) :=
 YP (YP (xb (xb (YF1 b d "is_deed" (aB 2)) YD) YNb x x_1) (YIf x fun p=>YP none YE)) YE
def uT (b:Bool) (d:Nat) (w0:W) (h:aA):aE (TT b) (d+1) "look_over" [w0] h =
 YP (YP (YP (xb (YNt (xb (xb (aB 0) (YIs "tuple")) YD)) (YOb (xC1 CmpOp.Gt (YK1 bJ (aB 0)) (YJ 60))) [some w0,none,none,none] h) (YIf [some w0,none,none,none] fun p=>YP none YE)) (YQ fun δ' p=>YP (YP (xb (aB 0) (fun (u:W) (x:DSt) (h:aA)=>iX u h) δ' p.2) (YFr (aR [YG 1,YG 2]) (dN b d) δ')) (YQ fun δ' p=>YP (YP (xb (aB 0) (fun (u:W) (x:DSt) (h:aA)=>iX u h) δ' p.2) (YFr (aR [YG 1,YG 3]) (dJ b d) δ')) YE))) (ends h):=by kernel_rfl
def oZ (b:Bool) (d:Nat) (w0 w1 w2:W) (h:aA):aE (TT b) (d+1) "really_ahead" [w0,w1,w2] h =
 YP (YRt (xb (Y2 (xb (aB 0) (YXx (aB 1))) (xb (xb (aB 0) (YXx (aB 2))) (YI 1))) (YF b d "ended_below") [some w0,some w1,some w2] h)) (ends h):=by kernel_rfl
def xA (d:Nat) (w0:W) (h:aA):aE T (d+1) "is_stand" [w0] h =
 YP (YRt (xb (YF2 false d "is_tuple_of" (aB 0) (YK1 bJ (aD (W.d (PyData.tuple (List.reverse [PyData.int 0,PyData.int 0,PyData.int 0,PyData.int 0,PyData.int 0,PyData.int 0,PyData.int 0,PyData.int 0])))))) (YAn (YF1 false d "are_whole" (aB 0))) [some w0] h)) (ends h):=by kernel_rfl
def mU (d:Nat) (w0:W) (h:aA):aE T (d+1) "check_promise" [w0] h =
 YP (YP (YP (xb (YNt (xb (xb (aB 0) (YIs "str")) YD)) (YOb (xC1 CmpOp.NotIn (aB 0) (aD (W.d (PyData.tuple (List.reverse [PyData.str (Str.ofString "kept"),PyData.str (Str.ofString "thing"),PyData.str (Str.ofString "hand"),PyData.str (Str.ofString "stand"),PyData.str (Str.ofString "snap"),PyData.str (Str.ofString "any"),PyData.str (Str.ofString "row"),PyData.str (Str.ofString "real")])))))) [some w0] h) (YIf [some w0] fun p=>YP none YE)) YE) (ends h):=by kernel_rfl
def uU (d:Nat) (w0 w1:W) (h:aA):aE T (d+1) "frames_of" [w0,w1] h =
 YP (YP (YP (xb (Y1 (aB 0)) (YF false d "look_over") [some w0,some w1] h) (YNx [some w0,some w1])) (YQ fun δ' p=>YP (YP (xb (Y1 (aB 1)) (YF false d "check_promise") δ' p.2) (YNx δ')) (YQ fun δ' p=>YRt (xb (Y2 (aB 0) (aB 1)) (YF false d "framed") δ' p.2)))) (ends h):=by kernel_rfl
def aN4 (d:Nat) (w0 w1:W) (h:aA):aE T (d+1) "framed" [w0,w1] h =
 YP (YP (YP (xC1 CmpOp.In (aB 1) (YTp (Y3 (YS "real") (YS "row") (YS "any"))) [some w0,some w1,none,none] h) (YIr [some w0,some w1,none,none] (aO (xPl (Y1 (xb (Y4 (aB 0) (aB 1) YZ (YF1 false d "whole_entries" (aB 0))) (YF false d "frame"))))))) (YQ fun δ' p=>YP (YP (xC1 CmpOp.In (aB 1) (YTp (Y2 (YS "snap") (YS "stand"))) δ' p.2) (YIr δ' (aO (xPl (Y1 (xb (Y4 (aB 0) (aB 1) YZ (YF1 false d "look_entries" (aB 0))) (YF false d "frame"))))))) (YQ fun δ' p=>YP (YP (xC1 CmpOp.Eq (aB 1) (YS "hand") δ' p.2) (YIf δ' fun p=>YP (aQ 2 (aO (xb (xno:XR (List W)) (YKa nN))) δ' p.2) (YQ fun δ' p=>YRt (aO (xb (bB (aB 2)) (YCp (YG 0) (aD true) (xb (Y4 (aB 1) (aB 2) (aB 0) (YF2 false d "hand_entries" (aB 1) (aB 0))) (YF false d "frame")) [none,some 0,some 1])) δ' p.2)))) (YQ fun δ' p=>YP (aQ 3 (aO (xb (xb (xb (YJ 7) (YB .Add 1)) YR) (YCp (YG 0) (aD true) (YTp (Y2 (aB 0) (xb (Y3 (aB 1) (aB 2) (aB 0)) (YF false d "key_entries")))) [none,some 0,some 1]))) δ' p.2) (YQ fun δ' p=>YRt (aO (xb (bB (aB 3)) (YCp (aR [YG 0,YG 1]) (xC1 CmpOp.Gt (YK1 bJ (aB 1)) (YJ 0)) (xb (Y4 (aB 2) (aB 3) (aB 0) (aB 1)) (YF false d "frame")) [none,none,some 0,some 1])) δ' p.2)))))) (ends h):=by kernel_rfl
def aY3 (d:Nat) (w0 w1 w2 w3:W) (h:aA):aE T (d+1) "frame" [w0,w1,w2,w3] h =
 YP (YP (aQ 4 (YK1 bM (aO (xb (bB (aB 3)) (YCp (aR [YG 0,YG 1]) (aD true) (aB 0) [none,none])))) [some w0,some w1,some w2,some w3,none,none,none,none,none] h) (YQ fun δ' p=>YP (aQ 5 (YK1 bM (aO (xb (bB (aB 3)) (YCp (aR [YG 0,YG 1]) (aD true) (aB 1) [none,none])))) δ' p.2) (YQ fun δ' p=>YP (aQ 6 (YTp (aD [])) δ' p.2) (YQ fun δ' p=>YP (aQ 7 (YTp (aD [])) δ' p.2) (YQ fun δ' p=>YP (YP (xC1 CmpOp.In (aB 1) (YTp (Y2 (YS "real") (YS "thing"))) δ' p.2) fun p=>if p.1=true then YP (aQ 6 (xb (Y3 (aB 0) (aB 5) (aD (W.d (fkD (Str.ofString "really_ahead"))))) (YF false d "pairs_where")) δ' p.2) YE else YP (YP (xC1 CmpOp.In (aB 1) (YTp (Y2 (YS "row") (YS "hand"))) δ' p.2) fun p=>if p.1=true then YP (aQ 6 (xb (Y3 (aB 0) (aB 5) (aD (W.d (fkD (Str.ofString "ahead_by_hand"))))) (YF false d "pairs_where")) δ' p.2) YE else YP (YP (xC1 CmpOp.Eq (aB 1) (YS "snap") δ' p.2) (YIf δ' fun p=>YP (aQ 8 (YF1 false d "looks_with_lays" (aB 5)) δ' p.2) (YQ fun δ' p=>YP (aQ 6 (YK1 bM (aO (xb (bB (aB 8)) (YCp (YG 0) (aD true) (YTp (Y2 (aB 0) (xb (aB 0) (YB .Add 1)))) [none])))) δ' p.2) (YQ fun δ' p=>YP (aQ 7 (YF2 false d "triples_of" (aB 4) (aB 8)) δ' p.2) YE)))) YE) YE) (YQ fun δ' p=>YRt (xb (xPl (Y3 (aB 2) (YTp (Y4 (aD (W.d (PyData.tuple (List.reverse [PyData.int 0,PyData.int 0,PyData.int 0,PyData.int 0,PyData.int 0,PyData.int 0,PyData.int 0,PyData.int 0])))) (aB 4) (aB 6) (aB 7))) (aB 5))) YT δ' p.2))))))) (ends h):=by kernel_rfl
def pU (d:Nat) (w0:W) (h:aA):aE T (d+1) "taking_part" [w0] h =
 YP (YP (aQ 1 (aO (xb (xb (aB 0) fun (u:W) (x:DSt) (h:aA)=>iX u h) (YCp (aR [YG 0,YG 1]) (xC1 CmpOp.NotEq (YV 1 4) (aD (W.d (PyData.tuple (List.reverse [PyData.str (Str.ofString "refused")]))))) (aB 0) [none,none]))) [some w0,none] h) (YQ fun δ' p=>YRt (aO (xb (Y1 (aB 1)) fun (ws:List W)=>match ws with|[w]=>nO false (xb (xb (aB 1) (YXx (aB 0))) (YI 1)) [none,some 0] 0 "taking_part.<locals>.<lambda>" ⟨200,31,200,64⟩ w|x=>xno) δ' p.2))) (ends h):=by kernel_rfl
def aY4 (d:Nat) (w0 w1 w2 w3:W) (h:aA):aE T (d+1) "entry" [w0,w1,w2,w3] h =
 YP (YP (aQ 4 (xb (xC1 CmpOp.Is (xb (xb (aB 0) (YXx (aB 1))) (YI 2)) YZ) fun (t:Bool)=>if t=true then YS "may" else YS "must") [some w0,some w1,some w2,some w3,none] h) (YQ fun δ' p=>YRt (xb (xPl (Y2 (YTp (Y3 (aB 2) (aB 3) (aB 4))) (aB 1))) YT δ' p.2))) (ends h):=by kernel_rfl
def mV (d:Nat) (w0:W) (h:aA):aE T (d+1) "whole_entries" [w0] h =
 YP (YRt (aO (xb (bB (YF1 false d "taking_part" (aB 0))) (YCp (YG 0) (aD true) (xb (Y4 (aB 1) (aB 0) (xb (xb (aB 1) (YXx (aB 0))) (YI 3)) (xb (xb (aB 1) (YXx (aB 0))) (YI 4))) (YF false d "entry")) [none,some 0])) [some w0] h)) (ends h):=by kernel_rfl
def mW (d:Nat) (w0 w1 w2:W) (h:aA):aE T (d+1) "ahead_by_hand" [w0,w1,w2] h =
 YP (YRt (xb (bH (xC1 CmpOp.Eq (xb (xb (aB 0) (YXx (aB 1))) (YI 0)) (xb (xb (aB 0) (YXx (aB 2))) (YI 0)))) (YAn (bH (xC1 CmpOp.Lt (xb (xb (aB 0) (YXx (aB 1))) (YI 1)) (xb (xb (aB 0) (YXx (aB 2))) (YI 1))))) [some w0,some w1,some w2] h)) (ends h):=by kernel_rfl
@[simp] def cT (d:Nat) (x:DSt) (x_1:aA):Option (Fl×aA) :=
 YP
 (YP (xb (aB 1) (fun (u:W) (x:DSt) (h:aA)=>iX u h) x x_1) fun (p:(List PyData×Cw)×aA) =>
 bQ (aR [YG 6,YG 7])
 (fun (x:DSt) (x_2:aA) =>
 YP
 (YP
 (xb
 (xb (aB 2) fun (w:W) =>
 match w with
        | W.d (PyData.dict kvs) =>
        (match kT kvs with
        | some g =>
         (match fnT T (fun (y:Str)=>aE T d y) g with
         | some m=>xb (Y3 (aB 0) (aB 5) (aB 7)) fun (ws:List W) (x:DSt) (h:aA)=>YP (m ws h) fun p=>some (W.d p.1,p.2)
         | none=>xno)
        | none=>xno)
        | x=>xno)
 (YD)
 x x_2)
 fun p =>
 if p.1=true then
 YP (YP (xb (aB 3) ((YA (Y1 (xb (xPl (Y2 (aB 4) (aB 6))) YT)))) x p.2) fun p=>some (Fl.nx x,p.2)) YE
 else some (Fl.nx x,p.2))
 YE)
 (Prod.snd p.1) (Prod.fst p.1) (Prod.fst p.1) x p.2)
 YE
def pV (d:Nat) (w0 w1 w2:W) (h:aA):aE T (d+1) "pairs_where" [w0,w1,w2] h =
 YP (YP (aQ 3 (cA (xPl (aD []))) [some w0,some w1,some w2,none,none,none,none,none] h) (YQ fun δ' p=>YP (YP (xb (aB 1) (fun (u:W) (x:DSt) (h:aA)=>iX u h) δ' p.2) (YFr (aR [YG 4,YG 5]) (cT d) δ')) (YQ fun δ' p=>YRt (xb (Y1 (aB 3)) (YK bM) δ' p.2)))) (ends h):=by kernel_rfl
def qQ (d:Nat) (w0:W) (h:aA):aE T (d+1) "is_item" [w0] h =
 YP (YP (YP (xb (YNt (xb (YF2 false d "is_tuple_of" (aB 0) (YJ 3)) YD)) (YOb (YNt (xb (YF1 false d "is_step" (YV 0 0)) YD))) [some w0] h) (YT2 false [some w0])) (YQ fun δ' p=>YP (YP (xb (xC1 CmpOp.IsNot (YV 0 1) YZ) (YAb (YNt (xb (YF2 false d "is_answer" (YV 0 0) (YV 0 1)) YD))) δ' p.2) (YT2 false δ')) (YQ fun δ' p=>YRt (xb (xb (YV 0 2) (YIs "str")) (YAn (bH (xC1 CmpOp.In (YV 0 2) (aD (W.d (PyData.tuple (List.reverse [PyData.str (Str.ofString "out"),PyData.str (Str.ofString "may"),PyData.str (Str.ofString "must")]))))))) δ' p.2)))) (ends h):=by kernel_rfl
def uV (d:Nat) (w0:W) (h:aA):aE T (d+1) "are_items" [w0] h =
 YP (YRt (xb (xb (aB 0) (YIs "tuple")) (YAn (xb (bH (xC1 CmpOp.LtE (YK1 bJ (aB 0)) (YJ 120))) (YAn (YK1 gC (aO (xb (bB (aB 0)) (YCp (YG 0) (aD true) (YF1 false d "is_item" (aB 0)) [none]))))))) [some w0] h)) (ends h):=by kernel_rfl
def pW (d:Nat) (w0 w1:W) (h:aA):aE T (d+1) "are_numbers" [w0,w1] h =
 YP (YRt (xb (Y1 (aO (xb (bB (aB 0)) (YCp (YG 0) (aD true) (xb (Y3 (aB 0) (YJ 0) (xb (aB 1) (YB .Sub 1))) (YF false d "is_between")) [none,some 1])))) (YK gC) [some w0,some w1] h)) (ends h):=by kernel_rfl
def sC (d:Nat) (w0 w1 w2:W) (h:aA):aE T (d+1) "are_unlike" [w0,w1,w2] h =
 YP (YRt (xb (YF2 false d "is_tuple_of" (aB 0) (aB 1)) (YAn (xb (YF2 false d "are_numbers" (aB 0) (aB 2)) (YAn (bH (xC1 CmpOp.Eq (xb (Y1 (aB 0)) (YKa xLS)) (aB 1)))))) [some w0,some w1,some w2] h)) (ends h):=by kernel_rfl
def uW (d:Nat) (w0 w1:W) (h:aA):aE T (d+1) "are_pairs" [w0,w1] h =
 YP (YP (YP (xb (YNt (xb (xb (aB 0) (YIs "tuple")) YD)) (YOb (xC1 CmpOp.Gt (YK1 bJ (aB 0)) (YJ 4000))) [some w0,some w1] h) (YT2 false [some w0,some w1])) (YQ fun δ' p=>YRt (xb (Y1 (aO (xb (bB (aB 0)) (YCp (YG 0) (aD true) (xb (Y3 (aB 0) (YJ 2) (aB 1)) (YF false d "are_unlike")) [none,some 1])))) (YK gC) δ' p.2))) (ends h):=by kernel_rfl
def pX (d:Nat) (w0 w1:W) (h:aA):aE T (d+1) "are_triples" [w0,w1] h =
 YP (YP (YP (xb (YNt (xb (xb (aB 0) (YIs "tuple")) YD)) (YOb (xC1 CmpOp.Gt (YK1 bJ (aB 0)) (YJ 4000))) [some w0,some w1] h) (YT2 false [some w0,some w1])) (YQ fun δ' p=>YP (YP (xb (xb (YK1 gC (aO (xb (bB (aB 0)) (YCp (YG 0) (aD true) (xb (Y3 (aB 0) (YJ 3) (YK1 bJ (aB 1))) (YF false d "are_unlike")) [none,some 1])))) YD) YNb δ' p.2) (YT2 false δ')) (YQ fun δ' p=>YRt (xb (Y1 (aO (xb (bB (aB 0)) (YCp (aR [YG 0,YG 1,YG 2]) (aD true) (xb (bH (xC1 CmpOp.Eq (xb (xb (aB 3) (YXx (aB 0))) (YI 2)) (YS "must"))) (YAn (bH (xC1 CmpOp.Eq (xb (xb (aB 3) (YXx (aB 1))) (YI 2)) (YS "must"))))) [none,none,none,some 1])))) (YK gC) δ' p.2)))) (ends h):=by kernel_rfl
def sD (d:Nat) (w0:W) (h:aA):aE T (d+1) "is_problem" [w0] h =
 YP (YP (YP (xb (YNt (xb (YF2 false d "is_tuple_of" (aB 0) (YJ 4)) YD)) (YOb (xb (YNt (xb (YF1 false d "is_stand" (YV 0 0)) YD)) (YOb (YNt (xb (YF1 false d "are_items" (YV 0 1)) YD))))) [some w0] h) (YT2 false [some w0])) (YQ fun δ' p=>YRt (xb (YF2 false d "are_pairs" (YV 0 2) (YK1 bJ (YV 0 1))) (YAn (YF2 false d "are_triples" (YV 0 3) (YV 0 1))) δ' p.2))) (ends h):=by kernel_rfl
def pA (d:Nat) (w0 w1:W) (h:aA):callW T (d+1) "problems_of" [w0,w1] h =
 YP (YRt (cA (xb (bB (YF2 false d "frames_of" (aB 0) (aB 1))) (YCp (aR [YG 0,YG 1,YG 2]) (aD true) (YTp (Y2 (aB 0) (aB 1))) [none,none,none])) [some w0,some w1] h)) jE:=by kernel_rfl
def uX (d:Nat) (w0 w1:W) (h:aA):callW T (d+1) "deeds_of" [w0,w1] h =
 YP (YRt (cA (xb (bB (YF2 false d "frames_of" (aB 0) (aB 1))) (YCp (aR [YG 0,YG 1,YG 2]) (aD true) (aB 2) [none,none,none])) [some w0,some w1] h)) jE:=by kernel_rfl
def iB (d:Nat) (w0 w1:W) (h:aA):aE T (d+1) "_law_cell_at" [w0,w1] h =
 YP (YP (YP (xC1 CmpOp.Lt (aB 1) (YK1 bJ (aB 0)) [some w0,some w1] h) (YIr [some w0,some w1] (xb (aB 0) (YXx (aB 1))))) (YQ fun δ' p=>YRt (YJ 0 δ' p.2))) (ends h):=by kernel_rfl
def gU (d:Nat) (w0 w1:W) (h:aA):aE T (d+1) "_law_drawn" [w0,w1] h =
 YP (YP (aQ 2 (xb (aB 0) (YOx .RShift (xb (YJ 1) (YOx .Add (xb (YJ 24) (YOx .Mult (xb (aB 1) (YB .Mod 120)))))))) [some w0,some w1,none,none] h) (YQ fun δ' p=>YP (YP (xb (xC1 CmpOp.Eq (xb (aB 0) (YB .Mod 2)) (YJ 1)) (YAb (xC1 CmpOp.Gt (aB 2) (YJ 0))) δ' p.2) (YIr δ' (xb (aB 2) (YOx .Mod (xb (YJ 2) (YB .Pow 24)))))) (YQ fun δ' p=>YP (aQ 3 (xb (xb (xb (xb (xb (xb (aB 0) (YB .FloorDiv 2)) (YB .Mod 2147483647)) (YOx .Add (xb (YJ 7919) (YOx .Mult (aB 1))))) (YB .Add 1)) (YB .Mult 48271)) (YB .Mod 2147483647)) δ' p.2) (YQ fun δ' p=>YP (aQ 3 (xb (xb (aB 3) (YOx .Mult (xb (xb (aB 3) (YB .FloorDiv 1009)) (YB .Add 69621)))) (YB .Mod 2147483647)) δ' p.2) (YQ fun δ' p=>YRt (xb (xb (aB 3) (YOx .Mult (xb (xb (aB 3) (YB .FloorDiv 2003)) (YB .Add 40692)))) (YB .Mod 2147483399) δ' p.2)))))) (ends h):=by kernel_rfl
def cJ (d:Nat) (w0:W) (h:aA):aE T (d+1) "_law_plain_call" [w0] h =
 YP (YP (aQ 1 (xb (aO (xPl (Y5 (YJ 0) (YJ 0) (YJ 1) (YJ 2) (YJ 7)))) (YXx (xb (xb (aB 0) (YB .FloorDiv 8)) (YB .Mod 5)))) [some w0,none,none,none] h) (YQ fun δ' p=>YP (aQ 2 (xb (aO (xPl (Y5 (YJ 0) (YJ 1) (YJ 2) (xb (YJ 1) YNg) (xb (YJ 10) (YB .Pow 30))))) (YXx (xb (xb (aB 0) (YB .FloorDiv 40)) (YB .Mod 5)))) δ' p.2) (YQ fun δ' p=>YP (aQ 3 (xb (aB 0) (YB .Mod 8)) δ' p.2) (YQ fun δ' p=>YP (YP (xC1 CmpOp.Lt (aB 3) (YJ 3) δ' p.2) (YIr δ' (YTp (Y2 (YS "read") (aB 1))))) (YQ fun δ' p=>YP (YP (xC1 CmpOp.Lt (aB 3) (YJ 5) δ' p.2) (YIr δ' (YTp (Y3 (YS "write") (aB 1) (aB 2))))) (YQ fun δ' p=>YP (YP (xC1 CmpOp.Eq (aB 3) (YJ 5) δ' p.2) (YIr δ' (YTp (Y3 (YS "add") (aB 1) (aB 2))))) (YQ fun δ' p=>YRt (xb (xPl (Y4 (YS "swap") (aB 1) (xb (aO (xPl (Y3 (YJ 0) (YJ 1) (YJ 2)))) (YXx (xb (xb (aB 0) (YB .FloorDiv 200)) (YB .Mod 3)))) (aB 2))) YT δ' p.2)))))))) (ends h):=by kernel_rfl
def iD (d:Nat) (w0 w1:W) (h:aA):aE T (d+1) "_law_call" [w0,w1] h =
 YP (YP (aQ 2 (YF2 false d "_law_drawn" (aB 0) (aB 1)) [some w0,some w1,none,none,none] h) (YQ fun δ' p=>YP (YP (xC1 CmpOp.Eq (xb (aB 2) (YB .Mod 7)) (YJ 0) δ' p.2) (YIf δ' fun p=>YP (aQ 3 (xb (xb (aB 2) (YB .FloorDiv 7)) (YB .Mod 3)) δ' p.2) (YQ fun δ' p=>YRt (xb (xPl (Y3 (YS "span") (aB 3) (xb (xb (aB 3) (YB .Add 1)) (YOx .Add (xb (xb (aB 2) (YB .FloorDiv 21)) (YOx .Mod (xb (YJ 8) (YOx .Sub (aB 3))))))))) YT δ' p.2)))) (YQ fun δ' p=>YP (YP (xC1 CmpOp.Eq (xb (aB 2) (YB .Mod 7)) (YJ 1) δ' p.2) (YIf δ' fun p=>YP (aQ 4 (aO (xb (xb (xb (YJ 1) (YOx .Add (xb (xb (aB 2) (YB .FloorDiv 7)) (YB .Mod 4)))) YR) (YCp (YG 0) (aD true) (YF1 false d "_law_plain_call" (YF2 false d "_law_drawn" (aB 1) (xb (xb (aB 2) (YB .Add 30)) (YOx .Add (aB 0))))) [none,some 0,some 1]))) δ' p.2) (YQ fun δ' p=>YRt (xb (xPl (Y2 (YS "deal") (YK1 bM (aB 4)))) YT δ' p.2)))) (YQ fun δ' p=>YRt (xb (Y1 (xb (aB 2) (YB .FloorDiv 7))) (YF false d "_law_plain_call") δ' p.2))))) (ends h):=by kernel_rfl
def bI (d:Nat) (w0 w1:W) (h:aA):aE T (d+1) "_law_done_plainly" [w0,w1] h =
 YP (YP (aQ 2 (xb (aB 0) (YXx (YV 1 1))) [some w0,some w1,none] h) (YQ fun δ' p=>YP (YP (xC1 CmpOp.Eq (YV 1 0) (YS "read") δ' p.2) (YIr δ' (YTp (Y2 (YS "got") (aB 2))))) (YQ fun δ' p=>YP (YP (xC1 CmpOp.Eq (YV 1 0) (YS "write") δ' p.2) (YIf δ' fun p=>YP (YP (xb (aB 1) (YI 2) δ' p.2) (YPt (aB 0) (xb (aB 1) (YI 1)) δ')) (YQ fun δ' p=>YRt (xb (xPl (Y1 (YS "done"))) YT δ' p.2)))) (YQ fun δ' p=>YP (YP (xC1 CmpOp.Eq (YV 1 0) (YS "add") δ' p.2) (YIf δ' fun p=>YP (YP (xb (aB 2) (YOx .Add (YV 1 2)) δ' p.2) (YPt (aB 0) (xb (aB 1) (YI 1)) δ')) (YQ fun δ' p=>YRt (xb (xPl (Y2 (YS "got") (xb (aB 2) (YOx .Add (YV 1 2))))) YT δ' p.2)))) (YQ fun δ' p=>YP (YP (xC1 CmpOp.Eq (aB 2) (YV 1 2) δ' p.2) (YIf δ' fun p=>YP (YP (xb (aB 1) (YI 3) δ' p.2) (YPt (aB 0) (xb (aB 1) (YI 1)) δ')) (YQ fun δ' p=>YRt (xb (xPl (Y1 (YS "yes"))) YT δ' p.2)))) (YQ fun δ' p=>YRt (xb (xPl (Y1 (YS "no"))) YT δ' p.2))))))) (ends h):=by kernel_rfl
def iE (d:Nat) (w0 w1:W) (h:aA):aE T (d+1) "_law_done" [w0,w1] h =
 YP (YP (YP (xC1 CmpOp.Eq (YV 1 0) (YS "span") [some w0,some w1] h) (YIr [some w0,some w1] (YTp (Y2 (YS "all") (YK1 bM (xb (aB 0) (YSl (xb (YV 1 1) YU) (xb (YV 1 2) YU)))))))) (YQ fun δ' p=>YP (YP (xC1 CmpOp.Eq (YV 1 0) (YS "deal") δ' p.2) (YIr δ' (YTp (Y2 (YS "each") (YK1 bM (aO (xb (bB (YV 1 1)) (YCp (YG 0) (aD true) (YF2 false d "_law_done_plainly" (aB 1) (aB 0)) [none,some 0])))))))) (YQ fun δ' p=>YRt (xb (Y2 (aB 0) (aB 1)) (YF false d "_law_done_plainly") δ' p.2)))) (ends h):=by kernel_rfl
def cU (d:Nat) (w0 w1:W) (h:aA):aE T (d+1) "_law_bent" [w0,w1] h =
 YP (YP (YP (xC1 CmpOp.Eq (YV 0 0) (YS "got") [some w0,some w1,none] h) (YIr [some w0,some w1,none] (YTp (Y2 (YS "got") (xb (xb (YV 0 1) (YB .Add 1)) (YOx .Sub (xb (aB 1) (YB .Mod 3)))))))) (YQ fun δ' p=>YP (YP (xC1 CmpOp.In (YV 0 0) (aO (xPl (Y2 (YS "yes") (YS "no")))) δ' p.2) (YIr δ' (YTp (Y1 (xb (aO (xPl (Y2 (YS "yes") (YS "no")))) (YXx (xb (aB 1) (YB .Mod 2)))))))) (YQ fun δ' p=>YP (YP (xC1 CmpOp.Eq (YV 0 0) (YS "all") δ' p.2) (YIf δ' fun p=>YP (aQ 2 (xb (xb (aB 1) (YB .FloorDiv 3)) (YOx .Mod (YK1 bJ (YV 0 1)))) δ' p.2) (YQ fun δ' p=>YRt (xb (xPl (Y2 (YS "all") (xb (xb (xb (YV 0 1) (YSl (aD none) (xb (aB 2) YU))) (YOx .Add (YTp (Y1 (xb (xb (xb (YV 0 1) (YXx (aB 2))) (YB .Add 1)) (YOx .Sub (xb (aB 1) (YB .Mod 3)))))))) (YOx .Add (xb (YV 0 1) (YSl (xb (xb (aB 2) (YB .Add 1)) YU) (aD none))))))) YT δ' p.2)))) (YQ fun δ' p=>YP (YP (xC1 CmpOp.Eq (YV 0 0) (YS "each") δ' p.2) (YIf δ' fun p=>YP (aQ 2 (xb (xb (aB 1) (YB .FloorDiv 3)) (YOx .Mod (YK1 bJ (YV 0 1)))) δ' p.2) (YQ fun δ' p=>YRt (xb (xPl (Y2 (YS "each") (xb (xb (xb (YV 0 1) (YSl (aD none) (xb (aB 2) YU))) (YOx .Add (YTp (Y1 (YF2 false d "_law_bent" (xb (YV 0 1) (YXx (aB 2))) (xb (aB 1) (YB .FloorDiv 12))))))) (YOx .Add (xb (YV 0 1) (YSl (xb (xb (aB 2) (YB .Add 1)) YU) (aD none))))))) YT δ' p.2)))) (YQ fun δ' p=>YRt (aB 0 δ' p.2)))))) (ends h):=by kernel_rfl
@[simp] def bY (d:Nat) (x:DSt) (x_1:aA):Option (Fl×aA) :=
 YP (YP (xC1 CmpOp.IsNot (xb (aB 6) (YXx (aB 5))) YZ x x_1) (YIf x fun p=>YP (YP (xb (aB 7) (YA (Y1 (YTp (Y5 (aB 5) (xb (xb (aB 6) (YXx (aB 5))) (YI 0)) YZ (xb (xb (aB 6) (YXx (aB 5))) (YI 1)) YZ)))) x p.2) (YNx x)) YE)) YE
@[simp] def bZ (d:Nat) (x:DSt) (x_1:aA):Option (Fl×aA) :=
 YP (aQ 5 (xb (YF2 false d "_law_drawn" (xb (aB 0) (YXx (aB 8))) (YJ 0)) (YOx .Mod (aB 3))) x x_1) (YQ fun δ' p=>YP (aQ 9 (xb (YK1 bJ (aB 7)) (YOx .Add (YK1 bJ (xb (aB 6) fun (w:W) (δ:DSt) (h:aA)=>match w with|W.c j=>YP (wsC j h) fun (ws:List W)=>YP (fJ (YG 0) (xC1 CmpOp.IsNot (aB 0) YZ) (aB 0) (coW j ws) ws (bW [none] δ) h []) fun (q:List W×aA)=>some (W.c (List.length q.2),q.2++[Cell.r q.1])|x=>none)))) δ' p.2) (YQ fun δ' p=>YP (YP (xb (xC1 CmpOp.IsNot (xb (aB 6) (YXx (aB 5))) YZ) (YOb (xC1 CmpOp.Lt (aB 9) (aB 2))) δ' p.2) (YIf δ' fun p=>YP (aQ 10 (xb (Y5 (aB 6) (aB 5) (aB 4) (xb (aB 0) (YXx (aB 8))) (aB 8)) (YWf d "_law_moved")) δ' p.2) (YQ fun δ' p=>YP (YP (xC1 CmpOp.IsNot (aB 10) YZ δ' p.2) (YIf δ' fun p=>YP (YP (xb (aB 7) (YA (Y1 (aB 10))) δ' p.2) (YNx δ')) YE)) YE))) YE))
def pB (d:Nat) (w0 w1 w2 w3:W) (h:aA):aE T (d+1) "_law_history" [w0,w1,w2,w3] h =
 YP (YP (aQ 4 (cA (xPl (xb (YJ 0) fun w=>xb (Y7 (YJ 0) (YJ 0) (YJ 0) (YJ 0) (YJ 0) (YJ 0) (YJ 0)) (YC w)))) [some w0,some w1,some w2,some w3,none,none,none,none,none,none,none,none] h) (YQ fun δ' p=>YP (aQ 6 (cA (xb (xb (aB 3) YR) (YCp (YG 0) (aD true) YZ [none]))) δ' p.2) (YQ fun δ' p=>YP (aQ 7 (cA (xPl (aD []))) δ' p.2) (YQ fun δ' p=>YP (YP (xb (aB 1) (fun (u:W)=>xb (xb (Y2 (YK1 bJ (aB 0)) (YJ 63)) (YKa xMn)) fun (w:W) (x:DSt) (h:aA)=>match u,w with|W.d (PyData.int i),W.d (PyData.int j)=>if eV i j=true then some ((rng i (Int.toNat (j-i)),none),h) else none|x,x_1=>none) δ' p.2) (YFr (YG 8) (bZ d) δ')) (YQ fun δ' p=>YP (YP (xb (aB 3) YR δ' p.2) (YFr (YG 5) (bY d) δ')) (YQ fun δ' p=>YP (aQ 11 (aO (xb (Y1 (aO (xb (xb (YK1 bJ (aB 7)) YR) (YCp (YG 0) (aD true) (YTp (Y2 (YF2 false d "_law_drawn" (YF2 false d "_law_cell_at" (aB 1) (YJ 0)) (aB 0)) (aB 0))) [none,some 0])))) (YKa nN))) δ' p.2) (YQ fun δ' p=>YRt (xb (Y1 (aO (xb (bB (aB 11)) (YCp (aR [YG 0,YG 1]) (aD true) (xb (aB 2) (YXx (aB 1))) [none,none,some 7])))) (YK bM) δ' p.2)))))))) (ends h):=by kernel_rfl
def pY (d:Nat) (w0 w1 w2 w3 w4:W) (h:aA):callW T (d+1) "_law_moved" [w0,w1,w2,w3,w4] h =
 YP (YP (aQ 5 (xb (aB 0) (YXx (aB 1))) [some w0,some w1,some w2,some w3,some w4,none,none,none] h) (YQ fun δ' p=>YP (aQ 6 (YF2 false d "_law_drawn" (aB 3) (aB 4)) δ' p.2) (YQ fun δ' p=>YP (YP (xC1 CmpOp.Is (aB 5) YZ δ' p.2) (YIf δ' fun p=>YP (YP (cA (xPl (Y3 (aB 4) (YF2 false d "_law_call" (aB 3) (xb (aB 4) (YB .Add 1))) YZ)) δ' p.2) (YPt (aB 0) (aB 1) δ')) (YQ fun δ' p=>YRt (YZ δ' p.2)))) (YQ fun δ' p=>YP (YP (xb (xC1 CmpOp.Is (YV 5 2) YZ) (YAb (xC1 CmpOp.Gt (xb (aB 6) (YB .Mod 9)) (YJ 0))) δ' p.2) (YIf δ' fun p=>YP (YP (xb (Y2 (aB 2) (YV 5 1)) (YF false d "_law_done") δ' p.2) (YPt (aB 5) (YJ 2) δ')) (YQ fun δ' p=>YRt (YZ δ' p.2)))) (YQ fun δ' p=>YP (YP (YZ δ' p.2) (YPt (aB 0) (aB 1) δ')) (YQ fun δ' p=>YP (aQ 7 (YV 5 2) δ' p.2) (YQ fun δ' p=>YP (YP (xC1 CmpOp.Is (aB 7) YZ δ' p.2) fun p=>if p.1=true then YP (aQ 7 (YTp (Y1 (YS "refused"))) δ' p.2) YE else YP (YP (xC1 CmpOp.Eq (xb (aB 6) (YB .Mod 11)) (YJ 0) δ' p.2) (YIf δ' fun p=>YP (aQ 7 (YF2 false d "_law_bent" (aB 7) (xb (aB 6) (YB .FloorDiv 11))) δ' p.2) YE)) YE) (YQ fun δ' p=>YRt (xb (xPl (Y5 (aB 1) (YV 5 0) (aB 4) (YV 5 1) (aB 7))) YT δ' p.2))))))))) jE:=by kernel_rfl
@[simp] def eK (d:Nat) (x:DSt) (x_1:aA):Option (Fl×aA) :=
 YP (YP (xb (YK1 bJ (aB 3)) YR x x_1) (YFr (YG 7) (fun (x:DSt) (x_2:aA)=>YP (aQ 8 (xb (aB 0) (YXx (xb (aB 3) (YXx (aB 6))))) x x_2) (YQ fun δ' p=>YP (aQ 9 (xb (aB 0) (YXx (xb (aB 3) (YXx (aB 7))))) δ' p.2) (YQ fun δ' p=>YP (aQ 10 (xb (bH (xC1 CmpOp.IsNot (YV 8 2) YZ)) (YAn (bH (xC1 CmpOp.Lt (YV 8 2) (YV 9 1))))) δ' p.2) (YQ fun δ' p=>YP (aQ 11 (xb (bH (xC1 CmpOp.Eq (YV 8 0) (YV 9 0))) (YAn (bH (xC1 CmpOp.Lt (YV 8 1) (YV 9 1))))) δ' p.2) (YQ fun δ' p=>YP (YP (xb (xb (xC1 CmpOp.Eq (aB 1) (YS "real")) (YAb (xb (aB 10) YD))) (YOb (xb (xC1 CmpOp.Eq (aB 1) (YS "row")) (YAb (xb (aB 11) YD)))) δ' p.2) (YIf δ' fun p=>YP (YP (xb (aB 5) (YA (Y1 (YTp (Y2 (aB 6) (aB 7))))) δ' p.2) (YNx δ')) YE)) YE))))) x)) YE
@[simp] def eM (d:Nat) (x:DSt) (x_1:aA):Option (Fl×aA) :=
 YP (YP (xb (aB 4) (YA (Y1 (YTp (Y3 (xb (xb (aB 0) (YXx (aB 2))) (YI 3)) (xb (xb (aB 0) (YXx (aB 2))) (YI 4)) (xb (aO (xPl (Y2 (YS "must") (YS "may")))) (YXx (xb (Y1 (bH (xC1 CmpOp.Is (xb (xb (aB 0) (YXx (aB 2))) (YI 2)) YZ))) (YKa wD)))))))) x x_1) (YNx x)) YE
def xB (d:Nat) (w0 w1:W) (h:aA):aE T (d+1) "_law_due" [w0,w1] h =
 YP (YP (aQ 3 (aO (xb (xb (YK1 bJ (aB 0)) YR) (YCp (YG 0) (xC1 CmpOp.NotEq (xb (xb (aB 1) (YXx (aB 0))) (YI 4)) (YTp (Y1 (YS "refused")))) (aB 0) [none,some 0]))) [some w0,some w1,none,none,none,none,none,none,none,none,none,none] h) (YQ fun δ' p=>YP (aQ 3 (aO (xb (bB (aO (xb (Y1 (aO (xb (bB (aB 3)) (YCp (YG 0) (aD true) (YTp (Y2 (xb (xb (aB 1) (YXx (aB 0))) (YI 1)) (aB 0))) [none,some 0])))) (YKa nN)))) (YCp (aR [YG 0,YG 1]) (aD true) (aB 1) [none,none]))) δ' p.2) (YQ fun δ' p=>YP (aQ 4 (cA (xPl (aD []))) δ' p.2) (YQ fun δ' p=>YP (YP (bB (aB 3) δ' p.2) (YFr (YG 2) (eM d) δ')) (YQ fun δ' p=>YP (aQ 5 (cA (xPl (aD []))) δ' p.2) (YQ fun δ' p=>YP (YP (xb (YK1 bJ (aB 3)) YR δ' p.2) (YFr (YG 6) (eK d) δ')) (YQ fun δ' p=>YRt (xb (xPl (Y2 (YTp (Y4 (YTp (xb (YJ 0) fun w=>xb (Y7 (YJ 0) (YJ 0) (YJ 0) (YJ 0) (YJ 0) (YJ 0) (YJ 0)) (YC w))) (YK1 bM (aB 4)) (YK1 bM (aB 5)) (YTp (aD [])))) (YK1 bM (aB 3)))) YT δ' p.2)))))))) (ends h):=by kernel_rfl
@[simp] def dO (d:Nat) (x:DSt) (x_1:aA):Option (Fl×aA) :=
 YP (YP (xC1 CmpOp.Lt (xb (aB 0) (YXx (xb (xb (aB 2) (YOx .Add (aB 4))) (YOx .Mod (aB 1))))) (aB 3) x x_1) (YIr x (xb (xb (aB 2) (YOx .Add (aB 4))) (YOx .Mod (aB 1))))) YE
def mF (d:Nat) (w0 w1 w2 w3:W) (h:aA):aE T (d+1) "_law_free" [w0,w1,w2,w3] h =
 YP (YP (YP (xb (aB 1) YR [some w0,some w1,some w2,some w3,none] h) (YFr (YG 4) (dO d) [some w0,some w1,some w2,some w3,none])) (YQ fun δ' p=>YRt (YZ δ' p.2))) (ends h):=by kernel_rfl
@[simp] def cK (d:Nat) (x:DSt) (x_1:aA):Option (Fl×aA) :=
 YP (aQ 7 (YF2 false d "_law_drawn" (xb (aB 0) (YXx (aB 6))) (YJ 20)) x x_1) (YQ fun δ' p=>YP (aQ 8 (xb (Y4 (aB 4) (aB 2) (xb (aB 7) (YOx .Mod (aB 2))) (xb (YJ 10) (YOx .Mult (aB 6)))) (YF false d "_law_free")) δ' p.2) (YQ fun δ' p=>YP (YP (xC1 CmpOp.IsNot (aB 8) YZ δ' p.2) (YIf δ' fun p=>YP (aQ 9 (YF2 false d "_law_call" (xb (aB 0) (YXx (aB 6))) (YJ 0)) δ' p.2) (YQ fun δ' p=>YP (aQ 10 (YF2 false d "_law_done" (aB 3) (aB 9)) δ' p.2) (YQ fun δ' p=>YP (aQ 11 (xb (xb (aB 7) (YB .FloorDiv 8)) (YB .Mod 3)) δ' p.2) (YQ fun δ' p=>YP (aQ 12 (xb (xb (xb (YJ 10) (YOx .Mult (xb (aB 6) (YOx .Add (aB 11))))) (YB .Add 1)) (YOx .Add (aB 11))) δ' p.2) (YQ fun δ' p=>YP (YP (aB 12 δ' p.2) (YPt (aB 4) (aB 8) δ')) (YQ fun δ' p=>YP (YP (xC1 CmpOp.Eq (xb (xb (aB 7) (YB .FloorDiv 32)) (YB .Mod 9)) (YJ 0) δ' p.2) fun p=>if p.1=true then YP (aQ 10 (YTp (Y1 (YS "refused"))) δ' p.2) YE else YP (YP (xC1 CmpOp.Eq (xb (xb (aB 7) (YB .FloorDiv 32)) (YB .Mod 9)) (YJ 1) δ' p.2) fun p=>if p.1=true then YP (aQ 10 (YF2 false d "_law_bent" (aB 10) (xb (aB 7) (YB .FloorDiv 512))) δ' p.2) YE else YP (YP (xC1 CmpOp.Eq (xb (xb (aB 7) (YB .FloorDiv 32)) (YB .Mod 27)) (YJ 2) δ' p.2) (YIf δ' fun p=>YP (aQ 10 YZ δ' p.2) (YQ fun δ' p=>YP (aQ 12 YZ δ' p.2) (YQ fun δ' p=>YP (YP (xb (YJ 10) (YB .Pow 6) δ' p.2) (YPt (aB 4) (aB 8) δ')) YE)))) YE) YE) (YQ fun δ' p=>YP (YP (xb (aB 5) (YA (Y1 (YTp (Y5 (aB 8) (xb (YJ 10) (YOx .Mult (aB 6))) (aB 12) (aB 9) (aB 10))))) δ' p.2) (YNx δ')) YE)))))))) YE))
def sE (d:Nat) (w0 w1 w2:W) (h:aA):aE T (d+1) "_law_dense" [w0,w1,w2] h =
 YP
 (YP (aQ 3 (cA (xPl (xb (YJ 0) fun w=>xb (Y7 (YJ 0) (YJ 0) (YJ 0) (YJ 0) (YJ 0) (YJ 0) (YJ 0)) (YC w)))) [some w0,some w1,some w2,none,none,none,none,none,none,none,none,none,none,none] h) (YQ fun δ' p =>
 YP
 (aQ 4
 (cA
 (xb
 (cA
 (xPl
 (Y1 (xb (YJ 1) YNg))))
 fun (u:W) =>
 xb (aB 2) fun (w:W) (x:DSt) (h:aA) =>
 match u,w with
        | W.c i,W.d (PyData.int k) =>
         match h[i]? with
         | some (Cell.l xs)=>if -2^63<=k/\k < 2^63/\List.length xs*Int.toNat k<=sizeLine then some (List.flatten (List.replicate (Int.toNat k) xs),h) else none
         | x=>none
        | x,x_1=>none))
 δ' p.2)
 (YQ fun δ' p =>
 YP (aQ 5 (cA (xPl (aD []))) δ' p.2) (YQ fun δ' p =>
 YP
 (YP
 (xb (YJ 2)
 (fun (u:W) =>
 xb (xb (Y2 (xb (Y1 (aB 0)) (YK bJ)) (xb (YJ 2) fun u=>xb (aB 1) (YO .Add u))) fun (ws:List W) (x:DSt) (h:aA)=>xMn ws h) fun (w:W) (x:DSt) (h:aA) =>
 match u,w with
            | W.d (PyData.int i),W.d (PyData.int j)=>if eV i j=true then some ((rng i (Int.toNat (j - i)),none),h) else none
            | x,x_1=>none)
 δ' p.2)
 fun (p:(List PyData×Cw)×aA) =>
 bQ (YG 6)
 (cK d)
 (Prod.snd p.1) (Prod.fst p.1) (Prod.fst p.1) δ' p.2)
 (YQ fun δ' p =>
 YP
 (aQ 13
 (aO
 (xb
 (Y1 (aO
 (xb
 (xb (xb (Y1 (aB 5)) (YK bJ)) YR)
 fun (p:List PyData×Cw) (δ:DSt) (h:aA)=>aV (YG 0) (aD true) (xb (xPl (Y2 (xb (Y2 (xb (Y2 (aB 1) (YJ 0)) (YF false d "_law_cell_at")) (aB 0)) (YF false d "_law_drawn")) (aB 0))) YT) p.2 p.1 p.1 (bW [none,some 0] δ) h [])))
 fun (ws:List W) (x:DSt) (h:aA)=>nN ws h))
 δ' p.2)
 (YQ fun δ' p =>
 YP (YP (xb (Y1 (aO (xb (bB (aB 13)) fun (p:List PyData×Cw) (δ:DSt) (h:aA)=>aV (aR [YG 0,YG 1]) (aD true) (xb (aB 2) fun x=>xb (aB 1) (YX x)) p.2 p.1 p.1 (bW [none,none,some 5] δ) h []))) (YK bM) δ' p.2) YW) YE))))))
 (ends h):=by kernel_rfl
@[simp] def hU (d:Nat) (x:DSt) (x_1:aA):Option (Fl×aA) :=
 YP (YP (xC1 CmpOp.IsNot (aB 6) YZ x x_1) (YIf x fun p=>YP (aQ 6 (xb (aB 6) (YOx .Mult (aB 2))) x p.2) YE)) (YQ fun δ' p=>YP (YP (xb (aB 3) (YA (Y1 (YTp (Y5 (aB 4) (xb (aB 5) (YOx .Mult (aB 2))) (aB 6) (aB 7) (aB 8))))) δ' p.2) (YNx δ')) YE)
def xC (d:Nat) (w0 w1:W) (h:aA):aE T (d+1) "_law_far" [w0,w1] h =
 YP (YP (aQ 2 (xb (aO (xPl (Y2 (YJ 1) (xb (YJ 10) (YB .Pow 36))))) (YXx (xb (aB 1) (YB .Mod 2)))) [some w0,some w1,none,none,none,none,none,none,none] h) (YQ fun δ' p=>YP (aQ 3 (cA (xPl (aD []))) δ' p.2) (YQ fun δ' p=>YP (YP (bB (aB 0) δ' p.2) (YFr (aR [YG 4,YG 5,YG 6,YG 7,YG 8]) (hU d) δ')) (YQ fun δ' p=>YRt (xb (Y1 (aB 3)) (YK bM) δ' p.2))))) (ends h):=by kernel_rfl
end K45

namespace K45
open PySem PySem.Spec PyProof.Rows L2 DL CI SJ
abbrev Ow {α β:Type} (_:α->Option β):=Option α
noncomputable def bd {α β:Type} (f:α->Option β) (x:Ow f):Option β:=Option.bind x f
@[simp ↓ high] theorem bdi {α β:Type} (x:Option α) (f:α->Option β):x.bind f=bd f x:=rfl
@[simp high] theorem bds {α β:Type} (a:α) (f:α->Option β):bd f (some a)=f a:=id rfl
@[simp ↓ high] theorem bdy {α β:Type} (x:Option α) (f:α->Option β):YP x f=bd f x:=rfl
@[simp ↓ high] theorem ynx (k:DSt->Fl×aA->Option (Fl×aA)) (δ:DSt) (h:aA):YQ k (.nx δ,h)=k δ (.nx δ,h):=id rfl
@[simp ↓ high] theorem yrt (k:DSt->Fl×aA->Option (Fl×aA)) (w:W) (h:aA):YQ k (.rt w,h)=some (.rt w,h):=id rfl
@[simp ↓ high] theorem yE (f:Fl) (h:aA):YE (f,h)=some (f,h):=by cases f<;>rfl
@[simp ↓ high] theorem xba {α β:Type} (x:XR α) (f:α->XR β) (δ:DSt) (h:aA):xb x f δ h=bd (fun p=>f p.1 δ p.2) (x δ h):=rfl
@[simp ↓ high] theorem xsa (i:Nat) (x:XR W) (δ:DSt) (h:aA):aQ i x δ h=bd (fun p=>some (.nx (δ.set i (some p.1)),p.2)) (x δ h):=rfl
mutual
noncomputable def nD:PyData->Bool
 | .none=>true
 | .bool _=>true
 | .int _=>true
 | .str _=>true
 | .list xs=>nDs xs
 | .tuple xs=>nDs xs
 | .dict _=>false
noncomputable def nDs:List PyData->Bool
 | []=>true
 | x::xs=>nD x&&nDs xs
end
theorem sG:∀ (xs:List PyData),nDs xs=xs.all nD
 | []=>rfl
 | x::xs=>by rw [nDs,sG xs];rfl
@[simp] theorem nDn:nD .none=true:=rfl
@[simp] theorem nDb (b:Bool):nD (.bool b)=true:=rfl
@[simp] theorem nDi (i:Int):nD (.int i)=true:=rfl
@[simp] theorem nDx (x:Str):nD (.str x)=true:=rfl
@[simp] theorem nDl (xs:List PyData):nD (.list xs)=xs.all nD:=sG xs
@[simp] theorem nDt (xs:List PyData):nD (.tuple xs)=xs.all nD:=sG xs
@[simp] theorem nDd (kvs:List (PyData×PyData)):nD (.dict kvs)=false:=rfl
def nD.nd {x:PyData} (h:nD x=true):noD x=true:=by cases x<;>first | rfl | cases h
@[simp] theorem cV4:noD .none=true:=rfl
@[simp] theorem cV5 (b:Bool):noD (.bool b)=true:=rfl
@[simp] theorem cV6 (i:Int):noD (.int i)=true:=rfl
@[simp] theorem cV7 (x:Str):noD (.str x)=true:=rfl
@[simp] theorem cV8 (xs:List PyData):noD (.list xs)=true:=rfl
@[simp] theorem cV9 (xs:List PyData):noD (.tuple xs)=true:=rfl
variable (d:Nat) (h:aA)
end K45

namespace K45
open PySem PySem.Spec PyProof.Rows L2 DL CI SJ
variable {bm:Bool}
variable (d:Nat) (x:PyData) (h:aA)
@[simp] theorem fO (hx:nD x=true):aE (TT bm) (d+1) "is_whole" [.d x] h=some (.bool (gR x),h):=by
 cases x<;>simp [wY,isi,fZ,gR]<;>cases hx
@[simp] theorem gV (lo hi:Int) (hx:nD x=true):aE (TT bm) (d+2) "is_between" [.d x,.d (.int lo),.d (.int hi)] h=some (.bool (eX x lo hi),h):=by
 have hn:=nD.nd hx;cases x<;>simp [rZ,fO,eX,gR,hx]<;>try (cases hx;done)
 split<;>simp_all;omega
@[simp] theorem bV (n:Int) (hx:nD x=true):aE (TT bm) (d+1) "is_tuple_of" [.d x,.d (.int n)] h=some (.bool (fW x n),h):=by
 cases x<;>simp [pS,isi,fZ,fW]<;>cases hx
@[simp] theorem dS (xs:List PyData) (hx:xs.all nD=true):aE (TT bm) (d+2) "are_whole" [.d (.tuple xs)] h=some (.bool (xs.all gR),h):=by
 simp [uP];rw [fF (fun x=>.bool (gR x)) 0 (fun _ _ _=>rfl)]
 ·simp [iJ]
 ·intro y hy u;simp [fO,List.all_eq_true.mp hx y hy]
@[simp] theorem pC (hx:nD x=true):aE (TT bm) (d+3) "is_key" [.d x] h=some (.bool (kE x),h):=by
 simp [aN2,gV,kE,hx]
def tp (a:PyData):(∃ ps,a=.tuple ps)\/((∀ n,fW a n=false)/\isi a "tuple"=false/\gA a=.none/\cF a=false/\gB a=false/\(∀ s,hZ (.tuple [.str s,a])=false/\qL (.tuple [.str s,a])=false)/\∀ s,(∀ lo hi,cB (.span lo hi) (.tuple [.str s,a])=false)/\∀ cs,cB (.deal cs) (.tuple [.str s,a])=false):=by
 cases a<;>first | exact .inl ⟨_,rfl⟩ | exact .inr ⟨fun _=>rfl,rfl,rfl,rfl,rfl,fun _=>⟨rfl,rfl⟩,fun _=>⟨fun _ _=>rfl,fun _=>rfl⟩⟩
@[simp] theorem qR (hx:nD x=true):aE (TT bm) (d+1) "word_of" [.d x] h=some (gA x,h):=by
 rcases tp x with ⟨xs,rfl⟩ | hn
 ·cases xs with
  | nil=>simp [iP,isi,fZ,gA]
  | cons y r =>
   cases hs:isi y "str"
   ·have:gA (.tuple (y::r))=.none:=by cases y<;>first | rfl | cases hs
    have hq:noD y=true:=nD.nd (by simp at hx;exact hx.1);simp [iP,show ∀ xs,isi (.tuple xs) "tuple"=true from fun _=>rfl,hs,this,hq]
   ·obtain ⟨s,rfl⟩:∃ s,y=.str s:=by cases y<;>first | exact ⟨_,rfl⟩ | cases hs
    simp [iP,isi,fZ,gA]
 ·simp [iP,hn,nD.nd hx]
end K45

namespace K45
open PySem PySem.Spec PyProof.Rows L2 DL CI SJ
variable {bm:Bool}
variable (d:Nat) (x:PyData) (h:aA)
@[simp] theorem iF (s:Str) (n:Int) (hx:nD x=true):aE (TT bm) (d+2) "is_worded" [.d x,.d (.str s),.d (.int n)] h=some (.bool (aS x s n),h):=by
 simp [uQ,qR,hx];cases x<;>simp [gA,aS];rename_i xs;cases xs with
 | nil=>simp [gA,aS]
 | cons y r=>cases y<;>simp [gA,aS];rename_i t;cases e:(t==s)<;>simp
def lk (s:Str):List.lookup s [(Str.ofString "read",PyData.int 0),(Str.ofString "write",.int 1),(Str.ofString "add",.int 1),(Str.ofString "swap",.int 2)]=(nb s).map .int:=by
 unfold nb;simp only [List.lookup]
 repeat' split
 all_goals simp_all
def cO7 (a b:PyData) (r:List PyData):cut (a::b::r) (some 2) none=r:=by
 have e1:HT.sIx (a::b::r).length 0 (some 2)=2:=by simp [HT.sIx]
 have e2:HT.sIx (a::b::r).length (a::b::r).length none=r.length+2:=by simp [HT.sIx]
 rw [cut,e1,e2];simp
def cO8 (a:PyData) (r:List PyData):cut (a::r) (some 1) none=r:=by
 have e1:HT.sIx (a::r).length 0 (some 1)=1:=by simp [HT.sIx]
 have e2:HT.sIx (a::r).length (a::r).length none=r.length+1:=by simp [HT.sIx]
 rw [cut,e1,e2];simp
@[simp] theorem mG (hx:nD x=true):aE (TT bm) (d+4) "is_single" [.d x] h=some (.bool (cF x),h):=by
 simp [uR,qR,pC,dS,lk,hx];rcases tp x with ⟨xs,rfl⟩ | hn
 rotate_left
 ·simp [hn]
 cases xs with
 | nil=>simp [gA,cF]
 | cons y r =>
  cases y<;>simp [gA,cF];rename_i t;cases e:nb t with
  | none=>simp
  | some n =>
   have hn:0<=n:=by
    unfold nb at e
    repeat' split at e
    all_goals simp at e
    all_goals omega
   by_cases hl:(r.length:Int)+1=2+n
   ·cases r with
    | nil=>simp at hl;omega
    | cons k vs =>
     have hk:nD k=true:=by simp at hx;exact hx.1
     have hv:vs.all nD=true:=by simp at hx ⊢;exact hx.2
     cases ek:kE k<;>simp_all [pC,cO7,dS,lk]
   ·simp [hl,e,lk]
def gX {x:PyData} {s:Str} (e:aS x s 2=true):∃ a,x=.tuple [.str s,a]:=by
 unfold aS at e;split at e
 ·rename_i t r;simp at e;obtain ⟨rfl,e⟩:=e
  match r,e with
  | [a],_=>exact ⟨a,rfl⟩
  | [],e=>simp at e
  | _::_::_,e=>simp at e;omega
 ·cases e
def aY5 {x:PyData} {s:Str} (e:aS x s 3=true):∃ a b,x=.tuple [.str s,a,b]:=by
 unfold aS at e;split at e
 ·rename_i t r;simp at e;obtain ⟨rfl,e⟩:=e
  match r,e with
  | [a,b],_=>exact ⟨a,b,rfl⟩
  | [],e=>simp at e
  | [_],e=>simp at e
  | _::_::_::_,e=>simp at e;omega
 ·cases e
def aY6 {x:PyData} (e:aS x "span" 3=false):gT x=false:=by
 unfold gT;split
 ·simp [aS] at e;simp [e]
 ·rfl
def aY7 {x:PyData} (e:aS x "deal" 2=false):hZ x=false:=by
 unfold hZ;split
 ·simp [aS] at e;simp [e]
 ·rfl
def aY8 {x:PyData} (e:aS x "look" 2=false):lB x=false:=by
 unfold lB;split
 ·simp [aS] at e;simp [e]
 ·rfl
def bP1 {x:PyData} (e:aS x "lay" 2=false):qL x=false:=by
 unfold qL;split
 ·simp [aS] at e;simp [e]
 ·rfl
@[simp] theorem aD1 (hx:nD x=true):aE (TT bm) (d+3) "is_span" [.d x] h=some (.bool (gT x),h):=by
 simp [aC6,iF,dS,hx];cases e:aS x (Str.ofString "span") 3
 ·simp [aY6 e]
 ·obtain ⟨a,b,rfl⟩:=aY5 e;have hab:nD a=true/\nD b=true:=by simpa using hx
  simp [cO8,dS,hab.1,hab.2];have wn:∀ {x},gR x=true->∃ i,x=.int i:=fun {x} h=>by cases x<;>first | exact ⟨_,rfl⟩ | cases h
  cases ha:gR a
  ·have:gT (.tuple [.str (Str.ofString "span"),a,b])=false:=by cases a<;>first | rfl | cases ha
   simp [this]
  obtain ⟨i,rfl⟩:=wn ha;cases hb:gR b
  ·have:gT (.tuple [.str (Str.ofString "span"),.int i,b])=false:=by cases b<;>first | rfl | cases hb
   simp [gR,this]
  obtain ⟨j,rfl⟩:=wn hb;simp [gR,gT]
  by_cases h1:0<=i<;>by_cases h2:i < j<;>simp [h1,h2]
@[simp] theorem aD2 (hx:nD x=true):aE (TT bm) (d+5) "is_deal" [.d x] h=some (.bool (hZ x),h):=by
 simp [aC7,iF,hx];cases e:aS x (Str.ofString "deal") 2
 ·simp [aY7 e]
 ·obtain ⟨a,rfl⟩:=gX e;have ha:nD a=true:=by simpa using hx
  rcases tp a with ⟨ps,rfl⟩ | hn
  rotate_left
  ·simp [hn,nD.nd ha]
  have hps:∀ y∈ps,nD y=true:=by simpa using ha
  simp [isi,fZ,hZ]
  by_cases h1:(1:Int)<=ps.length
  ·by_cases h2:(ps.length:Int)<=4
   ·simp [h1,h2];rw [fF (fun x=>.bool (cF x)) 0 (fun _ _ _=>rfl)]
    ·have h3:1<=ps.length:=by omega
     have h4:ps.length<=4:=by omega
     simp [iJ,h3,h4]
    ·intro y hy u;simp [mG,hps y hy]
   ·have h4:¬ ps.length<=4:=by omega
    simp [h1,h2,h4]
  ·have h4:¬ 1<=ps.length:=by omega
   simp [h1,h4]
@[simp] theorem qS (hx:nD x=true):aE (TT bm) (d+6) "is_call" [.d x] h=some (.bool (eJ x),h):=by
 simp [aC8,mG,aD1,aD2,eJ,hx];cases e1:cF x<;>cases e2:gT x<;>cases e3:hZ x<;>simp [e1,e2,e3,hx]
@[simp] theorem bT9 (hx:nD x=true):aE (TT bm) (d+7) "is_look" [.d x] h=some (.bool (lB x),h):=by
 simp [aC9,iF,hx];cases e:aS x (Str.ofString "look") 2
 ·simp [aY8 e]
 ·obtain ⟨a,rfl⟩:=gX e;have ha:nD a=true:=by simpa using hx
  simp [qS,lB,ha]
@[simp] theorem aF0 (hx:nD x=true):aE (TT bm) (d+4) "is_value_pair" [.d x] h=some (.bool (gB x),h):=by
 simp [mT,bV,hx];rcases tp x with ⟨xs,rfl⟩ | hn
 rotate_left
 ·simp [hn]
 simp [fW]
 match xs with
 | []=>simp [gB]
 | [a]=>simp [gB]
 | [a,b] =>
  have hab:nD a=true/\nD b=true:=by simpa using hx
  simp [pC,fO,gB,hab.1,hab.2];cases kE a<;>simp [fO,hab.2]
 | a::b::c::r =>
  have:¬ ((r.length:Int)+1+1+1=2):=by omega
  simp [gB,this]
def cO {n:Int} (h0:-5<=n) (h1:n<=100000):eV 0 n=true:=by
 unfold eV;simp;omega
def iQ {ns:List Int} {i:Nat} (hi:i < ns.length):atI (ns.map PyData.int) (i:Int)=some (.int (ns.getD i 0)):=by
 unfold atI;rw [ix_nat (by simpa using hi)];simp [List.getD,hi]
def aY9 (n:Nat):rng 0 n=(List.range n).map fun (i:Nat)=>PyData.int (i:Int):=by
 unfold rng;simp
def bP2 {w:W} {ns:List Int} (hl:ns.length<=1000) (l1:∀ h,bJ [w] h=some (.d (.int ns.length),h)) (ix:∀ (i:Int) h,xIx w (.d (.int i)) h=(atI (ns.map .int) i).map fun v=>(.d v,h)):aE T (d+1) "are_rising" [w] h=some (.bool (bY6 ns),h):=by
 simp [sB,l1];rw [if_pos (cO (by omega) (by omega))];simp only [bds];rw [fF (fun x=>.bool (decide (ns.getD (mR x).toNat 0 < ns.getD ((mR x).toNat+1) 0))) 0 (fun _ _ _=>rfl)]
 ·simp only [List.nil_append,bds,yE,all_map];rw [aY9,List.all_map,aX7];rfl
 ·intro y hy u;rw [aY9] at hy;obtain ⟨k,hk,rfl⟩:=List.mem_map.mp hy;have hk:=List.mem_range.mp hk;have e2:((k:Int)+1)=((k+1:Nat):Int):=rfl;simp [ix,iQ (show k < ns.length by omega),mR];rw [e2,iQ (by omega)];simp
noncomputable def qT:PyData->Bool
 | .tuple [_,.tuple ps]=>decide (ps.length<=1000)
 | _=>true
def aN5 (hs:qT x=true) (hx:nD x=true):aE T (d+5) "is_lay" [.d x] h=some (.bool (qL x),h):=by
 simp [aN3,hx];cases e:aS x (Str.ofString "lay") 2
 ·simp [bP1 e]
 ·obtain ⟨a,rfl⟩:=gX e;have ha:nD a=true:=by simpa using hx
  rcases tp a with ⟨ps,rfl⟩ | hn
  rotate_left
  ·simp [hn,nD.nd ha]
  have hps:∀ y∈ps,nD y=true:=by simpa using ha
  simp [isi,fZ,qL]
  replace hs:ps.length<=1000:=of_decide_eq_true hs
  by_cases hp:ps=[]
  ·subst hp;simp
  ·have hn:¬ ((ps.length:Int)=0):=by
    have:ps.length≠0:=fun z=>hp (List.length_eq_zero_iff.mp z);omega
   simp [hp];rw [fF (fun x=>.bool (gB x)) 0 (fun _ _ _=>rfl)]
   ·simp only [List.nil_append,bds,yE,all_map];generalize ea:ps.all gB=b;cases b
    ·simp
    ·simp;rw [fF (fun x=>.int (mR (qK x))) 0 (fun _ _ _=>rfl)]
     ·have e3:(ps.map fun x=>PyData.int (mR (qK x)))=(ps.map fun p=>mR (qK p)).map PyData.int:=by simp
      simp only [List.nil_append,bds,e3];rw [bP2 _ _ (ns:=ps.map fun p=>mR (qK p)) (by simpa using hs) (fun _=>by simp) fun _ _=>rfl];simp [hp]
     ·intro y hy u;have:=List.all_eq_true.mp ea y hy;unfold gB at this;split at this
      ·rename_i k v;simp [kE,eX] at this;cases k<;>simp at this;simp [qK,mR]
      ·cases this
   ·intro y hy u;simp [hps y hy]
def uY (hx:nD x=true) (e1:eJ x=true):aE (TT bm) (d+8) "is_step" [.d x] h=some (.bool true,h):=by
 simp [qO,hx,e1]
@[simp] theorem aD3 (hs:qT x=true) (hx:nD x=true):aE T (d+8) "is_step" [.d x] h=some (.bool (oM x),h):=by
 simp [qO,oM,hx];cases e1:eJ x<;>cases e2:lB x<;>simp [e1,e2,hx,aN5 _ _ _ hs hx]
end K45

namespace K45
open PySem PySem.Spec PyProof.Rows L2 DL CI SJ
variable {bm:Bool}
variable (d:Nat) (t:PyData) (h:aA)
def aN6 {t:PyData} (e:aS t "got" 2=false):dB (.read 0) t=false:=by
 unfold dB;split
 ·split
  ·rename_i s v;cases es:(s==Str.ofString "got")
   ·simp
   ·simp at es;subst es;simp [aS] at e
  ·rfl
 all_goals rename_i e';cases e'
@[simp] theorem bP3 (o:One):nD o.dat=true:=by cases o<;>rfl
def qU (o:One) (ht:nD t=true):aE (TT bm) (d+3) "is_own_answer" [.d o.dat,.d t] h=some (.bool (dB o t),h):=by
 cases o
 ·simp [bO,One.dat,PyData.eqv,dB,szl,ht];cases e:aS t (Str.ofString "got") 2
  ·simp;exact aN6 e
  ·obtain ⟨v,rfl⟩:=gX e;have hv:nD v=true:=by simpa using ht
   simp [hv]
 ·simp [bO,One.dat,PyData.eqv,dB,szl,ht]
 ·simp [bO,One.dat,PyData.eqv,dB,szl,ht];cases e:aS t (Str.ofString "got") 2
  ·simp;exact aN6 e
  ·obtain ⟨v,rfl⟩:=gX e;have hv:nD v=true:=by simpa using ht
   simp [hv]
 ·simp [bO,One.dat,PyData.eqv,dB,szl,ht];cases e:aS t (Str.ofString "yes") 1<;>simp [ht]
end K45

namespace K45
open PySem PySem.Spec PyProof.Rows L2 DL CI SJ
variable {bm:Bool}
variable (d:Nat) (t:PyData) (h:aA)
def bP4 {t:PyData} {lo hi:Nat} (e:aS t "all" 2=false):cB (.span lo hi) t=false:=by
 unfold cB;split
 ·rename_i e';cases e'
 ·split
  ·rename_i s xs;cases es:(s==Str.ofString "all")
   ·simp
   ·simp at es;subst es;simp [aS] at e
  ·rfl
 ·rename_i e';cases e'
def aZ0 {t:PyData} {cs:List One} (e:aS t "each" 2=false):cB (.deal cs) t=false:=by
 unfold cB;split
 ·rename_i e';cases e'
 ·rename_i e';cases e'
 ·split
  ·rename_i s xs;cases es:(s==Str.ofString "each")
   ·simp
   ·simp at es;subst es;simp [aS] at e
  ·rfl
def zps (cs:List One) (xs:List PyData):List (PyData×PyData):=(cs.zip xs).map fun p=>(.tuple [p.1.dat,p.2],.bool (dB p.1 p.2))
theorem bF4:∀ (cs:List One) (xs:List PyData),kU (cs.map One.dat) xs=(zps cs xs).map (·.1)
 | [],_=>by simp [kU,zps]
 | _::_,[]=>by simp [kU,zps]
 | c::cs,x::xs=>by
  have:=bF4 cs xs;unfold kU zps at this ⊢;simp at this ⊢;exact this
def cA0:∀ (cs:List One) (xs:List PyData),(zps cs xs).map (·.2)=((cs.zip xs).map fun p=>dB p.1 p.2).map PyData.bool:=fun cs xs=>by simp [zps]
theorem yY:∀ (cs:List One) (xs:List PyData),((cs.zip xs).map fun p=>dB p.1 p.2).all id=fX cs xs
 | [],_=>by simp [fX]
 | _::_,[]=>by simp [fX]
 | c::cs,x::xs=>by
  have:=yY cs xs;simp [fX] at this ⊢;rw [this]
theorem yZ:∀ bs:List Bool,cX (bs.map PyData.bool)=some bs
 | []=>rfl
 | b::r=>by simp [cX,yZ r]
@[simp] theorem sH (c:SJ.Call):nD c.dat=true:=by
 cases c with
 | one o=>exact bP3 o
 | span lo hi=>rfl
 | deal cs=>simp [Call.dat]
def xD (lo hi:Nat) (ht:nD t=true):aE (TT bm) (d+4) "is_own_answer" [.d (Call.span lo hi).dat,.d t] h=some (.bool (cB (.span lo hi) t),h):=by
 simp [bO,Call.dat,PyData.eqv,szl,ht];cases e:aS t (Str.ofString "all") 2
 ·simp;exact bP4 e
 ·obtain ⟨v,rfl⟩:=gX e;have hv:nD v=true:=by simpa using ht
  rcases tp v with ⟨xs,rfl⟩ | hn
  rotate_left
  ·simp [hn,hv]
  have hxs:∀ y∈xs,nD y=true:=by simpa using hv
  have hxa:xs.all nD=true:=by simpa using hv
  simp [fW,cB,hv,hxs,hxa]
  by_cases hl:(xs.length:Int)=(hi:Int) - lo<;>simp [hl,hxs,hxa]
def xE (cs:List One) (ht:nD t=true):aE (TT bm) (d+4) "is_own_answer" [.d (Call.deal cs).dat,.d t] h=some (.bool (cB (.deal cs) t),h):=by
 simp [bO,Call.dat,PyData.eqv,szl,ht];cases e:aS t (Str.ofString "each") 2
 ·simp;exact aZ0 e
 ·obtain ⟨v,rfl⟩:=gX e;have hv:nD v=true:=by simpa using ht
  rcases tp v with ⟨xs,rfl⟩ | hn
  rotate_left
  ·simp [hn,hv]
  have hxs:∀ y∈xs,nD y=true:=by simpa using hv
  have hxa:xs.all nD=true:=by simpa using hv
  simp [fW,cB,hv,hxs,hxa]
  by_cases hl:(xs.length:Int)=cs.length
  ·have hl':xs.length=cs.length:=by omega
   simp [hl,hl'];rw [bF4,oQ (fun δ=>∃ a b,δ=[a,b]) _ _ _ ⟨_,_,rfl⟩]
   ·have hz:=yY cs xs;rw [cA0];generalize ((cs.zip xs).map fun p=>dB p.1 p.2)=L at hz ⊢;simp [yZ,hz]
   ·intro p hp δ ⟨a,b,e⟩;subst e;obtain ⟨⟨o,x⟩,hm,rfl⟩:=List.mem_map.mp hp;have hx:nD x=true:=hxs x (List.of_mem_zip hm).2;refine ⟨[some (.d o.dat),some (.d x)],by simp [aR,cW],⟨_,_,rfl⟩,?_⟩;simp [qU,hx]
  ·have hl':¬ xs.length=cs.length:=by omega
   simp [hl,hl']
def xF (c:SJ.Call) (ht:nD t=true):aE (TT bm) (d+4) "is_own_answer" [.d c.dat,.d t] h=some (.bool (cB c t),h):=by
 cases c with
 | one o=>exact qU (d+1) t h o ht
 | span lo hi=>exact xD d t h lo hi ht
 | deal cs=>exact xE d t h cs ht
end K45

namespace K45
open PySem PySem.Spec PyProof.Rows L2 DL CI SJ
variable {bm:Bool}
variable (d:Nat) (t:PyData) (h:aA)
def xG {c:SJ.Call} (hc:c.ok):qT c.dat=true:=by
 cases c with
 | one o=>cases o<;>simp [Call.dat,One.dat,qT]
 | span lo hi=>simp [Call.dat,qT]
 | deal cs =>
  have:=hc.1;simp [Call.dat,qT];omega
def xH {c:SJ.Call} (hc:c.ok) (ht:nD t=true):aE (TT bm) (d+9) "is_answer" [.d c.dat,.d t] h=some (.bool (aS t "refused" 1||cB c t),h):=by
 simp [uS,uY (d) c.dat h (sH c) (fE hc).1,ht,(fE hc).2.1,(fE hc).1];cases e:aS t (Str.ofString "refused") 1
 ·simp [xF (d+4),ht]
 ·simp [(fE hc).1]
end K45

namespace K45
open PySem PySem.Spec PyProof.Rows L2 DL CI SJ
variable {bm:Bool}
structure Dd where
 hand:Nat
 beg:Nat
 call:SJ.Call
 fin:Option (Nat×Option SJ.Ans)
noncomputable def aD4:PyData:=.tuple [.str "refused"]
def anD:Option SJ.Ans->PyData
 | some a=>a.dat
 | none=>aD4
noncomputable def Dd.endD (x:Dd):PyData:=match x.fin with
 | some p=>.int p.1
 | none=>.none
def Dd.ansD (x:Dd):PyData:=match x.fin with
 | some p=>anD p.2
 | none=>.none
def Dd.dat (x:Dd):PyData:=.tuple [.int x.hand,.int x.beg,x.endD,x.call.dat,x.ansD]
structure Dd.ok (x:Dd):Prop where
 hand:x.hand<=5
 call:x.call.ok
 fin:∀ p,x.fin=some p->x.beg < p.1/\∀ a,p.2=some a->Ans.fits x.call a
noncomputable def Dd.tms (x:Dd):List Int:=(x.beg:Int)::(match x.fin with | some p=>[(p.1:Int)] | none=>[])
noncomputable def Dd.below (x:Dd) (n:Nat):Bool:=match x.fin with | some p=>decide (p.1 < n) | none=>false
variable (d:Nat) (h:aA)
def aZ1 {c:SJ.Call} (hc:c.ok):aE (TT bm) (d+6) "is_call" [.d c.dat] h=some (.bool true,h):=by
 rw [qS _ _ _ (sH c)];rw [(fE hc).1]
@[simp] theorem qV (n:Nat):aE (TT bm) (d+2) "is_time" [.d (.int n)] h=some (.bool true,h):=by
 have e:=fO (bm:=bm) d (.int n) h rfl;simp [aD0,e,gR]
def aN7 (a:SJ.Ans):nD a.dat=true:=by
 cases a with
 | one a=>cases a<;>rfl
 | all ns=>simp [Ans.dat]
 | each as =>
  simp [Ans.dat];intro a _;cases a<;>rfl
def bF5 (a:Option SJ.Ans):nD (anD a)=true:=by
 cases a with
 | none=>rfl
 | some a=>exact aN7 a
def cA1 (x:Dd):nD x.dat=true:=by
 obtain ⟨hand,beg,call,fin⟩:=x;cases fin with
 | none=>simp [Dd.dat,Dd.endD,Dd.ansD]
 | some p=>simp [Dd.dat,Dd.endD,Dd.ansD,bF5]
def bF6 {c:SJ.Call} (hc:c.ok) {a:Option SJ.Ans} (hf:∀ b,a=some b->Ans.fits c b):aE (TT bm) (d+9) "is_answer" [.d c.dat,.d (anD a)] h=some (.bool true,h):=by
 rw [xH d (anD a) h hc (bF5 a)];cases a with
 | none=>simp [anD,aD4,aS]
 | some a=>simp [anD,aC5 (hf a rfl) hc]
def lR (x:Dd) (hx:x.ok):aE (TT bm) (d+10) "is_deed" [.d x.dat] h=some (.bool true,h):=by
 have hc:=aZ1 (bm:=bm) (d+3) h hx.call;have hh:=hx.hand;have hn:=cA1 x;have e1:=bV (bm:=bm) (d+8) x.dat h 5 hn;have e2:=gV (bm:=bm) (d+7) (.int x.hand) h 0 5 rfl;have e3:=qV (bm:=bm) (d+7) h x.beg;obtain ⟨hand,beg,call,fin⟩:=x;dsimp only at hh hc e2 e3;have hh':¬ (5:Int) < (hand:Int):=by omega
 cases fin with
 | none =>
  dsimp only [Dd.dat,Dd.endD,Dd.ansD] at e1 ⊢;simp [lQ,e1,e2,e3,fW,eX,hc,hh,hh']
 | some p =>
  obtain ⟨h1,h3⟩:=hx.fin p rfl;have ha:=bF6 (bm:=bm) d h hx.call h3;have e4:=qV (bm:=bm) (d+7) h p.1;have isn:xIs (.d (.int (p.1:Int))) (.d .none)=some false:=rfl;obtain ⟨t,ht⟩:∃ t,t=anD p.2:=⟨_,rfl⟩;dsimp only [Dd.dat,Dd.endD,Dd.ansD] at e1 ha h1 ⊢;rw [<- ht] at ha e1 ⊢;simp [lQ,e1,e2,e3,e4,fW,eX,hc,ha,hh,hh',h1]
def pD (x:Dd):aE (TT bm) (d+1) "times_of" [.d x.dat] h=some (.list (x.tms.map .int),h):=by
 obtain ⟨hand,beg,call,fin⟩:=x;cases fin<;>simp [wZ,Dd.dat,Dd.endD,Dd.ansD,Dd.tms,szl]
def cS (x:Dd) (n:Nat):aE (TT bm) (d+1) "ended_below" [.d x.dat,.d (.int n)] h=some (.bool (x.below n),h):=by
 obtain ⟨hand,beg,call,fin⟩:=x;cases fin<;>simp [pT,Dd.dat,Dd.endD,Dd.ansD,Dd.below]
end K45

namespace K45
open PySem PySem.Spec PyProof.Rows L2 DL CI SJ
variable {bm:Bool}
variable (d:Nat) (h:aA)
structure Tog (x y:Dd):Prop where
 ne:∀ t,t∈x.tms->t∈y.tms->False
 hd:x.hand≠y.hand\/x.below y.beg=true\/y.below x.beg=true
theorem Tog.symm {x y:Dd} (t:Tog x y):Tog y x:=⟨fun z a b=>t.ne z b a,by
 rcases t.hd with h | h | h
 ·exact .inl fun e=>h e.symm
 ·exact .inr (.inr h)
 ·exact .inr (.inl h)⟩
theorem cmT {α:Type} {g:XG} {tt:XR Bool} {te:XR W} {all:List PyData} {h:aA} (F:α->PyData) (p:α->Bool) (f:α->PyData) (I:DSt->Prop):∀ (qs:List α) (δ:DSt) (ac:List PyData),I δ ->
  (∀ q∈qs,∀ δ,I δ->∃ δ',g (.d (F q)) δ h=some (δ',h)/\I δ'/\tt δ' h=some (p q,h)/\(p q=true->te δ' h=some (.d (f q),h)))->aV g tt te none all (qs.map F) δ h ac=some (ac++(qs.filter p).map f,h)
 | [],δ,ac,_,_=>by simp [aV]
 | q::r,δ,ac,i,hx=>by
  obtain ⟨δ',e1,i',e2,e3⟩:=hx q List.mem_cons_self δ i;have ih:=fun ac=>cmT (all:=all) F p f I r δ' ac i' fun y hy=>hx y (List.mem_cons_of_mem _ hy);rw [List.map_cons,aV,cN,if_pos rfl,e1];simp only [CI.bs,e2];cases hp:p q with
  | true=>rw [if_pos rfl,e3 hp];simp only [CI.bs];rw [ih];simp [hp]
  | false=>rw [if_neg (by simp)];rw [ih];simp [hp]
def cmM {α:Type} {g:XG} {te:XR W} {all:List PyData} {h:aA} (F:α->PyData) (f:α->PyData) (I:DSt->Prop) (qs:List α) (δ:DSt) (i:I δ)
  (hx:∀ q∈qs,∀ δ,I δ->∃ δ',g (.d (F q)) δ h=some (δ',h)/\I δ'/\te δ' h=some (.d (f q),h)):aV g (aD true) te none all (qs.map F) δ h []=some (qs.map f,h):=by
 rw [cmT F (fun _=>true) f I qs δ [] i fun q m δ i=>?_]
 ·rw [List.filter_eq_self.mpr (fun _ _=>rfl),List.nil_append]
 ·obtain ⟨δ',a,b,c⟩:=hx q m δ i;exact ⟨δ',a,b,rfl,fun _=>c⟩
theorem iR {α:Type} (b:Bool):∀ xs:List α,cX (xs.map fun _=>PyData.bool b)=some (xs.map fun _=>b)
 | []=>rfl
 | x::r=>by rw [List.map_cons,cX,iR b r];rfl
def cA2 {α:Type} (xs:List α) (h:aA):tN [.d (.list (xs.map fun _=>PyData.bool false))] h=some (.d (.bool false),h):=by
 have:tN [.d (.list (xs.map fun _=>PyData.bool false))] h=(cX (xs.map fun _=>PyData.bool false)).map fun bs=>(.d (.bool (bs.any id)),h):=rfl;rw [this,iR];simp
theorem nB:∀ (ns:List Int) (n:Nat),plainsB n (ns.map .int)=true
 | [],n=>by simp
 | a::r,n=>by simp [nB r]
def zB (ns:List Int) (n:Int) (h:aA):xIn (.d (.int n)) (.d (.list (ns.map .int))) h=some (decide (n∈ns)):=by
 have:xIn (.d (.int n)) (.d (.list (ns.map .int))) h=if (aK 64 (.list (ns.map .int))&&aK 64 (.int n))=true then some ((ns.map PyData.int).any fun z=>PyData.eqv z (.int n)) else none:=rfl
 rw [this];simp only [aX8,nB,bO8,Bool.and_self,if_true]
 congr 1
 clear this;induction ns with
 | nil=>rfl
 | cons a r ih =>
  rw [List.map_cons,List.any_cons,ih];simp [PyData.eqv]
  by_cases e:a=n
  ·simp [e]
  ·simp [e,Ne.symm e]
def jJ {x y:Dd} (t:Tog x y):aE (TT bm) (d+3) "go_together" [.d x.dat,.d y.dat] h=some (.bool true,h):=by
 have t1:=fun x=>pD (bm:=bm) (d+1) h x;have b1:=fun n=>cS (bm:=bm) (d+1) h x n;have b2:=fun n=>cS (bm:=bm) (d+1) h y n;have y0:∀ k,xIx (.d y.dat) (.d (.int 0)) k=some (.d (.int y.hand),k):=fun k=>by simp [Dd.dat]
 have x0:∀ k,xIx (.d x.dat) (.d (.int 0)) k=some (.d (.int x.hand),k):=fun k=>by simp [Dd.dat]
 have y1:∀ k,xIx (.d y.dat) (.d (.int 1)) k=some (.d (.int y.beg),k):=fun k=>by simp [Dd.dat]
 have x1:∀ k,xIx (.d x.dat) (.d (.int 1)) k=some (.d (.int x.beg),k):=fun k=>by simp [Dd.dat]
 obtain ⟨dx,hdx⟩:∃ v,v=x.dat:=⟨_,rfl⟩;obtain ⟨dy,hdy⟩:∃ v,v=y.dat:=⟨_,rfl⟩;have tx:=t1 x;have ty:=t1 y;rw [<- hdx] at x0 x1 b1 tx ⊢;rw [<- hdy] at y0 y1 b2 ty ⊢;simp [jI,tx];rw [cmM PyData.int (fun _=>.bool false) (fun δ=>∃ u,δ=[u,some (.d dy)]) _ _ ⟨_,rfl⟩ fun t' hm δ hδ=>?_]
 ·simp only [bds,cA2];have hh:=t.hd
  by_cases e:x.hand=y.hand
  ·cases e1:x.below y.beg
   ·have e2:y.below x.beg=true:=by
     rcases hh with h | h | h
     ·exact absurd e h
     ·rw [e1] at h;cases h
     ·exact h
    simp [x0,y0,x1,y1,e,b1,b2,e1,e2]
   ·simp [x0,y0,x1,y1,e,b1,b2,e1]
  ·have e':¬ ((x.hand:Int)=y.hand):=by omega
   simp [x0,y0,e']
 ·obtain ⟨u,rfl⟩:=hδ;refine ⟨_,rfl,⟨_,rfl⟩,?_⟩;have:t'∉y.tms:=fun z=>t.ne t' hm z;simp [ty,zB,this]
end K45

namespace K45
open PySem PySem.Spec PyProof.Rows L2 DL CI SJ
noncomputable def clS (S:List Int) (k:Nat):Int:=S.getD k 0
def aN8 (d:Nat) (h:aA) (S:List Int) (k:Nat):aE T (d+1) "_law_cell_at" [.d (.list (S.map .int)),.d (.int k)] h=some (.int (clS S k),h):=by
 by_cases c:k < S.length
 ·have e:=iQ c;simp [iB,c,e,clS]
 ·simp [iB,c,clS]
noncomputable def dwF (a k:Int):Int :=
 let g:=a / 2^(1+24*(k%120)).toNat
 if a%2=1/\0 < g then g%16777216 else
 let x:=(a / 2%2147483647+7919*k+1)*48271%2147483647
 let y:=x*(x / 1009+69621)%2147483647
 y*(y / 2003+40692)%2147483399
def iS (d:Nat) (h:aA) (a k:Int):aE T (d+1) "_law_drawn" [.d (.int a),.d (.int k)] h=some (.int (dwF a k),h):=by
 have e1:cP 1009=true:=by decide
 have e2:cP 2003=true:=by decide
 have e3:cP 2=true:=by decide
 have e4:lY 2 24=true:=by decide
 have h0:=iM (i:=7919) (by decide) (by decide) k;have h9:=iM (i:=24) (by decide) (by decide) (k%120);have h1:=aY0 (j:=48271) (by decide) (by decide) (a / 2%2147483647+7919*k+1);obtain ⟨x,hx⟩:∃ x,x=(a / 2%2147483647+7919*k+1)*48271%2147483647:=⟨_,rfl⟩;have h2:gZ x (x / 1009+69621)=true:=iM (by omega) (by omega) _;obtain ⟨y,hy⟩:∃ y,y=x*(x / 1009+69621)%2147483647:=⟨_,rfl⟩;have h3:gZ y (y / 2003+40692)=true:=iM (by rw [hy];have:=Int.emod_nonneg (x*(x / 1009+69621)) (b:=2147483647) (by decide);omega) (by rw [hy];have:=Int.emod_lt_of_pos (x*(x / 1009+69621)) (b:=2147483647) (by decide);omega) _;obtain ⟨g,hg⟩:∃ g,g=a / 2^(1+24*(k%120)).toNat:=⟨_,rfl⟩;have sh:∀ H,hV .RShift (.d (.int a)) (.d (.int (1+24*(k%120)))) H=some (.d (.int g),H):=fun H=>by
  have p0:(0:Int)<=1+24*(k%120):=by have:=Int.emod_nonneg k (b:=120) (by decide);omega
  rw [hg];exact (if_pos p0:(if (0:Int)<=(1+24*(k%120)) then some (W.d (.int (a / 2^(1+24*(k%120)).toNat)),H) else none)=_)
 have e:dwF a k=if a%2=1/\0 < g then g%16777216 else y*(y / 2003+40692)%2147483399:=by rw [hy,hx,hg];rfl
 rw [e]
 by_cases c1:a%2=1
 ·by_cases c2:0 < g
  ·simp [gU,e3,e4,h9,sh,c1,c2]
  ·simp [gU,e1,e2,e3,e4,h0,h9,h1,<- hx,h2,<- hy,h3,sh,c1,c2]
 ·simp [gU,e1,e2,e3,e4,h0,h9,h1,<- hx,h2,<- hy,h3,sh,c1]
noncomputable def kyF (n:Int):Nat:=[0,0,1,2,7].getD (n / 8%5).toNat 0
noncomputable def vlF (n:Int):Int:=[0,1,2,-1,1000000000000000000000000000000].getD (n / 40%5).toNat 0
noncomputable def v3F (n:Int):Int:=[0,1,2].getD (n / 200%3).toNat 0
def plF (n:Int):One:=if n%8 < 3 then .read (kyF n) else if n%8 < 5 then .write (kyF n) (vlF n) else if n%8=5 then .add (kyF n) (vlF n) else .swap (kyF n) (v3F n) (vlF n)
def aN9 (n:Int):kyF n < 8:=by
 unfold kyF;have:(n / 8%5).toNat=0\/(n / 8%5).toNat=1\/(n / 8%5).toNat=2\/(n / 8%5).toNat=3\/(n / 8%5).toNat=4:=by omega
 rcases this with z | z | z | z | z<;>rw [z]<;>decide
def bF7 (n:Int):(plF n).ok:=by
 unfold plF;split
 ·exact aN9 n
 split
 ·exact aN9 n
 split<;>exact aN9 n
def cA3 (n:Int):atI [PyData.int 0,.int 0,.int 1,.int 2,.int 7] (n / 8%5)=some (.int (kyF n)):=by
 unfold kyF;have:n / 8%5=0\/n / 8%5=1\/n / 8%5=2\/n / 8%5=3\/n / 8%5=4:=by omega
 rcases this with z | z | z | z | z<;>rw [z]<;>simp
def cA4 (n:Int):atI [PyData.int 0,.int 1,.int 2,.int (-1),.int 1000000000000000000000000000000] (n / 40%5)=some (.int (vlF n)):=by
 unfold vlF;have:n / 40%5=0\/n / 40%5=1\/n / 40%5=2\/n / 40%5=3\/n / 40%5=4:=by omega
 rcases this with z | z | z | z | z<;>rw [z]<;>simp
def cA5 (n:Int):atI [PyData.int 0,.int 1,.int 2] (n / 200%3)=some (.int (v3F n)):=by
 unfold v3F;have:n / 200%3=0\/n / 200%3=1\/n / 200%3=2:=by omega
 rcases this with z | z | z<;>rw [z]<;>simp
def aZ2 (d:Nat) (h:aA) (n:Int):aE T (d+1) "_law_plain_call" [.d (.int n)] h=some ((plF n).dat,h):=by
 have e1:cP 8=true:=by decide
 have e2:cP 40=true:=by decide
 have e3:cP 200=true:=by decide
 have e4:lY 10 30=true:=by decide
 have k1:=cA3 n;have k2:=cA4 n;have k3:=cA5 n;unfold plF
 by_cases c1:n%8 < 3
 ·simp [cJ,e1,e2,e3,e4,aO,k1,k2,k3,c1,One.dat,szl]
 by_cases c2:n%8 < 5
 ·simp [cJ,e1,e2,e3,e4,aO,k1,k2,k3,c1,c2,One.dat,szl]
 by_cases c3:n%8=5
 ·simp [cJ,e1,e2,e3,e4,aO,k1,k2,k3,c1,c2,c3,One.dat,szl]
 ·simp [cJ,e1,e2,e3,e4,aO,k1,k2,k3,c1,c2,c3,One.dat,szl]
def clF (a k:Int):SJ.Call:=let n:=dwF a k
 if n%7=0 then .span (n / 7%3).toNat (n / 7%3+1+n / 21%(8 - n / 7%3)).toNat
 else if n%7=1 then .deal ((List.range (1+n / 7%4).toNat).map fun (j:Nat)=>plF (dwF a (k+30+j)))
 else .one (plF (n / 7))
def bF8 (a k:Int):(clF a k).ok:=by
 unfold clF;dsimp only;generalize dwF a k=n;split
 ·have h1:=Int.emod_nonneg (n / 21) (b:=8 - n / 7%3) (by omega);have h2:=Int.emod_lt_of_pos (n / 21) (b:=8 - n / 7%3) (by omega);exact ⟨by omega,by omega⟩
 split
 ·refine ⟨by simp;omega,by simp;omega,fun o ho=>?_⟩;obtain ⟨j,_,rfl⟩:=List.mem_map.mp ho;exact bF7 _
 ·exact bF7 _
def aO0 (d:Nat) (h:aA) (a k:Int):aE T (d+2) "_law_call" [.d (.int a),.d (.int k)] h=some ((clF a k).dat,h):=by
 have e1:cP 7=true:=by decide
 have e2:cP 21=true:=by decide
 have dw:=fun k=>iS d h a k;have pl:=fun n=>aZ2 d h n;rw [show d+2=(d+1)+1 from rfl];unfold clF;obtain ⟨n,hn⟩:∃ n,n=dwF a k:=⟨_,rfl⟩;rw [<- hn];have dw0:=dw k;rw [<- hn] at dw0;dsimp only
 by_cases c1:n%7=0
 ·have h0:n / 7%3 < 8:=by omega
  have h1:=Int.emod_nonneg (n / 21) (b:=8 - n / 7%3) (by omega);have n1:((n / 7%3).toNat:Int)=n / 7%3:=by omega
  have n2:((n / 7%3+1+n / 21%(8 - n / 7%3)).toNat:Int)=n / 7%3+1+n / 21%(8 - n / 7%3):=by omega
  simp only [c1,if_true,Call.dat,n1,n2];simp [iD,dw0,e1,e2,c1,h0,szl]
 by_cases c2:n%7=1
 ·have er:eV 0 (1+n / 7%4)=true:=cO (by omega) (by omega);simp [iD,dw0,e1,c1,c2,er];rw [aN0 (fun x=>(plF (dwF a (k+30+mR x))).dat) (fun δ=>∃ u,δ=[u,some (.d (.int a)),some (.d (.int k))]) _ _ ⟨_,rfl⟩ ?_]
  ·have e:(rng 0 (1+n / 7%4).toNat).map (fun x=>(plF (dwF a (k+30+mR x))).dat)=((List.range (1+n / 7%4).toNat).map fun (j:Nat)=>plF (dwF a (k+30+j))).map One.dat:=by
    rw [aY9,List.map_map,List.map_map];rfl
   simp [e,Call.dat,szl]
  ·rintro x hx δ ⟨u,rfl⟩;obtain ⟨j,hj,rfl⟩:=aY2 hx;refine ⟨_,rfl,⟨_,rfl⟩,?_⟩;simp [dw,pl,mR]
 ·simp [iD,dw0,e1,c1,c2,pl,Call.dat]
end K45

namespace K45
open PySem PySem.Spec PyProof.Rows L2 DL CI SJ
def sd (st:List Int):One->An1×List Int
 | .read k=>(.got (st.getD k 0),st)
 | .write k v=>(.dn,st.set k v)
 | .add k v=>(.got (st.getD k 0+v),st.set k (st.getD k 0+v))
 | .swap k x y=>if st.getD k 0=x then (.yes,st.set k y) else (.no,st)
def xI (st:List Int) (o:One):(sd st o).2.length=st.length:=by
 cases o<;>simp only [sd]<;>first | rfl | exact List.length_set | (split<;>first | rfl | exact List.length_set)
def zC (st:List Int) (o:One):An1.fits o (sd st o).1:=by
 cases o<;>simp only [sd]<;>first | trivial | (split<;>trivial)
def bF9 {st:List Int} {k:Nat} (hk:k < st.length):atI (st.map PyData.int) (k:Int)=some (.int (st.getD k 0)):=fV (by simp [hk])
theorem dW {H:aA} {j:Nat} {c:Cell} (e:H[j]?=some c):H.set j c=H:=by
 apply List.ext_getElem?;intro i
 by_cases h:j=i
 ·subst h;rw [List.getElem?_set_self (List.getElem?_eq_some_iff.mp e).1,e]
 ·rw [List.getElem?_set_ne h]
def uZ {H:aA} {j:Nat} {xs:List PyData} {z:PyData}:ends H (.rt (.d z),H.set j (.l xs))=some (z,H.set j (.l xs)):=by
 rw [rY,if_pos (aM7 j xs (dC H)),List.take_of_length_le (by simp)]
def cA6 {H:aA} {j:Nat} {xs:List PyData} (e:H[j]?=some (.l xs)) {k:Nat} (hk:k < xs.length) (x:PyData) (δ:DSt):kX j (.int k) x δ H=some (δ,H.set j (.l (xs.set k x))):=by
 unfold kX;simp only [e];unfold ixN;rw [if_pos (by omega),if_pos (by omega)];rfl
def kG {H:aA} {j:Nat} {xs:List PyData} (e:H[j]?=some (.l xs)) (k:Int):xIx (.c j) (.d (.int k)) H=(atI xs k).map fun v=>(.d v,H):=by
 simp [xIx,ref,e]
def zE (d:Nat) {H:aA} {j:Nat} {st:List Int} (e:H[j]?=some (.l (st.map .int))) (hl:st.length=8) {o:One} (ho:o.ok):aE T (d+1) "_law_done_plainly" [.c j,.d o.dat] H=some ((sd st o).1.dat,H.set j (.l ((sd st o).2.map .int))):=by
 have ho:o.key < 8:=ho;have ix:∀ k:Nat,k < 8->xIx (.c j) (.d (.int k)) H=some (.d (.int (st.getD k 0)),H):=fun k hk=>by rw [kG e,bF9 (by omega)];rfl
 have ik:∀ k:Nat,k < 8->ixN 8 (k:Int)=some k:=fun k hk=>by unfold ixN;rw [if_pos (by omega),if_pos (by omega)];rfl
 have es:=fun (z:PyData) xs=>uZ (H:=H) (j:=j) (xs:=xs) (z:=z);have eS:=fun (z:PyData)=>by have:=es z (st.map .int);rw [dW e] at this;exact this
 cases o with
 | read k =>
  have i1:=ix k ho;generalize ev:st.getD k 0=w at i1;simp only [sd,ev,An1.dat];simp [bI,One.dat,i1,szl,eS,dW e]
 | write k v =>
  have i1:=ix k ho;generalize ev:st.getD k 0=w at i1;simp only [sd,ev,An1.dat,List.map_set];simp [bI,One.dat,i1,szl,es,e,hl,ik k ho]
 | add k v =>
  have i1:=ix k ho;generalize ev:st.getD k 0=w at i1;simp only [sd,ev,An1.dat,List.map_set];simp [bI,One.dat,i1,szl,es,e,hl,ik k ho]
 | swap k x y =>
  have i1:=ix k ho;generalize ev:st.getD k 0=w at i1
  by_cases c:w=x
  ·simp only [sd,ev,c,if_true,An1.dat,List.map_set];simp [bI,One.dat,i1,szl,es,e,hl,ik k ho,c]
  ·simp only [sd,ev,c,if_false,An1.dat];simp [bI,One.dat,i1,szl,eS,dW e,c]
theorem cmS {α σ:Type} {g:XG} {te:XR W} {all:List PyData} (F:α->PyData) (out:σ->α->PyData) (nx:σ->α->σ) (R:σ->DSt->aA->Prop):∀ (qs:List α) (s:σ) (δ:DSt) (h:aA) (ac:List PyData),R s δ h ->
  (∀ q∈qs,∀ s δ h,R s δ h->∃ δ1 h1,g (.d (F q)) δ h=some (δ1,h1)/\∃ h2,te δ1 h1=some (.d (out s q),h2)/\R (nx s q) δ1 h2) ->
  ∃ δ' h',aV g (aD true) te none all (qs.map F) δ h ac=some (ac++(qs.foldl (fun p q=>(p.1++[out p.2 q],nx p.2 q)) ([],s)).1,h')/\R (qs.foldl nx s) δ' h'
 | [],s,δ,h,ac,i,_=>⟨δ,h,by simp [aV],i⟩
 | q::r,s,δ,h,ac,i,hx=>by
  obtain ⟨δ1,h1,e1,h2,e2,i2⟩:=hx q List.mem_cons_self s δ h i;obtain ⟨δ',h',e3,i3⟩:=cmS (all:=all) F out nx R r (nx s q) δ1 h2 (ac++[out s q]) i2 fun y hy=>hx y (List.mem_cons_of_mem _ hy);refine ⟨δ',h',?_,i3⟩;rw [List.map_cons,aV,cN,if_pos rfl,e1];simp only [CI.bs,uL,if_true,e2,e3,List.foldl_cons,List.nil_append]
  congr 2
  have gen:∀ (r:List α) (l:List PyData) (s:σ),(r.foldl (fun p q=>(p.1++[out p.2 q],nx p.2 q)) (l,s)).1=l++(r.foldl (fun p q=>(p.1++[out p.2 q],nx p.2 q)) ([],s)).1:=by
   intro r;induction r with
   | nil=>intro l s;simp
   | cons a r ih=>intro l s;rw [List.foldl_cons,ih,List.foldl_cons,ih ([]++_)];simp
  rw [gen r [out s q],List.append_assoc]
def dr (st:List Int):List One->List An1×List Int
 | []=>([],st)
 | o::r=>((sd st o).1::(dr (sd st o).2 r).1,(dr (sd st o).2 r).2)
theorem aO1:∀ (cs:List One) (st:List Int),(dr st cs).2.length=st.length
 | [],st=>rfl
 | o::r,st=>by rw [dr,aO1 r,xI]
theorem aO2:∀ (cs:List One) (st:List Int),Fit2 cs (dr st cs).1
 | [],st=>.nil
 | o::r,st=>.cons (zC st o) (aO2 r _)
theorem zF:∀ (cs:List One) (st:List Int),cs.foldl (fun s o=>(sd s o).2) st=(dr st cs).2
 | [],st=>rfl
 | o::r,st=>by rw [List.foldl_cons,zF r];rfl
theorem aO3:∀ (cs:List One) (st:List Int) (l:List PyData),(cs.foldl (fun p o=>(p.1++[(sd p.2 o).1.dat],(sd p.2 o).2)) (l,st)).1=l++(dr st cs).1.map An1.dat
 | [],st,l=>by simp [dr]
 | o::r,st,l=>by rw [List.foldl_cons,aO3 r];simp [dr]
def bP5 (xs:List PyData) {i j:Nat} (hi:i<=j) (hj:j<=xs.length):cut xs (some (i:Int)) (some (j:Int))=(xs.drop i).take (j - i):=by
 have e1:HT.sIx xs.length 0 (some (i:Int))=i:=by
  unfold HT.sIx;simp only [];rw [if_neg (by omega)];omega
 have e2:HT.sIx xs.length xs.length (some (j:Int))=j:=by
  unfold HT.sIx;simp only [];rw [if_neg (by omega)];omega
 rw [cut,e1,e2]
def dnC (st:List Int):SJ.Call->SJ.Ans×List Int
 | .one o=>(.one (sd st o).1,(sd st o).2)
 | .span lo hi=>(.all ((st.drop lo).take (hi - lo)),st)
 | .deal cs=>(.each (dr st cs).1,(dr st cs).2)
def zG {c:SJ.Call} {st:List Int} (hl:st.length=8):(dnC st c).2.length=8:=by
 cases c with
 | one o=>rw [<- hl];exact xI st o
 | span lo hi=>exact hl
 | deal cs=>rw [<- hl];exact aO1 cs st
def vA {c:SJ.Call} (hc:c.ok) {st:List Int} (hl:st.length=8):Ans.fits c (dnC st c).1:=by
 cases c with
 | one o=>exact zC st o
 | span lo hi =>
  have h1:=hc.1;have h2:=hc.2;show ((st.drop lo).take (hi - lo)).length=hi - lo;simp;omega
 | deal cs=>exact aO2 cs st
def aO4 (d:Nat) {H:aA} {j:Nat} {st:List Int} (e:H[j]?=some (.l (st.map .int))) (hl:st.length=8) {c:SJ.Call} (hc:c.ok):aE T (d+2) "_law_done" [.c j,.d c.dat] H=some ((dnC st c).1.dat,H.set j (.l ((dnC st c).2.map .int))):=by
 have es:=fun (z:PyData) xs=>uZ (H:=H) (j:=j) (xs:=xs) (z:=z);have eS:=fun (z:PyData)=>by have:=es z (st.map .int);rw [dW e] at this;exact this
 have hj:j < H.length:=(List.getElem?_eq_some_iff.mp e).1;rw [show d+2=(d+1)+1 from rfl];cases c with
 | one o =>
  have e1:=zE d e hl (o:=o) hc;simp only [dnC,Ans.dat];generalize (sd st o).1.dat=z at *;generalize ((sd st o).2.map PyData.int)=w at *;cases o<;>simp only [Call.dat,One.dat] at e1 ⊢<;>simp [iE,e1,es]
 | span lo hi =>
  have h1:=hc.1;have h2:=hc.2;have cn:=bP5 (st.map PyData.int) (i:=lo) (j:=hi) (Nat.le_of_lt h1) (by simp;omega);rw [<- List.map_drop,<- List.map_take] at cn;simp only [dnC,Ans.dat];simp [iE,Call.dat,szl,xSl,ref,e,cn,bM,eS,dW e]
 | deal cs =>
  obtain ⟨δ',h',e1,hR⟩:=cmS (g:=YG 0) (te:=xb (Y2 (aB 1) (aB 0)) (YF false (d+1) "_law_done_plainly")) (all:=cs.map One.dat) One.dat (fun s o=>(sd s o).1.dat) (fun s o=>(sd s o).2)
   (fun s δ h'=>s.length=8/\h'=H.set j (.l (s.map .int))/\∃ u,δ=[u,some (.c j)]) cs st [none,some (.c j)] H [] ⟨hl,by rw [dW e],_,rfl⟩ (by
    rintro o ho s δ h' ⟨hs,rfl,u,rfl⟩;have e2:(H.set j (.l (s.map PyData.int)))[j]?=some (.l (s.map .int)):=List.getElem?_set_self hj;have e3:=zE d e2 hs (hc.2.2 o ho);rw [List.set_set] at e3;refine ⟨_,_,rfl,_,?_,by rw [xI];exact hs,rfl,_,rfl⟩;simp [e3])
  obtain ⟨_,rfl,_⟩:=hR;rw [aO3,zF] at e1;simp only [List.nil_append,iA] at e1;simp only [dnC,Ans.dat];simp only [kF,cO6] at e1;have hn:=hc.1;simp at e1;simp [iE,Call.dat,szl,e1,es]
end K45

namespace K45
open PySem PySem.Spec PyProof.Rows L2 DL CI SJ
def bn1 (r:Int):An1->An1
 | .got v=>.got (v+1 - r%3)
 | .yes=>if r%2=0 then .yes else .no
 | .no=>if r%2=0 then .yes else .no
 | .dn=>.dn
def vB {r:Int} {o:One} {a:An1} (hf:An1.fits o a):An1.fits o (bn1 r a):=by
 cases o<;>cases a<;>simp [An1.fits] at hf<;>simp only [bn1]<;>first | trivial | (split<;>trivial)
def zH (d:Nat) (h:aA) (a:An1) (r:Int):aE T (d+1) "_law_bent" [.d a.dat,.d (.int r)] h=some ((bn1 r a).dat,h):=by
 have e2:cP 2=true:=by decide
 have yn:atI [PyData.str (Str.ofString "yes"),.str (Str.ofString "no")] (r%2)=some (.str (Str.ofString (if r%2=0 then "yes" else "no"))):=by
  have:r%2=0\/r%2=1:=by omega
  rcases this with z | z<;>rw [z]<;>simp
 cases a with
 | got v=>simp [cU,An1.dat,bn1,szl]
 | dn=>simp [cU,An1.dat,bn1,szl,aO,xIn,ref,PyData.eqv]
 | yes=>by_cases c:r%2=0<;>simp [c] at yn<;>simp [cU,An1.dat,bn1,szl,aO,xIn,ref,PyData.eqv,yn,c]
 | no=>by_cases c:r%2=0<;>simp [c] at yn<;>simp [cU,An1.dat,bn1,szl,aO,xIn,ref,PyData.eqv,yn,c]
def sJ (xs:List PyData) {m:Nat} (hm:m<=xs.length):cut xs none (some (m:Int))=xs.take m:=by
 have e1:HT.sIx xs.length 0 none=0:=by simp [HT.sIx]
 have e2:HT.sIx xs.length xs.length (some (m:Int))=m:=by
  unfold HT.sIx;simp only [];rw [if_neg (by omega)];omega
 rw [cut,e1,e2];simp
def aO5 (xs:List PyData) {m:Nat} (hm:m<=xs.length):cut xs (some (m:Int)) none=xs.drop m:=by
 have e1:HT.sIx xs.length 0 (some (m:Int))=m:=by
  unfold HT.sIx;simp only [];rw [if_neg (by omega)];omega
 have e2:HT.sIx xs.length xs.length none=xs.length:=by simp [HT.sIx]
 rw [cut,e1,e2];rw [List.take_of_length_le];simp
theorem zI:∀ {os:List One} {as:List An1},Fit2 os as->∀ {k:Nat} (r:Int),k < as.length->∀ {a:An1},as[k]?=some a->Fit2 os (as.take k++bn1 r a::as.drop (k+1))
 | _,_,.cons f t,0,r,_,a,e=>by
  simp at e;subst e;exact .cons (vB f) t
 | _,_,.cons f t,k+1,r,hk,a,e=>by
  simp at e hk;exact .cons f (zI t r hk e)
def aO6 (d:Nat) (h:aA) {c:SJ.Call} (hc:c.ok) {a:SJ.Ans} (hf:Ans.fits c a) (r:Int):∃ b,Ans.fits c b/\aE T (d+2) "_law_bent" [.d a.dat,.d (.int r)] h=some (b.dat,h):=by
 have e3:cP 3=true:=by decide
 have e12:cP 12=true:=by decide
 cases a with
 | one a =>
  refine ⟨.one (bn1 r a),?_,zH (d+1) h a r⟩;cases c<;>first | exact vB hf | exact hf
 | all ns =>
  cases c with
  | one o=>exact hf.elim
  | deal cs=>exact hf.elim
  | span lo hi =>
  have hn:ns.length=hi - lo:=hf;have h1:=hc.1;have h2:=hc.2;obtain ⟨k,hk,ek⟩:∃ k:Nat,k < ns.length/\r / 3%(ns.length:Int)=k:=by
   have a1:=Int.emod_nonneg (r / 3) (b:=(ns.length:Int)) (by omega);have a2:=Int.emod_lt_of_pos (r / 3) (b:=(ns.length:Int)) (by omega);exact ⟨(r / 3%(ns.length:Int)).toNat,by omega,by omega⟩
  have p0:0 < ns.length:=by omega
  have c1:=sJ (ns.map PyData.int) (m:=k) (by simp;omega);have c2:=aO5 (ns.map PyData.int) (m:=k+1) (by simp;omega);have c2':cut (ns.map PyData.int) (some ((k:Int)+1)) none=(ns.map PyData.int).drop (k+1):=c2;have at1:=bF9 hk;have l1:k+1<=16777216:=by omega
  have l2:k+1+(ns.length - (k+1))<=16777216:=by omega
  refine ⟨.all (ns.take k++(ns.getD k 0+1 - r%3)::ns.drop (k+1)),?_,?_⟩
  ·show (ns.take k++(ns.getD k 0+1 - r%3)::ns.drop (k+1)).length=hi - lo;simp;omega
  ·generalize ns.getD k 0=v at *;have mk:min k ns.length=k:=by omega
   have l3:k<=16777215:=by omega
   simp [cU,Ans.dat,szl,aO,xIn,ref,PyData.eqv,e3,p0,ek,c1,c2',at1,mk,l1,l2,l3]
 | each as =>
  cases c with
  | one o=>exact hf.elim
  | span lo hi=>exact hf.elim
  | deal cs =>
  have hf':Fit2 cs as:=hf;have hn:=hf'.length;have h1:=hc.1;have h2:=hc.2.1;obtain ⟨k,hk,ek⟩:∃ k:Nat,k < as.length/\r / 3%(as.length:Int)=k:=by
   have a1:=Int.emod_nonneg (r / 3) (b:=(as.length:Int)) (by omega);have a2:=Int.emod_lt_of_pos (r / 3) (b:=(as.length:Int)) (by omega);exact ⟨(r / 3%(as.length:Int)).toNat,by omega,by omega⟩
  have p0:0 < as.length:=by omega
  have c1:=sJ (as.map An1.dat) (m:=k) (by simp;omega);have c2:=aO5 (as.map An1.dat) (m:=k+1) (by simp;omega);have c2':cut (as.map An1.dat) (some ((k:Int)+1)) none=(as.map An1.dat).drop (k+1):=c2;obtain ⟨a,ea⟩:∃ a,as[k]?=some a:=⟨as[k],by simp [hk]⟩;have at1:atI (as.map An1.dat) (k:Int)=some a.dat:=fV (by simp [ea]);have l1:k+1<=16777216:=by omega
  have l2:k+1+(as.length - (k+1))<=16777216:=by omega
  have bt:=fun r=>zH d h a r;refine ⟨.each (as.take k++bn1 (r / 12) a::as.drop (k+1)),zI hf' _ hk ea,?_⟩;rw [show d+2=(d+1)+1 from rfl];have mk:min k as.length=k:=by omega
  have l3:k<=16777215:=by omega
  simp [cU,Ans.dat,szl,aO,xIn,ref,PyData.eqv,e3,e12,p0,ek,c1,c2',at1,mk,l1,l2,l3,bt]
end K45

namespace K45
open PySem PySem.Spec PyProof.Rows L2 DL CI SJ
section
variable {x:Option (Fl×aA)} {k:DSt->Fl×aA->Option (Fl×aA)} (δ:DSt) (h:aA) (e:x=some (.nx δ,h))
include e
def sy {R:Option (Fl×aA)} (kk:k δ (.nx δ,h)=R):YP x (YQ k)=R:=by
 rw [e];exact kk
def sys {P:DSt->aA->Prop} (kk:∃ δ2 h2,k δ (.nx δ,h)=some (.nx δ2,h2)/\P δ2 h2):∃ δ2 h2,YP x (YQ k)=some (.nx δ2,h2)/\P δ2 h2:=by
 rw [e];exact kk
def syP {Q:Option (Fl×aA)->Prop} (kk:Q (k δ (.nx δ,h))):Q (YP x (YQ k)):=by
 rw [e];exact kk
end
theorem sq {α β:Type} {x:Option α} {f:α->Option β} {R:Option β} (a:α) (e:x=some a) (k:f a=R):x.bind f=R:=by
 rw [e];exact k
theorem zJ {α:Type} {x:Option α} {f:α->Option (Fl×aA)} {P:DSt->aA->Prop} (a:α) (e:x=some a) (k:∃ δ2 h2,f a=some (.nx δ2,h2)/\P δ2 h2):∃ δ2 h2,x.bind f=some (.nx δ2,h2)/\P δ2 h2:=by
 rw [e];exact k
def syE {Q:Option (Fl×aA)->Prop} {x:Option (Fl×aA)} {k:DSt->Fl×aA->Option (Fl×aA)} (J:DSt->aA->Prop) (e:∃ δ h,x=some (.nx δ,h)/\J δ h) (kk:∀ δ h,J δ h->Q (k δ (.nx δ,h))):Q (YP x (YQ k)):=by
 obtain ⟨δ,h,e,j⟩:=e;rw [e];exact kk δ h j
def syR {Q:Option (Fl×aA)->Prop} {x:Option (Fl×aA)} {k:DSt->Fl×aA->Option (Fl×aA)} (w:W) (h:aA) (e:x=some (.rt w,h)) (kk:Q (some (.rt w,h))):Q (YP x (YQ k)):=by
 rw [e];exact kk
def aO7 {H:aA} {j:Nat} {rs:List W} (e:wsC j H=some rs) {q:Nat} {w:W} (hq:rs[q]?=some w):xIx (.c j) (.d (.int q)) H=some (w,H):=by
 have hl:q < rs.length:=(List.getElem?_eq_some_iff.mp hq).1;unfold wsC at e;split at e
 ·rename_i xs ej;injection e with e
  subst e;rw [List.getElem?_map] at hq;cases ex:xs[q]? with
  | none=>rw [ex] at hq;cases hq
  | some y =>
   rw [ex] at hq;injection hq with hq
   subst hq;rw [kG ej,fV ex];rfl
 ·rename_i ws ej;injection e with e
  subst e;have:ref H (.c j)=none:=by simp [ref,ej]
  simp only [xIx,this,xIr,ej,fV hq,Option.map_some]
 ·cases e
def aZ3 {H:aA} {j:Nat} {rs:List W} (e:wsC j H=some rs) {q:Nat} (hq:q < rs.length) (x:PyData) (δ:DSt):∃ c,kX j (.int q) x δ H=some (δ,H.set j c)/\∀ G:aA,G[j]?=some c->wsC j G=some (rs.set q (.d x)):=by
 unfold wsC at e;have ik:∀ n,q < n->ixN n (q:Int)=some q:=fun n h=>by unfold ixN;rw [if_pos (by omega),if_pos (by omega)];rfl
 split at e
 ·rename_i xs ej;injection e with e
  subst e;refine ⟨.l (xs.set q x),?_,fun G eG=>?_⟩
  ·simp only [kX,ej,ik _ (by simpa using hq),Option.map_some]
  ·simp only [wsC,eG,List.map_set]
 ·rename_i ws ej;injection e with e
  subst e;refine ⟨.r (ws.set q (.d x)),?_,fun G eG=>?_⟩
  ·simp only [kX,ej,ik _ hq,Option.map_some]
  ·simp only [wsC,eG]
 ·cases e
def aZ4 {H:aA} {j:Nat} {rs:List W} (e:wsC j H=some rs) {q:Nat} (hq:q < rs.length) (i:Nat) (δ:DSt):∃ c,tU j (.int q) i δ H=some (δ,H.set j c)/\∀ G:aA,G[j]?=some c->wsC j G=some (rs.set q (.c i)):=by
 unfold wsC at e;have ik:∀ n,q < n->ixN n (q:Int)=some q:=fun n h=>by unfold ixN;rw [if_pos (by omega),if_pos (by omega)];rfl
 split at e
 ·rename_i xs ej;injection e with e
  subst e;refine ⟨.r ((xs.map .d).set q (.c i)),?_,fun G eG=>?_⟩
  ·simp only [tU,ej,ik _ (by simpa using hq),Option.map_some]
  ·simp only [wsC,eG]
 ·rename_i ws ej;injection e with e
  subst e;refine ⟨.r (ws.set q (.c i)),?_,fun G eG=>?_⟩
  ·simp only [tU,ej,ik _ hq,Option.map_some]
  ·simp only [wsC,eG]
 ·cases e
structure Rw where
 b:Nat
 c:SJ.Call
 t:Option SJ.Ans
def tD:Option SJ.Ans->PyData
 | some a=>a.dat
 | none=>.none
def Rw.dat (w:Rw):List PyData:=[.int w.b,w.c.dat,tD w.t]
noncomputable def rwW:Option (Nat×Rw)->W
 | none=>.d .none
 | some p=>.c p.1
structure Hs (n:Nat) (st:List Int) (rs:List (Option (Nat×Rw))) (ds:List Dd) (H:aA):Prop where
 sl:st.length=8
 s:H[n]?=some (.l (st.map .int))
 r:wsC (n+1) H=some (rs.map rwW)
 d:H[n+2]?=some (.l (ds.map Dd.dat))
 own:∀ (q i:Nat) (w:Rw),rs[q]?=some (some (i,w))->n+3<=i/\H[i]?=some (.l w.dat)
 inj:∀ (q q' i:Nat) (w w':Rw),rs[q]?=some (some (i,w))->rs[q']?=some (some (i,w'))->q=q'
def vC {H:aA} {j:Nat} {rs:List W} (e:wsC j H=some rs):j < H.length:=by
 unfold wsC at e;split at e
 ·rename_i xs ej;exact (List.getElem?_eq_some_iff.mp ej).1
 ·rename_i xs ej;exact (List.getElem?_eq_some_iff.mp ej).1
 ·cases e
def zK {H G:aA} {j:Nat} {rs:List W} (e:wsC j H=some rs) (k:G[j]?=H[j]?):wsC j G=some rs:=by
 rw [<- e];unfold wsC;rw [k]
variable {n:Nat} {st:List Int} {rs:List (Option (Nat×Rw))} {ds:List Dd} {H:aA}
def Hs.go (S:Hs n st rs ds H) {G:aA} (k:∀ i c,n<=i->H[i]?=some c->G[i]?=some c):Hs n st rs ds G:=by
 obtain ⟨h1,h2,h3,h4,h5,h6⟩:=S;refine ⟨h1,k _ _ (by omega) h2,zK h3 ?_,k _ _ (by omega) h4,fun q i w e=>⟨(h5 q i w e).1,k _ _ (by have:=(h5 q i w e).1;omega) (h5 q i w e).2⟩,h6⟩;have:=vC h3;rw [k (n+1) H[n+1] (by omega) (by simp [this])];simp [this]
def Hs.opn (S:Hs n st rs ds H) {q:Nat} (hq:q < rs.length) (w:Rw) {c:Cell} (hc:∀ G:aA,G[n+1]?=some c->wsC (n+1) G=some ((rs.map rwW).set q (.c H.length))):Hs n st (rs.set q (some (H.length,w))) ds ((H++[Cell.l w.dat]).set (n+1) c):=by
 obtain ⟨h1,h2,h3,h4,h5,h6⟩:=S;have hl:=vC h3;have hd:=(List.getElem?_eq_some_iff.mp h4).1;have oth:∀ i c',i≠n+1->H[i]?=some c'->((H++[Cell.l w.dat]).set (n+1) c)[i]?=some c':=fun i c' hi e=>by
  rw [List.getElem?_set_ne (fun z=>hi z.symm),List.getElem?_append_left (List.getElem?_eq_some_iff.mp e).1,e]
 refine ⟨h1,oth _ _ (by omega) h2,?_,oth _ _ (by omega) h4,fun q' i w' e=>?_,fun q1 q2 i w1 w2 e1 e2=>?_⟩
 ·rw [hc _ (by rw [List.getElem?_set_self (by simp;omega)]),List.map_set];rfl
 ·by_cases c1:q=q'
  ·subst c1;rw [List.getElem?_set_self hq] at e;injection e with e
   injection e with e
   injection e with e1 e2
   subst e1 e2;refine ⟨by omega,?_⟩;rw [List.getElem?_set_ne (by omega)];simp
  ·rw [List.getElem?_set_ne c1] at e;exact ⟨(h5 q' i w' e).1,oth _ _ (by have:=(h5 q' i w' e).1;omega) (h5 q' i w' e).2⟩
 ·have ol:∀ q' w',rs[q']?=some (some (H.length,w'))->False:=fun q' w' z=>by
   have:=(List.getElem?_eq_some_iff.mp (h5 _ _ _ z).2).1;omega
  by_cases c1:q=q1
  ·subst c1;rw [List.getElem?_set_self hq] at e1;injection e1 with e1
   injection e1 with e1
   injection e1 with e1 e1'
   subst e1
   by_cases c2:q=q2
   ·exact c2
   ·rw [List.getElem?_set_ne c2] at e2;exact (ol _ _ e2).elim
  ·rw [List.getElem?_set_ne c1] at e1
   by_cases c2:q=q2
   ·subst c2;rw [List.getElem?_set_self hq] at e2;injection e2 with e2
    injection e2 with e2
    injection e2 with e2 e2'
    subst e2;exact (ol _ _ e1).elim
   ·rw [List.getElem?_set_ne c2] at e2;exact h6 q1 q2 i w1 w2 e1 e2
def Hs.ans (S:Hs n st rs ds H) {q i:Nat} {w:Rw} (e:rs[q]?=some (some (i,w))) (t:Option SJ.Ans) {st':List Int} (hl:st'.length=8):Hs n st' (rs.set q (some (i,{ w with t:=t }))) ds ((H.set n (.l (st'.map .int))).set i (.l ({ w with t:=t }:Rw).dat)):=by
 obtain ⟨h1,h2,h3,h4,h5,h6⟩:=S;have hq:=(List.getElem?_eq_some_iff.mp e).1;have hn:=(List.getElem?_eq_some_iff.mp h2).1;obtain ⟨hi,hi'⟩:=h5 q i w e;have hil:=(List.getElem?_eq_some_iff.mp hi').1;have oth:∀ j c',j≠n->j≠i->H[j]?=some c'->((H.set n (.l (st'.map .int))).set i (.l ({ w with t:=t }:Rw).dat))[j]?=some c':=fun j c' z1 z2 e=>by
  rw [List.getElem?_set_ne (fun z=>z2 z.symm),List.getElem?_set_ne (fun z=>z1 z.symm),e]
 refine ⟨hl,?_,?_,oth _ _ (by omega) (by omega) h4,fun q' j w' e'=>?_,fun q1 q2 j w1 w2 e1 e2=>?_⟩
 ·rw [List.getElem?_set_ne (by omega),List.getElem?_set_self hn]
 ·rw [zK h3 (by rw [List.getElem?_set_ne (by omega),List.getElem?_set_ne (by omega)])]
  congr 1
  apply List.ext_getElem?;intro k;rw [List.getElem?_map,List.getElem?_map,List.getElem?_set];split
  ·rename_i z;subst z;simp [hq,rwW];have:=(List.getElem?_eq_some_iff.mp e).2;rw [this]
  ·rfl
 ·by_cases c1:q=q'
  ·subst c1;rw [List.getElem?_set_self hq] at e';injection e' with e'
   injection e' with e'
   injection e' with e1 e2
   subst e1 e2;exact ⟨hi,List.getElem?_set_self (by simpa using hil)⟩
  ·rw [List.getElem?_set_ne c1] at e';have ne:j≠i:=fun z=>by
    subst z;exact c1 (h6 q q' _ _ _ e e')
   exact ⟨(h5 q' j w' e').1,oth _ _ (by have:=(h5 q' j w' e').1;omega) ne (h5 q' j w' e').2⟩
 ·by_cases c1:q=q1
  ·subst c1;rw [List.getElem?_set_self hq] at e1;injection e1 with e1
   injection e1 with e1
   injection e1 with e1 e1'
   subst e1
   by_cases c2:q=q2
   ·exact c2
   ·rw [List.getElem?_set_ne c2] at e2;exact (h6 q q2 _ _ _ e e2)
  ·rw [List.getElem?_set_ne c1] at e1
   by_cases c2:q=q2
   ·subst c2;rw [List.getElem?_set_self hq] at e2;injection e2 with e2
    injection e2 with e2
    injection e2 with e2 e2'
    subst e2;exact (h6 q1 q _ _ _ e1 e)
   ·rw [List.getElem?_set_ne c2] at e2;exact h6 q1 q2 j w1 w2 e1 e2
def Hs.cls (S:Hs n st rs ds H) {q:Nat} {c:Cell} (hc:∀ G:aA,G[n+1]?=some c->wsC (n+1) G=some ((rs.map rwW).set q (.d .none))):Hs n st (rs.set q none) ds (H.set (n+1) c):=by
 obtain ⟨h1,h2,h3,h4,h5,h6⟩:=S;have hl:=vC h3;have oth:∀ i c',i≠n+1->H[i]?=some c'->(H.set (n+1) c)[i]?=some c':=fun i c' hi e=>by
  rw [List.getElem?_set_ne (fun z=>hi z.symm),e]
 have un:∀ q' i w,(rs.set q none)[q']?=some (some (i,w))->rs[q']?=some (some (i,w)):=fun q' i w z=>by
  rw [List.getElem?_set] at z;split at z
  ·split at z<;>cases z
  ·exact z
 refine ⟨h1,oth _ _ (by omega) h2,?_,oth _ _ (by omega) h4,fun q' i w' e=>?_,fun q1 q2 i w1 w2 e1 e2=>h6 q1 q2 i w1 w2 (un _ _ _ e1) (un _ _ _ e2)⟩
 ·rw [hc _ (by rw [List.getElem?_set_self (by omega)]),List.map_set];rfl
 ·have e:=un _ _ _ e;exact ⟨(h5 q' i w' e).1,oth _ _ (by have:=(h5 q' i w' e).1;omega) (h5 q' i w' e).2⟩
end K45

namespace K45
open PySem PySem.Spec PyProof.Rows L2 DL CI SJ
variable {n:Nat} {st:List Int} {rs:List (Option (Nat×Rw))} {ds:List Dd} {H:aA}
set_option genInjectivity true in
inductive Mvd (q k:Nat) (rs:List (Option (Nat×Rw))):PyData->List (Option (Nat×Rw))->Prop where
 | opn (i:Nat) (c:SJ.Call) (h:rs[q]?=some none) (hc:c.ok):Mvd q k rs .none (rs.set q (some (i,⟨k,c,none⟩)))
 | ans (i:Nat) (w:Rw) (a:SJ.Ans) (h:rs[q]?=some (some (i,w))) (ha:Ans.fits w.c a):Mvd q k rs .none (rs.set q (some (i,{ w with t:=some a })))
 | cls (i:Nat) (w:Rw) (a:Option SJ.Ans) (h:rs[q]?=some (some (i,w))) (ha:∀ b,a=some b->Ans.fits w.c b):Mvd q k rs (Dd.mk q w.b w.c (some (k,a))).dat (rs.set q none)
def cA7 (rs:List (Option (Nat×Rw))):Prop:=∀ (q i:Nat) (w:Rw),rs[q]?=some (some (i,w))->w.c.ok/\∀ a,w.t=some a->Ans.fits w.c a
def MQ (q k n:Nat) (ds:List Dd) (rs:List (Option (Nat×Rw))) (H:aA) (x:Option (Fl×aA)):Prop:=∃ v H' st' rs',x.bind jE=some (.d v,H')/\Hs n st' rs' ds H'/\Mvd q k rs v rs'/\(∀ i,i < n->H'[i]?=H[i]?)/\rs'.length=rs.length
noncomputable def dM (n q:Nat) (c:Int) (k:Nat) (x5 x6 x7:Option W):DSt:=[some (.c (n+1)),some (.d (.int q)),some (.c n),some (.d (.int c)),some (.d (.int k)),x5,x6,x7]
@[simp] theorem cT3 (i:Nat):xIs (.c i) (.d .none)=some false:=rfl
@[simp] theorem cA8 (a:SJ.Ans):xIs (.d a.dat) (.d .none)=some false:=by
 cases a with
 | one a=>cases a<;>rfl
 | all ns=>rfl
 | each as=>rfl
def aZ5 (d:Nat) (S:Hs n st rs ds H) (ro:cA7 rs) {q:Nat} (hq:q < rs.length) (c:Int) (k:Nat):∃ v H' st' rs',callW T (d+4) "_law_moved" [.c (n+1),.d (.int q),.c n,.d (.int c),.d (.int k)] H=some (.d v,H')/\Hs n st' rs' ds H'/\Mvd q k rs v rs'/\(∀ i,i < n->H'[i]?=H[i]?)/\rs'.length=rs.length:=by
 obtain ⟨o,ho⟩:∃ o,rs[q]?=some o:=⟨rs[q],by simp [hq]⟩;have hx:(rs.map rwW)[q]?=some (rwW o):=by rw [List.getElem?_map,ho];rfl
 have hqm:q < (rs.map rwW).length:=by simpa using hq
 have ix:=aO7 S.r hx;have hn1:=vC S.r;have dw:=iS (d+2) H c k;obtain ⟨m,hm⟩:∃ m,m=dwF c k:=⟨_,rfl⟩;rw [<- hm] at dw;have e11:cP 11=true:=by decide
 rw [show d+4=(d+3)+1 from rfl,pY];show MQ q k n ds rs H _;refine syP (dM n q c k (some (rwW o)) none none) H (by simp [dM,ix]) ?_;refine syP (dM n q c k (some (rwW o)) (some (.d (.int m))) none) H (by simp [dM,dw]) ?_;cases o with
 | none =>
  have cl:=aO0 (d+1) H c (k+1);obtain ⟨cc,hcc⟩:∃ cc,cc=clF c (k+1):=⟨_,rfl⟩;have hco:cc.ok:=by rw [hcc];exact bF8 _ _
  rw [<- hcc] at cl;have r':wsC (n+1) (H++[Cell.l (Rw.dat ⟨k,cc,none⟩)])=some (rs.map rwW):=zK S.r (by rw [List.getElem?_append_left hn1]);obtain ⟨cel,e1,e2⟩:=aZ4 r' hqm H.length (dM n q c k (some (.d .none)) (some (.d (.int m))) none);simp only [Rw.dat,tD,dM] at e1;refine syR (.d .none) ((H++[Cell.l (Rw.dat ⟨k,cc,none⟩)]).set (n+1) cel) (by simp [dM,rwW,cl,szl,e1,Rw.dat,tD]) ?_;refine ⟨.none,_,st,_,rfl,S.opn hq _ e2,.opn _ _ ho hco,fun i hi=>?_,by simp⟩;rw [List.getElem?_set_ne (by omega),List.getElem?_append_left (by omega)]
 | some p =>
  obtain ⟨i,w⟩:=p;obtain ⟨hi,hi'⟩:=S.own q i w ho;obtain ⟨wc,wt⟩:=ro q i w ho;have hil:=(List.getElem?_eq_some_iff.mp hi').1;have i0:∀ G:aA,G[i]?=some (.l w.dat)->xIx (.c i) (.d (.int 0)) G=some (.d (.int w.b),G):=fun G e=>by rw [kG e];simp [Rw.dat]
  have i1:∀ G:aA,G[i]?=some (.l w.dat)->xIx (.c i) (.d (.int 1)) G=some (.d w.c.dat,G):=fun G e=>by rw [kG e];simp [Rw.dat]
  have i2:∀ G:aA,G[i]?=some (.l w.dat)->xIx (.c i) (.d (.int 2)) G=some (.d (tD w.t),G):=fun G e=>by rw [kG e];simp [Rw.dat]
  have go:w.t.isNone=true/\0 < m%9\/¬ (w.t.isNone=true/\0 < m%9):=Classical.em _;rcases go with ⟨g1,g2⟩ | g
  ·obtain ⟨wb,wcc,wt'⟩:=w;cases wt' with
   | some a=>cases g1
   | none =>
   have dn:=aO4 (d+1) S.s S.sl wc;have hdn:(H.set n (.l ((dnC st wcc).2.map .int)))[i]?=some (.l (Rw.dat ⟨wb,wcc,none⟩)):=by rw [List.getElem?_set_ne (by omega)];exact hi'
   have hp:kX i (.int 2) (dnC st wcc).1.dat (dM n q c k (some (.c i)) (some (.d (.int m))) none) (H.set n (.l ((dnC st wcc).2.map .int)))=some (dM n q c k (some (.c i)) (some (.d (.int m))) none,(H.set n (.l ((dnC st wcc).2.map .int))).set i (.l (Rw.dat ⟨wb,wcc,some (dnC st wcc).1⟩))):=cA6 hdn (k:=2) (by simp [Rw.dat]) _ _;simp only [dM] at hp;dsimp only at i0 i1 i2 wc;obtain ⟨an,han⟩:∃ an,an=(dnC st wcc).1:=⟨_,rfl⟩;have i2':=i2 H hi';have i1':=i1 H hi';refine syP (dM n q c k (some (.c i)) (some (.d (.int m))) none) H (by simp [dM,rwW]) ?_;refine syR (.d .none) _ (by simp [dM,i2',i1',tD,g2,dn,hp,-rW];rfl) ?_;refine ⟨.none,_,_,_,rfl,S.ans ho (some (dnC st wcc).1) (zG S.sl),.ans i _ _ ho (vA wc S.sl),fun j hj=>?_,by simp⟩;rw [List.getElem?_set_ne (by omega),List.getElem?_set_ne (by omega)]
  ·obtain ⟨cel,e1,e2⟩:=aZ3 S.r hqm .none (dM n q c k (some (.c i)) (some (.d (.int m))) none);simp only [dM] at e1;have i2':=i2 H hi';have hG:(H.set (n+1) cel)[i]?=some (.l w.dat):=by rw [List.getElem?_set_ne (by omega)];exact hi'
   have j0:=i0 _ hG;have j1:=i1 _ hG;have j2:=i2 _ hG;refine syP (dM n q c k (some (.c i)) (some (.d (.int m))) none) H (by simp [dM,rwW]) ?_;refine syP (dM n q c k (some (.c i)) (some (.d (.int m))) none) H ?_ ?_
   ·cases z:w.t with
    | some a=>rw [z] at i2';simp [dM,i2',tD]
    | none =>
     rw [z] at i2' g;have:¬ 0 < m%9:=fun z=>g ⟨rfl,z⟩;simp [dM,i2',tD,this]
   refine syP (dM n q c k (some (.c i)) (some (.d (.int m))) none) (H.set (n+1) cel) (by simp [dM,e1,-rW]) ?_;refine syP (dM n q c k (some (.c i)) (some (.d (.int m))) (some (.d (tD w.t)))) (H.set (n+1) cel) (by simp [dM,j2]) ?_;obtain ⟨a,ha,ea⟩:∃ a:Option SJ.Ans,(∀ b,a=some b->Ans.fits w.c b)/\∀ δ,δ=dM n q c k (some (.c i)) (some (.d (.int m))) (some (.d (tD w.t)))->YP (xC1 CmpOp.Is (aB 7) (YZ) δ (H.set (n+1) cel)) (fun p =>
        if p.1=true then
        YP (aQ 7 (xb (xPl (Y1 (YS "refused"))) YT) δ p.2) YE
        else
        YP
         (YP (xC1 CmpOp.Eq (xb (aB 6) (YB .Mod 11)) (YJ 0) δ p.2) fun p =>
         if p.1=true then
          YP (aQ 7 (xb (Y2 (aB 7) (xb (aB 6) (YB .FloorDiv 11))) (YF false (d+3) "_law_bent")) δ p.2) YE
         else some (Fl.nx δ,p.2))
         YE)=some (.nx (dM n q c k (some (.c i)) (some (.d (.int m))) (some (.d (anD a)))),H.set (n+1) cel):=by
    cases z:w.t with
    | none=>exact ⟨none,(fun _ z=>nomatch z),fun δ hδ=>by subst hδ;simp [dM,tD,anD,aD4,szl]⟩
    | some b =>
     obtain ⟨b',f1,f2⟩:=aO6 (d+1) (H.set (n+1) cel) wc (wt b z) (m / 11);have f2:aE T (d+3) (Str.ofString "_law_bent") [.d b.dat,.d (.int (m / 11))] (H.set (n+1) cel)=some (b'.dat,H.set (n+1) cel):=f2
     by_cases y:m%11=0
     ·exact ⟨some b',fun _ e=>by injection e with e;subst e;exact f1,fun δ hδ=>by subst hδ;simp [dM,tD,anD,y,e11,f2]⟩
     ·exact ⟨some b,fun _ e=>by injection e with e;subst e;exact wt b z,fun δ hδ=>by subst hδ;simp [dM,tD,anD,y]⟩
   refine syP _ _ (ea _ rfl) ?_;have eR:(Dd.mk q w.b w.c (some (k,a))).dat=.tuple [.int q,.int w.b,.int k,w.c.dat,anD a]:=rfl;refine ⟨(Dd.mk q w.b w.c (some (k,a))).dat,H.set (n+1) cel,st,_,?_,S.cls e2,.cls i w a ho ha,fun j hj=>List.getElem?_set_ne (by omega),by simp⟩;rw [eR];simp [dM,j0,j1,szl]
end K45

namespace K45
open PySem PySem.Spec PyProof.Rows L2 DL CI SJ
structure Tm (k:Nat) (rs:List (Option (Nat×Rw))) (ds:List Dd):Prop where
 ok:∀ x∈ds,x.ok
 pw:ds.Pairwise Tog
 lt:∀ x∈ds,∃ p,x.fin=some p/\x.beg < k/\p.1 < k
 ro:cA7 rs
 rb:∀ (q i:Nat) (w:Rw),rs[q]?=some (some (i,w))->w.b < k/\∀ x∈ds,(w.b:Int)∉x.tms/\(x.hand=q->x.below w.b=true)
 rd:∀ (q q' i i':Nat) (w w':Rw),rs[q]?=some (some (i,w))->rs[q']?=some (some (i',w'))->q≠q'->w.b≠w'.b
variable {k:Nat} {rs:List (Option (Nat×Rw))} {ds:List Dd}
def Tm.tl (t:Tm k rs ds) {x:Dd} (hx:x∈ds):∀ z∈x.tms,z < (k:Int):=by
 obtain ⟨p,h1,h2,h3⟩:=t.lt x hx;intro z hz;simp only [Dd.tms,h1,List.mem_cons,List.not_mem_nil,or_false] at hz;omega
def Tm.keep (t:Tm k rs ds):Tm (k+1) rs ds:=⟨t.ok,t.pw,fun x hx=>by
 obtain ⟨p,h1,h2,h3⟩:=t.lt x hx;exact ⟨p,h1,by omega,by omega⟩,t.ro,fun q i w e=>⟨by have:=(t.rb q i w e).1;omega,(t.rb q i w e).2⟩,t.rd⟩
def set_some {q q':Nat} {o:Option (Nat×Rw)} {v:Option (Nat×Rw)} (e:(rs.set q o)[q']?=some v):(q=q'/\v=o)\/(q≠q'/\rs[q']?=some v):=by
 rw [List.getElem?_set] at e;split at e
 ·rename_i z;split at e
  ·injection e with e
   exact .inl ⟨z,e.symm⟩
  ·cases e
 ·rename_i z;exact .inr ⟨z,e⟩
def Tm.opn (t:Tm k rs ds) {q:Nat} (i:Nat) {c:SJ.Call} (hc:c.ok):Tm (k+1) (rs.set q (some (i,⟨k,c,none⟩))) ds:=by
 have t1:=t.keep;refine ⟨t.ok,t.pw,t1.lt,fun q' i' w e=>?_,fun q' i' w e=>?_,fun q1 q2 i1 i2 w1 w2 e1 e2 hn=>?_⟩
 ·rcases set_some e with ⟨_,e⟩ | ⟨_,e⟩
  ·injection e with e
   injection e with e1 e2
   subst e2;exact ⟨hc,fun _ z=>nomatch z⟩
  ·exact t.ro q' i' w e
 ·rcases set_some e with ⟨_,e⟩ | ⟨_,e⟩
  ·injection e with e
   injection e with e1 e2
   subst e2;refine ⟨Nat.lt_succ_self k,fun x hx=>⟨fun z=>?_,fun _=>?_⟩⟩
   ·have:=t.tl hx _ z;dsimp only at this;omega
   ·obtain ⟨p,h1,h2,h3⟩:=t.lt x hx;simp [Dd.below,h1,h3]
  ·exact t1.rb q' i' w e
 ·rcases set_some e1 with ⟨f1,e1⟩ | ⟨f1,e1⟩
  ·injection e1 with e1
   injection e1 with e1 e1'
   subst e1';rcases set_some e2 with ⟨f2,e2⟩ | ⟨f2,e2⟩
   ·omega
   ·have:=(t.rb _ _ _ e2).1;dsimp only;omega
  ·rcases set_some e2 with ⟨f2,e2⟩ | ⟨f2,e2⟩
   ·injection e2 with e2
    injection e2 with e2 e2'
    subst e2';have:=(t.rb _ _ _ e1).1;dsimp only;omega
   ·exact t.rd _ _ _ _ _ _ e1 e2 hn
def Tm.ans (t:Tm k rs ds) {q i:Nat} {w:Rw} (e:rs[q]?=some (some (i,w))) {a:SJ.Ans} (ha:Ans.fits w.c a):Tm (k+1) (rs.set q (some (i,{ w with t:=some a }))) ds:=by
 have t1:=t.keep;refine ⟨t.ok,t.pw,t1.lt,fun q' i' w' e'=>?_,fun q' i' w' e'=>?_,fun q1 q2 i1 i2 w1 w2 e1 e2 hn=>?_⟩
 ·rcases set_some e' with ⟨_,e'⟩ | ⟨_,e'⟩
  ·injection e' with e'
   injection e' with e1 e2
   subst e2;exact ⟨(t.ro q i w e).1,fun b z=>by injection z with z;subst z;exact ha⟩
  ·exact t.ro q' i' w' e'
 ·rcases set_some e' with ⟨f,e'⟩ | ⟨_,e'⟩
  ·injection e' with e'
   injection e' with e1 e2
   subst e2;subst f;exact t1.rb q i w e
  ·exact t1.rb q' i' w' e'
 ·rcases set_some e1 with ⟨f1,e1⟩ | ⟨f1,e1⟩
  ·injection e1 with e1
   injection e1 with e1 e1'
   subst e1';subst f1;rcases set_some e2 with ⟨f2,e2⟩ | ⟨f2,e2⟩
   ·omega
   ·have z:=t.rd _ _ _ _ _ _ e e2 hn;exact z
  ·rcases set_some e2 with ⟨f2,e2⟩ | ⟨f2,e2⟩
   ·injection e2 with e2
    injection e2 with e2 e2'
    subst e2';subst f2;have z:=t.rd _ _ _ _ _ _ e1 e hn;exact z
   ·exact t.rd _ _ _ _ _ _ e1 e2 hn
theorem sM {ds:List Dd} (h:ds.Pairwise Tog) {y:Dd} (hy:∀ x∈ds,Tog x y):(ds++[y]).Pairwise Tog:=by
 rw [List.pairwise_append];exact ⟨h,List.pairwise_singleton _ _,fun x hx z hz=>by rw [List.mem_singleton.mp hz];exact hy x hx⟩
def Tm.cls (t:Tm k rs ds) {q i:Nat} (hq:q<=5) {w:Rw} (e:rs[q]?=some (some (i,w))) {a:Option SJ.Ans} (ha:∀ b,a=some b->Ans.fits w.c b):Tm (k+1) (rs.set q none) (ds++[Dd.mk q w.b w.c (some (k,a))]):=by
 have t1:=t.keep;obtain ⟨b1,b2⟩:=t.rb q i w e;have un:∀ q' i' w',(rs.set q none)[q']?=some (some (i',w'))->q≠q'/\rs[q']?=some (some (i',w')):=fun q' i' w' z=>by
  rcases set_some z with ⟨_,z⟩ | z
  ·cases z
  ·exact z
 refine ⟨fun x hx=>?_,sM t.pw fun x hx=>⟨fun z z1 z2=>?_,?_⟩,fun x hx=>?_,fun q' i' w' e'=>t.ro q' i' w' (un _ _ _ e').2,fun q' i' w' e'=>?_,fun q1 q2 i1 i2 w1 w2 e1 e2 hn=>t.rd _ _ _ _ _ _ (un _ _ _ e1).2 (un _ _ _ e2).2 hn⟩
 ·rcases List.mem_append.mp hx with hx | hx
  ·exact t.ok x hx
  ·rw [List.mem_singleton.mp hx];exact ⟨hq,(t.ro q i w e).1,fun p z=>by injection z with z;subst z;exact ⟨b1,ha⟩⟩
 ·have:=t.tl hx z z1;simp only [Dd.tms,List.mem_cons,List.not_mem_nil,or_false] at z2;rcases z2 with z2 | z2
  ·subst z2;exact (b2 x hx).1 z1
  ·omega
 ·by_cases c:x.hand=q
  ·exact .inr (.inl ((b2 x hx).2 c))
  ·exact .inl c
 ·rcases List.mem_append.mp hx with hx | hx
  ·exact t1.lt x hx
  ·rw [List.mem_singleton.mp hx];exact ⟨_,rfl,Nat.lt_succ_of_lt b1,Nat.lt_succ_self k⟩
 ·obtain ⟨u1,u2⟩:=un _ _ _ e';obtain ⟨c1,c2⟩:=t1.rb q' i' w' u2;refine ⟨c1,fun x hx=>?_⟩;rcases List.mem_append.mp hx with hx | hx
  ·exact c2 x hx
  ·rw [List.mem_singleton.mp hx];refine ⟨fun z=>?_,fun z=>absurd z u1⟩;simp only [Dd.tms,List.mem_cons,List.not_mem_nil,or_false] at z;have n1:=t.rd _ _ _ _ _ _ e u2 u1;have n2:=(t.rb _ _ _ u2).1;omega
noncomputable def cnt (rs:List (Option (Nat×Rw))):Nat:=rs.countP Option.isSome
def sN {q:Nat} {o:Option (Nat×Rw)} (e:rs[q]?=some o) (v:Option (Nat×Rw)):cnt (rs.set q v)+(if o.isSome=true then 1 else 0)=cnt rs+(if v.isSome=true then 1 else 0):=by
 have hq:=(List.getElem?_eq_some_iff.mp e).1;have ev:=(List.getElem?_eq_some_iff.mp e).2;unfold cnt;rw [List.countP_set hq,ev];have:(if o.isSome=true then 1 else 0)<=rs.countP Option.isSome:=by
  split
  ·rename_i z;exact List.countP_pos_iff.mpr ⟨o,by rw [<- ev];exact List.getElem_mem hq,z⟩
  ·exact Nat.zero_le _
 omega
def Tm.step (t:Tm k rs ds) {q:Nat} (hq:q<=5) {v:PyData} {rs':List (Option (Nat×Rw))} (m:Mvd q k rs v rs') {most:Nat} (hc:ds.length+cnt rs<=most) (hb:(∃ p,rs[q]?=some (some p))\/ds.length+cnt rs < most) :
  (v=.none/\Tm (k+1) rs' ds/\ds.length+cnt rs'<=most)\/∃ x:Dd,v=x.dat/\Tm (k+1) rs' (ds++[x])/\(ds++[x]).length+cnt rs'<=most:=by
 cases m with
 | opn i c h hc' =>
  refine .inl ⟨rfl,t.opn i hc',?_⟩;have:=sN h (some (i,⟨k,c,none⟩));simp at this;rcases hb with ⟨p,hb⟩ | hb
  ·rw [h] at hb;cases hb
  ·omega
 | ans i w a h ha =>
  refine .inl ⟨rfl,t.ans h ha,?_⟩;have:=sN h (some (i,{ w with t:=some a }));simp at this;omega
 | cls i w a h ha =>
  refine .inr ⟨_,rfl,t.cls hq h ha,?_⟩;have:=sN h none;simp at this;simp;omega
end K45

namespace K45
open PySem PySem.Spec PyProof.Rows L2 DL CI SJ
def vD (o:Option (Nat×Rw)):weq (rwW o) (rwW o)=true:=by
 cases o with
 | none=>rfl
 | some p=>simp [rwW,weq]
theorem zL:∀ rs:List (Option (Nat×Rw)),aA7 (rs.map rwW) (rs.map rwW)=true
 | []=>rfl
 | o::r=>by rw [List.map_cons,aA7,vD,zL r];rfl
theorem qW {α:Type} {g:XG} {tt:XR Bool} {te:XR W} {co:aA->Bool} {h:aA} (F:α->W) (p:α->Bool) (I:DSt->Prop) (hc:co h=true):∀ (qs:List α) (δ:DSt) (ac:List W),I δ ->
  (∀ q∈qs,∀ δ,I δ->∃ δ',g (F q) δ h=some (δ',h)/\I δ'/\tt δ' h=some (p q,h)/\te δ' h=some (F q,h))->fJ g tt te co (qs.map F) δ h ac=some (ac++(qs.filter p).map F,h)
 | [],δ,ac,_,_=>by simp [fJ,hc]
 | q::r,δ,ac,i,hx=>by
  obtain ⟨δ',e1,i',e2,e3⟩:=hx q List.mem_cons_self δ i;have ih:=fun ac=>qW F p I hc r δ' ac i' fun y hy=>hx y (List.mem_cons_of_mem _ hy);rw [List.map_cons,fJ,if_pos hc,e1];simp only [CI.bs,e2];cases hp:p q with
  | true=>rw [if_pos rfl,e3];simp only [CI.bs];rw [ih];simp [hp]
  | false=>rw [if_neg (by simp)];rw [ih];simp [hp]
noncomputable def dL (S:List Int) (f most hands n:Nat) (x5 x8 x9 x10 x11:Option W):DSt:=[some (.d (.list (S.map .int))),some (.d (.int f)),some (.d (.int most)),some (.d (.int hands)),some (.c n),x5,some (.c (n+1)),some (.c (n+2)),x8,x9,x10,x11]
def IL (S:List Int) (f most hands:Nat) (h:aA) (k:Nat) (δ:DSt) (H:aA):Prop:=∃ st rs ds,Hs h.length st rs ds H/\Tm k rs ds/\rs.length=hands/\ds.length+cnt rs<=most/\(∀ i,i < h.length->H[i]?=h[i]?)/\∃ x5 x8 x9 x10 x11,δ=dL S f most hands h.length x5 x8 x9 x10 x11
def Hs.app {n:Nat} {st:List Int} {rs:List (Option (Nat×Rw))} {ds:List Dd} {H:aA} (S:Hs n st rs ds H) (x:Dd):Hs n st rs (ds++[x]) (H.set (n+2) (.l ((ds++[x]).map Dd.dat))):=by
 obtain ⟨h1,h2,h3,h4,h5,h6⟩:=S;have hd:=(List.getElem?_eq_some_iff.mp h4).1;have oth:∀ i c',i≠n+2->H[i]?=some c'->(H.set (n+2) (.l ((ds++[x]).map Dd.dat)))[i]?=some c':=fun i c' hi e=>by
  rw [List.getElem?_set_ne (fun z=>hi z.symm),e]
 exact ⟨h1,oth _ _ (by omega) h2,zK h3 (List.getElem?_set_ne (by omega)),List.getElem?_set_self hd,fun q i w e=>⟨(h5 q i w e).1,oth _ _ (by have:=(h5 q i w e).1;omega) (h5 q i w e).2⟩,h6⟩
def aO8 {n:Nat} {st:List Int} {rs:List (Option (Nat×Rw))} {ds:List Dd} {H:aA} (S:Hs n st rs ds H) (hl:ds.length<=100) (x:PyData):jT "append" (.c (n+2)) H=true/\tT (.c (n+2)) [.d x] H=some (.d .none,H.set (n+2) (.l (ds.map Dd.dat++[x]))):=by
 have h4:=S.d;have:ds.length < 16777216:=by omega
 exact ⟨by simp [jT,h4],by simp [h4,szl,this]⟩
def ypE {α:Type} {x:Option α} {f:α->Option (Fl×aA)} {g:Fl×aA->Option (Fl×aA)} {P:DSt->aA->Prop} (a:α) (e:x=some a) (k:∃ δ2 h2,YP (f a) g=some (.nx δ2,h2)/\P δ2 h2):∃ δ2 h2,YP (YP x f) g=some (.nx δ2,h2)/\P δ2 h2:=by
 rw [e];exact k
def aZ6 (d:Nat) (S:List Int) {f most hands:Nat} (h:aA) (hm:most<=100) (h0:0 < hands) (h6:hands<=6) {k:Nat} (hk:k < S.length) (x5 x8 x9 x10 x11:Option W) {st:List Int} {rs:List (Option (Nat×Rw))} {ds:List Dd} {H:aA}
  (hs:Hs h.length st rs ds H) (tm:Tm k rs ds) (hl:rs.length=hands) (hc:ds.length+cnt rs<=most) (hb:∀ i,i < h.length->H[i]?=h[i]?) :
  ∃ δ2 h2,bZ (d+4) (dL S f most hands h.length x5 (some (.d (.int k))) x9 x10 x11) H=some (.nx δ2,h2)/\IL S f most hands h (k+1) δ2 h2:=by
 have dw:=iS (d+3) H (S.getD k 0) 0;have ik:=iQ hk;have hp:(0:Int) < hands:=by omega
 obtain ⟨q,hq,eq⟩:∃ q:Nat,q < hands/\dwF (S.getD k 0) 0%(hands:Int)=q:=by
  have a1:=Int.emod_nonneg (dwF (S.getD k 0) 0) (b:=(hands:Int)) (by omega);have a2:=Int.emod_lt_of_pos (dwF (S.getD k 0) 0) (b:=(hands:Int)) (by omega);exact ⟨(dwF (S.getD k 0) 0%(hands:Int)).toNat,by omega,by omega⟩
 obtain ⟨o,ho⟩:∃ o,rs[q]?=some o:=⟨rs[q]'(by omega),by simp [hl,hq]⟩;have hx:(rs.map rwW)[q]?=some (rwW o):=by rw [List.getElem?_map,ho];rfl
 obtain ⟨cv,hcv⟩:∃ cv,cv=S.getD k 0:=⟨_,rfl⟩;rw [<- hcv] at dw ik eq;obtain ⟨sd,esd⟩:∃ sd,sd=PyData.list (S.map .int):=⟨_,rfl⟩;have ikx:∀ H,xIx (.d sd) (.d (.int k)) H=some (.d (.int cv),H):=fun H=>by rw [esd];simp [ik]
 have eD:∀ x5 x8 x9 x10 x11,dL S f most hands h.length x5 x8 x9 x10 x11=[some (.d sd),some (.d (.int f)),some (.d (.int most)),some (.d (.int hands)),some (.c h.length),x5,some (.c (h.length+1)),some (.c (h.length+2)),x8,x9,x10,x11]:=fun x5 x8 x9 x10 x11=>by rw [esd];rfl
 have hp':0 < hands:=h0;unfold bZ;refine sys (dL S f most hands h.length (some (.d (.int q))) (some (.d (.int k))) x9 x10 x11) H (by simp [eD,ikx,dw,hp',eq]) ?_
 -- how many have begun
 have hn1:=vC hs.r;obtain ⟨H1,hH1⟩:∃ H1,H1=H++[Cell.r ((rs.filter Option.isSome).map rwW)]:=⟨_,rfl⟩;have g1:∀ i c,H[i]?=some c->H1[i]?=some c:=fun i c e=>by rw [hH1,List.getElem?_append_left (List.getElem?_eq_some_iff.mp e).1,e]
 have hs1:Hs h.length st rs ds H1:=hs.go fun i c _ e=>g1 i c e;have hb1:∀ i,i < h.length->H1[i]?=h[i]?:=fun i hi=>by rw [hH1,List.getElem?_append_left (by omega)];exact hb i hi
 have cw:fJ (YG 0) (xC1 CmpOp.IsNot (aB 0) (YZ)) (aB 0) (coW (h.length+1) (rs.map rwW)) (rs.map rwW) [none] H []=some ((rs.filter Option.isSome).map rwW,H):=by
  rw [qW rwW Option.isSome (fun δ=>∃ u,δ=[u]) (by simp [coW,hs.r,zL]) rs [none] [] ⟨_,rfl⟩ fun o _ δ hδ=>?_]
  ·rfl
  ·obtain ⟨u,rfl⟩:=hδ;cases o with
   | none=>exact ⟨[some (.d .none)],by simp [rwW],⟨_,rfl⟩,by simp,by simp [rwW]⟩
   | some p=>exact ⟨[some (.c p.1)],by simp [rwW],⟨_,rfl⟩,by simp,by simp [rwW]⟩
 have l1:bJ [.c (h.length+2)] H=some (.d (.int ds.length),H):=by
  have h4:=hs.d;simp [bJ,ref,h4]
 have l2:bJ [.c H.length] H1=some (.d (.int (cnt rs)),H1):=by
  have:H1[H.length]?=some (.r ((rs.filter Option.isSome).map rwW)):=by rw [hH1];simp
  simp [bJ,ref,this,bI2,cnt,List.countP_eq_length_filter]
 simp only [iA,mS] at cw;refine sys (dL S f most hands h.length (some (.d (.int q))) (some (.d (.int k))) (some (.d (.int (ds.length+cnt rs)))) x10 x11) H1 (by
  simp [eD,l1,hs.r,cw,<- hH1,l2]) ?_
 have ix1:=aO7 hs1.r hx;obtain ⟨v,H2,st',rs',mv,hs2,m2,hb2,hl2⟩:=aZ5 d hs1 tm.ro (by omega:q < rs.length) cv k;have hb3:∀ i,i < h.length->H2[i]?=h[i]?:=fun i hi=>by rw [hb2 i hi];exact hb1 i hi
 have go:(∃ p,o=some p)\/ds.length+cnt rs < most\/(o=none/\¬ ds.length+cnt rs < most):=by
  cases o with
  | some p=>exact .inl ⟨p,rfl⟩
  | none =>
   by_cases z:ds.length+cnt rs < most
   ·exact .inr (.inl z)
   ·exact .inr (.inr ⟨rfl,z⟩)
 have mv:callW T (d+4) (Str.ofString "_law_moved") [.c (h.length+1),.d (.int q),.c h.length,.d (.int cv),.d (.int k)] H1=some (.d v,H2):=mv;have ok1:(∃ p,o=some p)\/ds.length+cnt rs < most->xb (xC1 CmpOp.IsNot (xb (aB 6) fun x=>xb (aB 5) (YX x)) (YZ)) (fun c=>if c=true then aD true else xC1 CmpOp.Lt (aB 9) (aB 2)) (dL S f most hands h.length (some (.d (.int q))) (some (.d (.int k))) (some (.d (.int (ds.length+cnt rs)))) x10 x11) H1=some (true,H1):=by
  rintro (⟨p,rfl⟩ | z)
  ·simp [eD,ix1,rwW]
  ·cases o with
   | some p=>simp [eD,ix1,rwW]
   | none =>
    have z':(ds.length:Int)+cnt rs < most:=by omega
    simp [eD,ix1,rwW,z']
 by_cases c1:(∃ p,o=some p)\/ds.length+cnt rs < most
 ·have ok2:=ok1 c1;have hb':(∃ p,rs[q]?=some (some p))\/ds.length+cnt rs < most:=by
   rcases c1 with ⟨p,rfl⟩ | c1
   ·exact .inl ⟨p,ho⟩
   ·exact .inr c1
  refine ypE (true,H1) ok2 ?_;rcases tm.step (by omega:q<=5) m2 hc hb' with ⟨rfl,t2,c2⟩ | ⟨x,rfl,t2,c2⟩
  ·refine ⟨dL S f most hands h.length (some (.d (.int q))) (some (.d (.int k))) (some (.d (.int (ds.length+cnt rs)))) (some (.d .none)) x11,H2,by simp [eD,ikx,mv],st',rs',ds,hs2,t2,by omega,c2,hb3,_,_,_,_,_,rfl⟩
  ·obtain ⟨a1,a2⟩:=aO8 hs2 (by omega) x.dat;have hs3:=hs2.app x;rw [List.map_append] at hs3;have xn:xIs (.d x.dat) (.d .none)=some false:=rfl;refine ⟨dL S f most hands h.length (some (.d (.int q))) (some (.d (.int k))) (some (.d (.int (ds.length+cnt rs)))) (some (.d x.dat)) x11,H2.set (h.length+2) (.l (ds.map Dd.dat++[x.dat])),?_,st',rs',ds++[x],hs3,t2,by omega,c2,fun i hi=>?_,_,_,_,_,_,rfl⟩
   ·have h4:=hs2.d;have hz:ds.length < 16777216:=by omega
    obtain ⟨dx,edx⟩:∃ dx,dx=x.dat:=⟨_,rfl⟩;rw [<- edx] at mv xn a2 ⊢;simp [eD,ikx,mv,xn,a1,h4,szl,hz]
   ·rw [List.getElem?_set_ne (by omega)];exact hb3 i hi
 ·have n1:o=none:=by
   cases o with
   | none=>rfl
   | some p=>exact (c1 (.inl ⟨p,rfl⟩)).elim
  subst n1;have n2:¬ ((ds.length:Int)+cnt rs < most):=fun z=>c1 (.inr (by omega));refine ⟨dL S f most hands h.length (some (.d (.int q))) (some (.d (.int k))) (some (.d (.int (ds.length+cnt rs)))) x10 x11,H1,by simp [eD,ix1,rwW,n2],st,rs,ds,hs1,tm.keep,by omega,hc,hb1,_,_,_,_,_,rfl⟩
end K45

namespace K45
open PySem PySem.Spec PyProof.Rows L2 DL CI SJ
noncomputable def nI (k:Nat):PyData:=.int k
noncomputable def byI {α:Type} (k:α->Int) (qs:List α):List α:=qs.mergeSort fun a b=>decide (k a<=k b)
def bG0 {α:Type} (k:α->Int) (F:α->PyData) (qs:List α):tO (qs.map k) (qs.map F)=(byI k qs).map F:=by
 unfold tO bD6 byI;have e:((qs.map k).map fun x=>-x).zip (qs.map F)=qs.map fun q=>(-(k q),F q):=by
  rw [List.map_map,List.zip_map'];rfl
 rw [e];have:=List.map_mergeSort (f:=fun q=>(-(k q),F q)) (r:=fun a b=>decide (k a<=k b)) (s:=fun a b:Int×PyData=>decide (b.1<=a.1)) (l:=qs) fun a _ b _=>by
  have:k a<=k b ↔ -(k b)<=-(k a):=by omega
  simp only [this]
 rw [<- this,List.map_map];rfl
def pE {α:Type} (k:α->Int) (qs:List α):(byI k qs).Perm qs:=List.mergeSort_perm _ _
def aD5 {α:Type} {k k':α->Int} {qs:List α} (h:∀ a∈qs,∀ b∈qs,(k a<=k b ↔ k' a<=k' b)):byI k qs=byI k' qs:=by
 unfold byI;have:=List.map_mergeSort (f:=fun q:α=>q) (r:=fun a b=>decide (k a<=k b)) (s:=fun a b=>decide (k' a<=k' b)) (l:=qs) fun a ha b hb=>by
  simp only [h a ha b hb]
 simpa using this
noncomputable def prI (f:Nat->Int) (i:Nat):PyData:=.tuple [.int (f i),.int i]
theorem aO9 (f:Nat->Int):∀ qs:List Nat,(∀ i∈qs,i < 1000)->aA5 (qs.map (prI f))=some (qs.map fun i=>f i*1000+i)
 | [],_=>rfl
 | i::r,h=>by
  have hi:=h i List.mem_cons_self;have c:(0:Int)<=(i:Int)/\(i:Int) < 1000:=by omega
  have e:(prS (prI f i)).map (·.1)=some (f i*1000+(i:Int)):=by
   simp [prS,prI,c]
  rw [List.map_cons,aA5,e,aO9 f r fun j hj=>h j (List.mem_cons_of_mem _ hj)];rfl
def bG1 (f:Nat->Int) {qs:List Nat} (h:∀ i∈qs,i < 1000) (nd:qs.Nodup) (hl:qs.length < 64) (H:aA):nN [.d (.list (qs.map (prI f)))] H=some ((byI (fun i=>f i*1000+i) qs).map (prI f),H):=by
 have e:aA6 (qs.map (prI f))=some ((byI (fun i=>f i*1000+i) qs).map (prI f)):=by
  cases qs with
  | nil =>
   show (some ((ST.srt []).map PyData.int):Option (List PyData))=_;simp [ST.srt,byI]
  | cons a r =>
   unfold aA6;have n:dG ((a::r).map (prI f))=none:=rfl;rw [n];simp only [aO9 f _ h,CI.bs];have nd':((a::r).map fun i=>f i*1000+(i:Int)).Nodup:=by
    refine List.pairwise_map.mpr (nd.imp_of_mem fun {x y} hx hy hn z=>?_);have:=h x hx;have:=h y hy;exact hn (by omega)
   rw [if_pos ⟨nd',by simpa using hl⟩,bG0]
 unfold nN;simp only [ref,e,Option.map_some]
structure HOk (hs:List Dd):Prop where
 ok:∀ x∈hs,x.ok
 pw:hs.Pairwise Tog
 len:hs.length<=60
def HOk.perm {hs gs:List Dd} (p:gs.Perm hs) (h:HOk hs):HOk gs:=⟨fun x hx=>h.ok x (p.mem_iff.mp hx),(p.pairwise_iff fun h=>h.symm).mpr h.pw,by rw [p.length_eq];exact h.len⟩
def Sm (hs:List Dd):Prop:=∀ x∈hs,x.beg < 10000/\∀ p,x.fin=some p->p.1 < 10000
theorem Sm.perm {hs gs:List Dd} (p:gs.Perm hs) (h:Sm hs):Sm gs:=fun x hx=>h x (p.mem_iff.mp hx)
noncomputable def dfD:Dd:=⟨0,0,.span 0 1,none⟩
def aD6 (ds:List Dd):(List.range ds.length).map (fun i=>ds.getD i dfD)=ds:=by
 apply List.ext_getElem
 ·simp
 ·intro i h1 h2;simp [List.getD,show i < ds.length by simpa using h1]
def bG2 {ds:List Dd} {i:Nat} (hi:i < ds.length):atI (ds.map Dd.dat) (i:Int)=some (ds.getD i dfD).dat:=fV (by simp [List.getD,hi])
def vE (n:Nat):rng 0 n=(List.range n).map nI:=by
 rw [aY9];rfl
def vF (d:Nat) {h H:aA} (S:List Int) {j:Nat} {ds:List Dd} (hj:H[j]?=some (.l (ds.map Dd.dat))) (hl:ds.length<=60) :
  ∃ L:List Nat,L.Perm (List.range ds.length) /\
  (∀ x0:Option W,aV (YG 0) (aD true) (xb (xPl (Y2 (xb (Y2 (xb (Y2 (aB 1) (YJ 0)) (YF false (d+1) "_law_cell_at")) (aB 0)) (YF false (d+1) "_law_drawn")) (aB 0))) YT) none (rng 0 ds.length) (rng 0 ds.length) [x0,some (.d (.list (S.map .int)))] H []=some ((List.range ds.length).map (prI fun i=>dwF (clS S 0) i),H)) /\
  nN [.d (.list ((List.range ds.length).map (prI fun i=>dwF (clS S 0) i)))] H=some (L.map (prI fun i=>dwF (clS S 0) i),H) /\
  (∀ x0 x1:Option W,aV (aR [YG 0,YG 1]) (aD true) (xb (aB 2) fun x=>xb (aB 1) (YX x)) none (L.map (prI fun i=>dwF (clS S 0) i)) (L.map (prI fun i=>dwF (clS S 0) i)) [x0,x1,some (.c j)] H []=some ((L.map fun i=>ds.getD i dfD).map Dd.dat,H)):=by
 have c0:=aN8 d H S 0;have dw:=fun k=>iS d H (clS S 0) k;obtain ⟨sd,esd⟩:∃ sd,sd=PyData.list (S.map .int):=⟨_,rfl⟩;rw [<- esd] at c0;refine ⟨byI (fun i:Nat=>dwF (clS S 0) i*1000+i) (List.range ds.length),pE _ _,fun x0=>?_,bG1 _ (fun i hi=>by have:=List.mem_range.mp hi;omega) List.nodup_range (by simp;omega) H,fun x0 x1=>?_⟩
 ·rw [vE,<- esd];rw [cmM nI (prI fun i=>dwF (clS S 0) i) (fun δ=>∃ u,δ=[u,some (.d sd)]) _ _ ⟨_,rfl⟩ fun i hi δ hδ=>?_];obtain ⟨u,rfl⟩:=hδ;have c0':aE T (d+1) (Str.ofString "_law_cell_at") [.d sd,.d (.int 0)] H=some (.int (clS S 0),H):=c0;refine ⟨_,rfl,⟨_,rfl⟩,?_⟩;simp [nI,prI,c0',dw,szl]
 ·have mem:∀ i∈byI (fun i:Nat=>dwF (clS S 0) i*1000+i) (List.range ds.length),i < ds.length:=fun i hi=>List.mem_range.mp ((pE _ _).mem_iff.mp hi);generalize byI (fun i:Nat=>dwF (clS S 0) i*1000+i) (List.range ds.length)=L at mem;rw [cmM (prI fun i=>dwF (clS S 0) i) (fun i=>(ds.getD i dfD).dat) (fun δ=>∃ u v,δ=[u,v,some (.c j)]) L _ ⟨_,_,rfl⟩ fun i hi δ hδ=>?_]
  ·rw [List.map_map];rfl
  ·obtain ⟨u,v,rfl⟩:=hδ;refine ⟨[some (.d (.int (dwF (clS S 0) i))),some (.d (.int i)),some (.c j)],by simp [prI,aR,cW],⟨_,_,rfl⟩,?_⟩;have:=bG2 (mem i hi);have ix:=kG hj (i:Int);rw [this] at ix;simp [ix]
def iT {ds:List Dd} {L:List Nat} (p:L.Perm (List.range ds.length)):(L.map fun i=>ds.getD i dfD).Perm ds:=by
 have:=p.map fun i=>ds.getD i dfD
 rwa [aD6] at this
end K45

namespace K45
open PySem PySem.Spec PyProof.Rows L2 DL CI SJ
def IE (S:List Int) (f most hands:Nat) (h:aA) (st:List Int) (rs:List (Option (Nat×Rw))) (m:Nat) (δ:DSt) (H:aA):Prop:=∃ ds:List Dd,Hs h.length st rs ds H/\(∀ x∈ds,x.ok)/\ds.Pairwise Tog/\ds.length+cnt (rs.drop m)<=most /\
 (∀ (q i:Nat) (w:Rw),m<=q->rs[q]?=some (some (i,w))->∀ x∈ds,(w.b:Int)∉x.tms/\(x.hand=q->x.below w.b=true))/\(∀ i,i < h.length->H[i]?=h[i]?)/\Sm ds/\∃ x5 x8 x9 x10 x11,δ=dL S f most hands h.length x5 x8 x9 x10 x11
def aP0 {rs:List (Option (Nat×Rw))} {m:Nat} {o:Option (Nat×Rw)} (e:rs[m]?=some o):cnt (rs.drop m)=cnt (rs.drop (m+1))+(if o.isSome=true then 1 else 0):=by
 obtain ⟨hm,ev⟩:=List.getElem?_eq_some_iff.mp e;rw [List.drop_eq_getElem_cons hm,ev];unfold cnt;rw [List.countP_cons]
def bP6 (d:Nat) (S:List Int) {f most hands:Nat} (h:aA) (hm:most<=100) (h6:hands<=6) {k m:Nat} (hk:k<=10000) {st:List Int} {rs:List (Option (Nat×Rw))} {ds0:List Dd} (tm:Tm k rs ds0) (hl:rs.length=hands) (hq:m < hands) {δ:DSt} {H:aA} (I:IE S f most hands h st rs m δ H) :
  ∃ δ1 h1,YG 5 (.d (nI m)) δ H=some (δ1,h1)/\∃ δ2 h2,bY d δ1 h1=some (.nx δ2,h2)/\IE S f most hands h st rs (m+1) δ2 h2:=by
 obtain ⟨ds,hs,ok,pw,hc,rb,hb,sm,x5,x8,x9,x10,x11,rfl⟩:=I;refine ⟨_,_,rfl,?_⟩;obtain ⟨o,ho⟩:∃ o,rs[m]?=some o:=⟨rs[m]'(by omega),by simp [hl,hq]⟩;have hx:(rs.map rwW)[m]?=some (rwW o):=by rw [List.getElem?_map,ho];rfl
 have ix:=aO7 hs.r hx;have cd:=aP0 ho;obtain ⟨sd,esd⟩:∃ sd,sd=PyData.list (S.map .int):=⟨_,rfl⟩;have eD:∀ x5 x8 x9 x10 x11,dL S f most hands h.length x5 x8 x9 x10 x11=[some (.d sd),some (.d (.int f)),some (.d (.int most)),some (.d (.int hands)),some (.c h.length),x5,some (.c (h.length+1)),some (.c (h.length+2)),x8,x9,x10,x11]:=fun x5 x8 x9 x10 x11=>by rw [esd];rfl
 unfold bY;cases o with
 | none =>
  refine ⟨dL S f most hands h.length (some (.d (nI m))) x8 x9 x10 x11,H,by simp [eD,nI,ix,rwW],ds,hs,ok,pw,by simp at cd;omega,fun q i w hq' e=>rb q i w (by omega) e,hb,sm,_,_,_,_,_,rfl⟩
 | some p =>
  obtain ⟨i,w⟩:=p;simp at cd;obtain ⟨hi,hi'⟩:=hs.own m i w ho;obtain ⟨wc,_⟩:=tm.ro m i w ho;have i0:xIx (.c i) (.d (.int 0)) H=some (.d (.int w.b),H):=by rw [kG hi'];simp [Rw.dat]
  have i1:xIx (.c i) (.d (.int 1)) H=some (.d w.c.dat,H):=by rw [kG hi'];simp [Rw.dat]
  obtain ⟨a1,a2⟩:=aO8 hs (by omega) (Dd.mk m w.b w.c none).dat;have hs3:=hs.app (Dd.mk m w.b w.c none);rw [List.map_append] at hs3;have h4:=hs.d;have hz:ds.length < 16777216:=by omega
  have eR:(Dd.mk m w.b w.c none).dat=.tuple [.int m,.int w.b,.none,w.c.dat,.none]:=rfl;refine ⟨dL S f most hands h.length (some (.d (nI m))) x8 x9 x10 x11,H.set (h.length+2) (.l (ds.map Dd.dat++[(Dd.mk m w.b w.c none).dat])),?_,ds++[Dd.mk m w.b w.c none],hs3,fun x hx=>?_,sM pw fun x hx=>?_,?_,fun q' i' w' hq' e x hx=>?_,fun j hj=>?_,fun x hx=>?_,_,_,_,_,_,rfl⟩
  ·rw [eR];simp [eD,nI,ix,rwW,i0,i1,a1,h4,szl,hz]
  ·rcases List.mem_append.mp hx with hx | hx
   ·exact ok x hx
   ·rw [List.mem_singleton.mp hx];exact ⟨by dsimp only;omega,wc,fun _ z=>nomatch z⟩
  ·obtain ⟨b1,b2⟩:=rb m i w (Nat.le_refl m) ho x hx;refine ⟨fun z z1 z2=>?_,?_⟩
   ·simp only [Dd.tms,List.mem_cons,List.not_mem_nil,or_false] at z2;subst z2;exact b1 z1
   ·by_cases c:x.hand=m
    ·exact .inr (.inl (b2 c))
    ·exact .inl c
  ·simp;omega
  ·rcases List.mem_append.mp hx with hx | hx
   ·exact rb q' i' w' (by omega) e x hx
   ·rw [List.mem_singleton.mp hx];have n1:=tm.rd _ _ _ _ _ _ ho e (by omega);refine ⟨fun z=>?_,fun z=>?_⟩
    ·simp only [Dd.tms,List.mem_cons,List.not_mem_nil,or_false] at z;omega
    ·dsimp only at z;omega
  ·rw [List.getElem?_set_ne (by omega)];exact hb j hj
  ·rcases List.mem_append.mp hx with hx | hx
   ·exact sm x hx
   ·rw [List.mem_singleton.mp hx];have:=(tm.rb m i w ho).1;exact ⟨by dsimp only;omega,fun _ z=>nomatch z⟩
def aP1 (n:Nat):cnt (List.replicate n none)=0:=by
 unfold cnt;rw [List.countP_replicate];rfl
def RH (h:aA) (x:Option (Fl×aA)):Prop:=∃ hs:List Dd,HOk hs/\Sm hs/\x.bind (ends h)=some (.tuple (hs.map Dd.dat),h)
def cG {h H:aA} {z:PyData} (hb:∀ i,i < h.length->H[i]?=h[i]?) (hl:h.length<=H.length):ends h (.rt (.d z),H)=some (z,h):=by
 have ok:okP h H:=fun i c hi e=>.inr (by rw [<- hb i hi];exact e);have tk:H.take h.length=h:=by
  apply List.ext_getElem?;intro i;rw [List.getElem?_take];split
  ·rename_i z;exact hb i z
  ·rename_i z;rw [List.getElem?_eq_none (by omega)]
 rw [rY,if_pos ok,tk]
def aD7 (d:Nat) (h:aA) (S:List Int) {f most hands:Nat} (hf:f<=63) (hm:most<=60) (h0:0 < hands) (h6:hands<=6):∃ hs:List Dd,HOk hs/\Sm hs/\aE T (d+5) "_law_history" [.d (.list (S.map .int)),.d (.int f),.d (.int most),.d (.int hands)] h=some (.tuple (hs.map Dd.dat),h):=by
 rw [show d+5=(d+4)+1 from rfl,pB];show RH h _;obtain ⟨sd,esd⟩:∃ sd,sd=PyData.list (S.map .int):=⟨_,rfl⟩;have eD:∀ n x5 x8 x9 x10 x11,dL S f most hands n x5 x8 x9 x10 x11=[some (.d sd),some (.d (.int f)),some (.d (.int most)),some (.d (.int hands)),some (.c n),x5,some (.c (n+1)),some (.c (n+2)),x8,x9,x10,x11]:=fun n x5 x8 x9 x10 x11=>by rw [esd];rfl
 have lS:∀ H,bJ [.d sd] H=some (.d (.int S.length),H):=fun H=>by rw [esd];simp
 rw [<- esd];have erh:eV 0 hands=true:=cO (by omega) (by omega);refine syP [some (.d sd),some (.d (.int f)),some (.d (.int most)),some (.d (.int hands)),some (.c h.length),none,none,none,none,none,none,none] (h++[.l ([0,0,0,0,0,0,0,0].map .int)]) (by simp [szl]) ?_;refine syP [some (.d sd),some (.d (.int f)),some (.d (.int most)),some (.d (.int hands)),some (.c h.length),none,some (.c (h.length+1)),none,none,none,none,none] (h++[.l ([0,0,0,0,0,0,0,0].map .int),.l ((List.range hands).map fun _=>.none)]) ?_ ?_
 ·simp [erh];rw [vE,cmM nI (fun _=>.none) (fun δ=>∃ u,δ=[u]) _ _ ⟨_,rfl⟩ fun i hi δ hδ=>?_]
  ·simp
  ·obtain ⟨u,rfl⟩:=hδ;exact ⟨_,rfl,⟨_,rfl⟩,rfl⟩
 obtain ⟨H0,hH0⟩:∃ H0,H0=h++[Cell.l ([0,0,0,0,0,0,0,0].map .int),.l ((List.range hands).map fun _=>.none),.l []]:=⟨_,rfl⟩;refine syP (dL S f most hands h.length none none none none none) H0 (by simp [eD,hH0]) ?_;have hs0:Hs h.length [0,0,0,0,0,0,0,0] (List.replicate hands none) [] H0:=by
  have none_:∀ (q i:Nat) (w:Rw),(List.replicate hands (none:Option (Nat×Rw)))[q]?=some (some (i,w))->False:=fun q i w e=>by
   rw [List.getElem?_replicate] at e;split at e<;>cases e
  refine ⟨rfl,by rw [hH0];simp,?_,by rw [hH0];simp,fun q i w e=>(none_ q i w e).elim,fun q q' i w w' e=>(none_ q i w e).elim⟩;have e1:H0[h.length+1]?=some (.l ((List.range hands).map fun _=>.none)):=by rw [hH0];simp
  have e2:wsC (h.length+1) H0=some (((List.range hands).map fun _=>PyData.none).map W.d):=by unfold wsC;rw [e1]
  rw [e2]
  congr 1
  apply List.ext_getElem
  ·simp
  ·intro i z1 z2;simp [rwW]
 have tm0:Tm f (List.replicate hands none) []:=by
  have none_:∀ (q i:Nat) (w:Rw),(List.replicate hands (none:Option (Nat×Rw)))[q]?=some (some (i,w))->False:=fun q i w e=>by
   rw [List.getElem?_replicate] at e;split at e<;>cases e
  exact ⟨(fun _ z=>nomatch z),.nil,(fun _ z=>nomatch z),fun q i w e=>(none_ q i w e).elim,fun q i w e=>(none_ q i w e).elim,fun q q' i i' w w' e=>(none_ q i w e).elim⟩
 have b0:∀ i,i < h.length->H0[i]?=h[i]?:=fun i hi=>by rw [hH0,List.getElem?_append_left hi]
 -- the draws
 obtain ⟨top,htop⟩:∃ top,top=min S.length 63:=⟨_,rfl⟩;have et:min (S.length:Int) 63=(top:Nat):=by omega
 refine syE (IL S f most hands h (f+(top - f))) ?_ ?_
 ·have er:eV f top=true:=uO (by omega) (by omega);have tn:((top:Int) - (f:Int)).toNat=top - f:=by omega
  refine zJ ((rng f (top - f),none),H0) (by simp [eD,lS,xMn,et,er,tn]) ?_;show ∃ δ2 h2,bQ (YG 8) (bZ (d+4)) none (rng f (top - f)) (rng f (top - f)) _ _=some (.nx δ2,h2)/\_;refine iN (fun m δ H=>IL S f most hands h (f+m) δ H) ⟨_,_,_,hs0,tm0,by simp,by rw [aP1];simp,b0,_,_,_,_,_,rfl⟩ (fun δ H=>by rw [CI.rng_len];exact id) fun m hm δ H=>?_;rintro ⟨st,rs,ds,hs,tm,hl,hc,hb,x5,x8,x9,x10,x11,rfl⟩;have hm':m < top - f:=by simpa [rng] using hm
  have em:(rng f (top - f))[m]=nI (f+m):=by simp [rng,nI]
  rw [em];exact ⟨_,_,rfl,aZ6 d S h (by omega) h0 h6 (by omega:f+m < S.length) x5 x8 x9 x10 x11 hs tm hl hc hb⟩
 rintro _ H1 ⟨st,rs,ds,hs,tm,hl,hc,hb,x5,x8,x9,x10,x11,rfl⟩
 -- what never ended
 refine syE (IE S f most hands h st rs hands) ?_ ?_
 ·refine zJ ((rng 0 hands,none),H1) (by simp [eD,erh]) ?_;show ∃ δ2 h2,bQ (YG 5) (bY (d+4)) none (rng 0 hands) (rng 0 hands) _ _=some (.nx δ2,h2)/\_;rw [vE];refine iN (fun m δ H=>IE S f most hands h st rs m δ H) ⟨ds,hs,tm.ok,tm.pw,by simpa using hc,fun q i w _ e=>(tm.rb q i w e).2,hb,(fun x hx=>by obtain ⟨p,h1,h2,h3⟩:=tm.lt x hx;exact ⟨by omega,fun p' e=>by rw [h1] at e;injection e with e;subst e;omega⟩),_,_,_,_,_,rfl⟩ (fun δ H=>by simp) fun m hm δ H I=>?_;have hm':m < hands:=by simpa using hm
  have em:((List.range hands).map nI)[m]=nI m:=by simp
  rw [em];exact bP6 (d+4) S h (by omega) h6 (by omega) tm hl hm' I
 rintro _ H2 ⟨ds,hs,ok,pw,hc,rb,hb,sm,x5,x8,x9,x10,x11,rfl⟩;have hd:=hs.d;have hln:ds.length<=60:=by omega
 obtain ⟨L,p,t1,t2,t3⟩:=vF (d+3) (h:=h) S hd hln;have lD:bJ [.c (h.length+2)] H2=some (.d (.int ds.length),H2):=by simp [bJ,ref,hd]
 have er2:eV 0 ds.length=true:=cO (by omega) (by omega);rw [<- esd] at t1;have t1':=t1 none;have t3':=t3 none none;simp only [iA,kF,lL,lH,lN,lP,lO,lF,lG,bdi,show d+3+1=d+4 from rfl] at t1' t3';refine syP (dL S f most hands h.length x5 x8 x9 x10 (some (.d (.list (L.map (prI fun i=>dwF (clS S 0) i)))))) H2 (by
  simp [eD,lD,er2,t1',t2]) ?_
 refine ⟨L.map fun i=>ds.getD i dfD,HOk.perm (iT p) ⟨ok,pw,hln⟩,sm.perm (iT p),?_⟩;have hH2:=(List.getElem?_eq_some_iff.mp hd).1;have ek:=fun z=>cG (z:=z) hb (by omega);simp [eD,t3',ek]
end K45

namespace K45
open PySem PySem.Spec PyProof.Rows L2 DL CI SJ
def c_free (d:Nat) {H:aA} {j:Nat} {fs:List Int} (e:H[j]?=some (.l (fs.map .int))) {hands q0:Nat} (hl:fs.length=hands) (h0:0 < hands) (h6:hands<=6) (b:Int) :
  aE T (d+1) "_law_free" [.c j,.d (.int hands),.d (.int q0),.d (.int b)] H=some (.none,H)\/∃ q:Nat,q < hands/\fs.getD q 0 < b/\aE T (d+1) "_law_free" [.c j,.d (.int hands),.d (.int q0),.d (.int b)] H=some (.int q,H):=by
 have er:eV 0 hands=true:=cO (by omega) (by omega);have hp:0 < hands:=h0;have eS:∀ z:PyData,ends H (.rt (.d z),H)=some (z,H):=fun z=>cG (fun _ _=>rfl) (Nat.le_refl _);rcases forX_find (g:=YG 4) (tb:=dO d) (all:=(List.range hands).map nI) (h:=H) nI (fun k=>if fs.getD ((q0+k)%hands) 0 < b then some ((q0+k)%hands) else none) (fun q:Nat=>.d (nI q)) (fun δ=>∃ u,δ=[some (.c j),some (.d (.int hands)),some (.d (.int q0)),some (.d (.int b)),u]) (List.range hands) ⟨none,rfl⟩ (by
  rintro k hk δ ⟨u,rfl⟩;refine ⟨_,rfl,?_⟩;have hm:(q0+k)%hands < hands:=Nat.mod_lt _ hp;have em:((q0:Int)+k)%hands=((q0+k)%hands:Nat):=by norm_cast
  have ix:xIx (.c j) (.d (.int ((q0+k)%hands:Nat))) H=some (.d (.int (fs.getD ((q0+k)%hands) 0)),H):=by rw [kG e,iQ (by omega)];rfl
  generalize fs.getD ((q0+k)%hands) 0=v at *;generalize (q0+k)%hands=m at *;unfold dO
  by_cases c:v < b
  ·exact .inl ⟨m,by simp [c],by simp [nI,hp,em,ix,c]⟩
  ·exact .inr ⟨by simp [c],_,by simp [nI,hp,em,ix,c];rfl,_,rfl⟩) with ⟨q,hq,eq⟩ | ⟨_,δ',⟨u,rfl⟩,eq⟩
 ·obtain ⟨k,hk,ek⟩:=List.exists_of_findSome?_eq_some hq;split at ek
  ·rename_i c;injection ek with ek
   refine .inr ⟨q,by rw [<- ek];exact Nat.mod_lt _ hp,by rw [<- ek];exact c,?_⟩;simp only [iA] at eq;simp [mF,er,vE,eq,eS,nI]
  ·cases ek
 ·refine .inl ?_;simp only [iA] at eq;simp [mF,er,vE,eq,eS]
noncomputable def dE (S:List Int) (am hands n:Nat) (x6 x7 x8 x9 x10 x11 x12 x13:Option W):DSt:=[some (.d (.list (S.map .int))),some (.d (.int am)),some (.d (.int hands)),some (.c n),some (.c (n+2)),some (.c (n+3)),x6,x7,x8,x9,x10,x11,x12,x13]
def cE (h:aA) (st fs:List Int) (ds:List Dd):aA:=h++[.l (st.map .int),.l [.int (-1)],.l (fs.map .int),.l (ds.map Dd.dat)]
def Dn (k:Nat) (fs:List Int) (x:Dd):Prop:=∃ j,j < k/\x.beg=10*j/\((x.fin=none/\1000000<=fs.getD x.hand 0)\/∃ l a,l<=2/\x.fin=some (10*(j+l)+1+l,a)/\(10*((j:Int)+l)+1+l)<=fs.getD x.hand 0)
structure Ds (k:Nat) (fs:List Int) (ds:List Dd):Prop where
 ok:∀ x∈ds,x.ok
 pw:ds.Pairwise Tog
 dn:∀ x∈ds,Dn k fs x
def Ds.keep {k:Nat} {fs:List Int} {ds:List Dd} (t:Ds k fs ds):Ds (k+1) fs ds:=⟨t.ok,t.pw,fun x hx=>by
 obtain ⟨j,h1,h2⟩:=t.dn x hx;exact ⟨j,by omega,h2⟩⟩
noncomputable def dv (k l:Nat):Option (Option SJ.Ans)->Int
 | some _=>10*((k:Int)+l)+1+l
 | none=>1000000
def Ds.add {k:Nat} {fs:List Int} {ds:List Dd} (t:Ds k fs ds) {q:Nat} (hq:q < fs.length) (h5:q<=5) (hk:k<=1000) (hf:fs.getD q 0 < 10*(k:Int)) {c:SJ.Call} (hc:c.ok) {l:Nat} (hl:l<=2) (a:Option (Option SJ.Ans)) (ha:∀ b,a=some (some b)->Ans.fits c b) :
  Ds (k+1) (fs.set q (dv k l a)) (ds++[⟨q,10*k,c,a.map fun b=>(10*(k+l)+1+l,b)⟩]):=by
 obtain ⟨v,hv⟩:∃ v,v=(dv k l a):=⟨_,rfl⟩;rw [<- hv];have hv':10*(k:Int) < v:=by rw [hv];unfold dv;split<;>omega
 have gs:∀ p,(fs.set q v).getD p 0=if q=p then v else fs.getD p 0:=fun p=>by
  simp only [List.getD,List.getElem?_set];split
  ·simp [hq]
  ·rfl
 refine ⟨fun x hx=>?_,sM t.pw fun x hx=>?_,fun x hx=>?_⟩
 ·rcases List.mem_append.mp hx with hx | hx
  ·exact t.ok x hx
  ·rw [List.mem_singleton.mp hx];refine ⟨h5,hc,fun p z=>?_⟩;cases a with
   | none=>cases z
   | some b =>
    injection z with z
    subst z;exact ⟨by dsimp only;omega,fun b' e=>ha b' (by rw [<- e])⟩
 ·obtain ⟨j,h1,h2,h3⟩:=t.dn x hx;have tx:∀ z∈x.tms,z=10*(j:Int)\/∃ l:Nat,l<=2/\z=10*((j:Int)+l)+1+l:=fun z hz=>by
   unfold Dd.tms at hz;rcases List.mem_cons.mp hz with hz | hz
   ·exact .inl (by omega)
   ·rcases h3 with ⟨h3,_⟩ | ⟨l',a',h4,h5,_⟩
    ·rw [h3] at hz;cases hz
    ·rw [h5] at hz;exact .inr ⟨l',h4,by have:=List.mem_singleton.mp hz;omega⟩
  have ty:∀ z∈(Dd.mk q (10*k) c (a.map fun b=>(10*(k+l)+1+l,b))).tms,z=10*(k:Int)\/z=10*((k:Int)+l)+1+l:=fun z hz=>by
   unfold Dd.tms at hz;rcases List.mem_cons.mp hz with hz | hz
   ·exact .inl (by dsimp only at hz;omega)
   ·cases a with
    | none=>cases hz
    | some b=>exact .inr (by have:=List.mem_singleton.mp hz;dsimp only at this;omega)
  refine ⟨fun z z1 z2=>?_,?_⟩
  ·rcases tx z z1 with e1 | ⟨l',e0,e1⟩<;>rcases ty z z2 with e2 | e2<;>omega
  ·by_cases e:x.hand=q
   ·refine .inr (.inl ?_);subst e;rcases h3 with ⟨h3,h4⟩ | ⟨l',a',h4,h5,h6⟩
    ·omega
    ·simp only [Dd.below,h5];exact decide_eq_true (by omega)
   ·exact .inl e
 ·rcases List.mem_append.mp hx with hx | hx
  ·obtain ⟨j,h1,h2,h3⟩:=t.dn x hx;refine ⟨j,by omega,h2,?_⟩;rw [gs]
   by_cases e:q=x.hand
   ·rw [if_pos e];subst e;rcases h3 with ⟨h3,h4⟩ | ⟨l',a',h4,h5,h6⟩
    ·exact .inl ⟨h3,by omega⟩
    ·exact .inr ⟨l',a',h4,h5,by omega⟩
   ·rw [if_neg e];exact h3
  ·rw [List.mem_singleton.mp hx];refine ⟨k,by omega,rfl,?_⟩;rw [gs,if_pos rfl];cases a with
   | none=>exact .inl ⟨rfl,by rw [hv];exact Int.le_refl _⟩
   | some b=>exact .inr ⟨l,b,hl,rfl,by rw [hv];exact Int.le_refl _⟩
def ID (S:List Int) (am hands:Nat) (h:aA) (k m:Nat) (δ:DSt) (H:aA):Prop:=∃ st fs ds,st.length=8/\fs.length=hands/\Ds k fs ds/\ds.length<=m/\H=cE h st fs ds/\∃ x6 x7 x8 x9 x10 x11 x12 x13,δ=dE S am hands h.length x6 x7 x8 x9 x10 x11 x12 x13
section
variable (h:aA) (st fs:List Int) (ds:List Dd)
def ce0:(cE h st fs ds)[h.length]?=some (.l (st.map .int)):=by simp [cE]
def ce2:(cE h st fs ds)[h.length+2]?=some (.l (fs.map .int)):=by simp [cE]
def ce3:(cE h st fs ds)[h.length+3]?=some (.l (ds.map Dd.dat)):=by simp [cE]
def cs0 (st':List Int):(cE h st fs ds).set h.length (.l (st'.map .int))=cE h st' fs ds:=by simp [cE]
def cs2 (fs':List Int):(cE h st fs ds).set (h.length+2) (.l (fs'.map .int))=cE h st fs' ds:=by simp [cE]
def cs3 (x:Dd):(cE h st fs ds).set (h.length+3) (.l (ds.map Dd.dat++[x.dat]))=cE h st fs (ds++[x]):=by simp [cE]
def cA9 {q:Nat} (hq:q < fs.length) (v:Int) (δ:DSt):kX (h.length+2) (.int q) (.int v) δ (cE h st fs ds)=some (δ,cE h st (fs.set q v) ds):=by
 rw [cA6 (ce2 h st fs ds) (by simpa using hq),<- cs2 h st fs ds (fs.set q v),List.map_set]
end
end K45

namespace K45
open PySem PySem.Spec PyProof.Rows L2 DL CI SJ
def bD:Option (Option SJ.Ans)->PyData
 | some b=>anD b
 | none=>.none
noncomputable def bE (k l:Nat):Option (Option SJ.Ans)->PyData
 | some _=>.int (10*((k:Int)+l)+1+l)
 | none=>.none
def ypT {x:Option (Bool×aA)} {A B:Bool×aA->Option (Fl×aA)} {P:DSt->aA->Prop} (h:aA) (e:x=some (true,h)) (k:∃ δ2 h2,A (true,h)=some (.nx δ2,h2)/\P δ2 h2):∃ δ2 h2,YP (YP x fun p=>if p.1=true then A p else B p) YE=some (.nx δ2,h2)/\P δ2 h2:=by
 obtain ⟨δ2,h2,e2,p⟩:=k;refine ⟨δ2,h2,?_,p⟩;rw [e];show YP (if true=true then A (true,h) else B (true,h)) YE=_;rw [if_pos rfl,e2];rfl
def aP2 (d:Nat) (S:List Int) {am hands:Nat} (h:aA) (h0:0 < hands) (h6:hands<=6) {k m:Nat} (hk:k < S.length) (hk':k<=100) (hm:m<=100) {st fs:List Int} {ds:List Dd} (x7 x8 x9 x10 x11 x12 x13:Option W)
  (sl:st.length=8) (fl:fs.length=hands) (t:Ds k fs ds) (hc:ds.length<=m) :
  ∃ δ2 h2,cK (d+4) (dE S am hands h.length (some (.d (.int k))) x7 x8 x9 x10 x11 x12 x13) (cE h st fs ds)=some (.nx δ2,h2)/\ID S am hands h (k+1) (m+1) δ2 h2:=by
 have ik:=iQ hk;obtain ⟨cv,hcv⟩:∃ cv,cv=S.getD k 0:=⟨_,rfl⟩;obtain ⟨w,hw⟩:∃ w,w=dwF cv 20:=⟨_,rfl⟩;have dw:∀ H,aE T (d+4) (Str.ofString "_law_drawn") [.d (.int cv),.d (.int 20)] H=some (.int w,H):=fun H=>by rw [hw];exact iS (d+3) H cv 20
 rw [<- hcv] at ik;obtain ⟨sd,esd⟩:∃ sd,sd=PyData.list (S.map .int):=⟨_,rfl⟩;have ikx:∀ H,xIx (.d sd) (.d (.int k)) H=some (.d (.int cv),H):=fun H=>by rw [esd];simp [ik]
 have eD:∀ n x6 x7 x8 x9 x10 x11 x12 x13,dE S am hands n x6 x7 x8 x9 x10 x11 x12 x13=[some (.d sd),some (.d (.int am)),some (.d (.int hands)),some (.c n),some (.c (n+2)),some (.c (n+3)),x6,x7,x8,x9,x10,x11,x12,x13]:=fun n x6 x7 x8 x9 x10 x11 x12 x13=>by rw [esd];rfl
 obtain ⟨q0,hq0,eq0⟩:∃ q:Nat,q < hands/\w%(hands:Int)=q:=by
  have a1:=Int.emod_nonneg w (b:=(hands:Int)) (by omega);have a2:=Int.emod_lt_of_pos w (b:=(hands:Int)) (by omega);exact ⟨(w%(hands:Int)).toNat,by omega,by omega⟩
 have hp:0 < hands:=h0;have m10:∀ j,gZ 10 j=true:=fun j=>iM (by decide) (by decide) j;have e8:cP 8=true:=by decide
 have e32:cP 32=true:=by decide
 have e512:cP 512=true:=by decide
 have p6:lY 10 6=true:=by decide
 unfold cK;refine sys (dE S am hands h.length (some (.d (.int k))) (some (.d (.int w))) x8 x9 x10 x11 x12 x13) (cE h st fs ds) (by simp [eD,ikx,dw]) ?_;rcases c_free (d+3) (ce2 h st fs ds) fl h0 h6 (q0:=q0) (10*(k:Int)) with e1 | ⟨q,hq,hfq,e1⟩
 ·have e1:aE T (d+4) (Str.ofString "_law_free") [.c (h.length+2),.d (.int hands),.d (.int q0),.d (.int (10*(k:Int)))] (cE h st fs ds)=some (.none,cE h st fs ds):=e1;refine sys (dE S am hands h.length (some (.d (.int k))) (some (.d (.int w))) (some (.d .none)) x9 x10 x11 x12 x13) (cE h st fs ds) (by simp [eD,hp,eq0,m10,e1]) ?_;exact ⟨dE S am hands h.length (some (.d (.int k))) (some (.d (.int w))) (some (.d .none)) x9 x10 x11 x12 x13,cE h st fs ds,by simp [eD],st,fs,ds,sl,fl,t.keep,by omega,rfl,_,_,_,_,_,_,_,_,rfl⟩
 have e1:aE T (d+4) (Str.ofString "_law_free") [.c (h.length+2),.d (.int hands),.d (.int q0),.d (.int (10*(k:Int)))] (cE h st fs ds)=some (.int q,cE h st fs ds):=e1;refine sys (dE S am hands h.length (some (.d (.int k))) (some (.d (.int w))) (some (.d (.int q))) x9 x10 x11 x12 x13) (cE h st fs ds) (by simp [eD,hp,eq0,m10,e1]) ?_;refine ypT (cE h st fs ds) (by simp [eD]) ?_;obtain ⟨c,hcc⟩:∃ c,c=clF cv 0:=⟨_,rfl⟩;have co:c.ok:=by rw [hcc];exact bF8 _ _
 have cl:aE T (d+4) (Str.ofString "_law_call") [.d (.int cv),.d (.int 0)] (cE h st fs ds)=some (c.dat,cE h st fs ds):=by rw [hcc];exact aO0 (d+2) _ cv 0
 have dn:=aO4 (d+2) (ce0 h st fs ds) sl co;rw [cs0] at dn;have dn:aE T (d+4) (Str.ofString "_law_done") [.c h.length,.d c.dat] (cE h st fs ds)=some ((dnC st c).1.dat,cE h (dnC st c).2 fs ds):=dn;have fa:=vA co sl;have sl':=zG (c:=c) sl;generalize dnC st c=D at dn fa sl';obtain ⟨a,st'⟩:=D;dsimp only at dn fa sl';refine sys (dE S am hands h.length (some (.d (.int k))) (some (.d (.int w))) (some (.d (.int q))) (some (.d c.dat)) x10 x11 x12 x13) (cE h st fs ds) (by simp [eD,ikx,cl]) ?_;refine sys (dE S am hands h.length (some (.d (.int k))) (some (.d (.int w))) (some (.d (.int q))) (some (.d c.dat)) (some (.d a.dat)) x11 x12 x13) (cE h st' fs ds) (by simp [eD,dn]) ?_;obtain ⟨l,hl2,el⟩:∃ l:Nat,l<=2/\w / 8%3=l:=⟨(w / 8%3).toNat,by omega,by omega⟩;refine sys (dE S am hands h.length (some (.d (.int k))) (some (.d (.int w))) (some (.d (.int q))) (some (.d c.dat)) (some (.d a.dat)) (some (.d (.int l))) x12 x13) (cE h st' fs ds) (by simp [eD,e8,el]) ?_;refine sys (dE S am hands h.length (some (.d (.int k))) (some (.d (.int w))) (some (.d (.int q))) (some (.d c.dat)) (some (.d a.dat)) (some (.d (.int l))) (some (.d (.int (10*((k:Int)+l)+1+l)))) x13) (cE h st' fs ds) (by simp [eD,m10]) ?_;have hqf:q < fs.length:=by omega
 have cp:=fun v δ=>cA9 h st' fs ds hqf v δ;refine sys (dE S am hands h.length (some (.d (.int k))) (some (.d (.int w))) (some (.d (.int q))) (some (.d c.dat)) (some (.d a.dat)) (some (.d (.int l))) (some (.d (.int (10*((k:Int)+l)+1+l)))) x13) (cE h st' (fs.set q (10*((k:Int)+l)+1+l)) ds) (by simp [eD,cp,-rW]) ?_
 -- the end
 have FIN:∀ b:Option (Option SJ.Ans),(∀ a',b=some (some a')->Ans.fits c a')->∃ δ2 h2,YP (YP (xb (aB 5) ((YA (Y1 (xb (xPl (Y5 (aB 8) (xb (YJ 10) fun u=>xb (aB 6) (YO .Mult u)) (aB 12) (aB 9) (aB 10))) YT)))) (dE S am hands h.length (some (.d (.int k))) (some (.d (.int w))) (some (.d (.int q))) (some (.d c.dat)) (some (.d (bD b))) (some (.d (.int l))) (some (.d (bE k l b))) x13) (cE h st' (fs.set q (dv k l b)) ds)) fun p=>some (Fl.nx (dE S am hands h.length (some (.d (.int k))) (some (.d (.int w))) (some (.d (.int q))) (some (.d c.dat)) (some (.d (bD b))) (some (.d (.int l))) (some (.d (bE k l b))) x13),p.2)) YE=some (.nx δ2,h2)/\ID S am hands h (k+1) (m+1) δ2 h2:=fun b hb=>by
  have c3:=ce3 h st' (fs.set q (dv k l b)) ds;have hz:ds.length < 16777216:=by omega
  have t2:=t.add hqf (by omega) (by omega) hfq co hl2 b hb;have y:=cs3 h st' (fs.set q (dv k l b)) ds ⟨q,10*k,c,b.map fun b=>(10*(k+l)+1+l,b)⟩;have yd:(Dd.mk q (10*k) c (b.map fun b=>(10*(k+l)+1+l,b))).dat=.tuple [.int q,.int (10*(k:Int)),bE k l b,c.dat,bD b]:=by
   cases b with
   | none=>simp [Dd.dat,Dd.endD,Dd.ansD,bE,bD]
   | some b=>simp [Dd.dat,Dd.endD,Dd.ansD,bE,bD]
  rw [yd] at y;have mp:jT "append" (.c (h.length+3)) (cE h st' (fs.set q (dv k l b)) ds)=true:=by simp [jT,c3]
  refine ⟨dE S am hands h.length (some (.d (.int k))) (some (.d (.int w))) (some (.d (.int q))) (some (.d c.dat)) (some (.d (bD b))) (some (.d (.int l))) (some (.d (bE k l b))) x13,cE h st' (fs.set q (dv k l b)) (ds++[⟨q,10*k,c,b.map fun b=>(10*(k+l)+1+l,b)⟩]),by simp [eD,m10,szl,mp,c3,hz,y],st',_,_,sl',by simpa using fl,t2,by simp;omega,rfl,_,_,_,_,_,_,_,_,rfl⟩
 by_cases g0:w / 32%9=0
 ·refine sys (dE S am hands h.length (some (.d (.int k))) (some (.d (.int w))) (some (.d (.int q))) (some (.d c.dat)) (some (.d (bD (some none)))) (some (.d (.int l))) (some (.d (bE k l (some none)))) x13) (cE h st' (fs.set q (dv k l (some none))) ds) (by simp [eD,e32,g0,szl,bD,bE,anD,aD4,dv]) (FIN (some none) (fun _ z=>nomatch z))
 by_cases g1:w / 32%9=1
 ·obtain ⟨a',f1,f2⟩:=aO6 (d+2) (cE h st' (fs.set q (10*((k:Int)+l)+1+l)) ds) co fa (w / 512);have f2:aE T (d+4) (Str.ofString "_law_bent") [.d a.dat,.d (.int (w / 512))] (cE h st' (fs.set q (10*((k:Int)+l)+1+l)) ds)=some (a'.dat,(cE h st' (fs.set q (10*((k:Int)+l)+1+l)) ds)):=f2;refine sys (dE S am hands h.length (some (.d (.int k))) (some (.d (.int w))) (some (.d (.int q))) (some (.d c.dat)) (some (.d (bD (some (some a'))))) (some (.d (.int l))) (some (.d (bE k l (some (some a'))))) x13) (cE h st' (fs.set q (dv k l (some (some a')))) ds) (by simp [eD,e32,e512,g1,f2,bD,bE,anD,dv]) (FIN (some (some a')) (fun _ z=>by injection z with z;injection z with z;subst z;exact f1))
 by_cases g2:w / 32%27=2
 ·have cp2:=fun v δ=>cA9 h st' (fs.set q (10*((k:Int)+l)+1+l)) ds (by simpa using hqf:q < (fs.set q (10*((k:Int)+l)+1+l)).length) v δ;simp only [List.set_set] at cp2;refine sys (dE S am hands h.length (some (.d (.int k))) (some (.d (.int w))) (some (.d (.int q))) (some (.d c.dat)) (some (.d (bD none))) (some (.d (.int l))) (some (.d (bE k l none))) x13) (cE h st' (fs.set q (dv k l none)) ds) (by simp [eD,e32,g0,g1,g2,p6,cp2,bD,bE,dv,-rW]) (FIN none (fun _ z=>nomatch z))
 ·refine sys (dE S am hands h.length (some (.d (.int k))) (some (.d (.int w))) (some (.d (.int q))) (some (.d c.dat)) (some (.d (bD (some (some a))))) (some (.d (.int l))) (some (.d (bE k l (some (some a))))) x13) (cE h st' (fs.set q (dv k l (some (some a)))) ds) (by simp [eD,e32,g0,g1,g2,bD,bE,anD,dv]) (FIN (some (some a)) (fun _ z=>by injection z with z;injection z with z;subst z;exact fa))
end K45

namespace K45
open PySem PySem.Spec PyProof.Rows L2 DL CI SJ
theorem cB0:∀ n:Nat,(List.replicate n [PyData.int (-1)]).flatten=(List.replicate n (-1:Int)).map PyData.int
 | 0=>rfl
 | n+1=>by rw [List.replicate_succ,List.flatten_cons,cB0 n,List.replicate_succ];rfl
def aZ7 (d:Nat) (h:aA) (S:List Int) {am hands:Nat} (ha:am<=60) (h0:0 < hands) (h6:hands<=6):∃ hs:List Dd,HOk hs/\Sm hs/\aE T (d+5) "_law_dense" [.d (.list (S.map .int)),.d (.int am),.d (.int hands)] h=some (.tuple (hs.map Dd.dat),h):=by
 rw [show d+5=(d+4)+1 from rfl,sE];show RH h _;obtain ⟨sd,esd⟩:∃ sd,sd=PyData.list (S.map .int):=⟨_,rfl⟩;have eD:∀ n x6 x7 x8 x9 x10 x11 x12 x13,dE S am hands n x6 x7 x8 x9 x10 x11 x12 x13=[some (.d sd),some (.d (.int am)),some (.d (.int hands)),some (.c n),some (.c (n+2)),some (.c (n+3)),x6,x7,x8,x9,x10,x11,x12,x13]:=fun n x6 x7 x8 x9 x10 x11 x12 x13=>by rw [esd];rfl
 have lS:∀ H,bJ [.d sd] H=some (.d (.int S.length),H):=fun H=>by rw [esd];simp
 rw [<- esd];refine syP [some (.d sd),some (.d (.int am)),some (.d (.int hands)),some (.c h.length),none,none,none,none,none,none,none,none,none,none] (h++[.l ([0,0,0,0,0,0,0,0].map .int)]) (by simp [szl]) ?_;have rp:=cB0 hands;refine syP [some (.d sd),some (.d (.int am)),some (.d (.int hands)),some (.c h.length),some (.c (h.length+2)),none,none,none,none,none,none,none,none,none] (h++[.l ([0,0,0,0,0,0,0,0].map .int),.l [.int (-1)],.l ((List.replicate hands (-1:Int)).map .int)]) ?_ ?_
 ·have b1:(-9223372036854775808:Int)<=hands:=by omega
  have b2:(hands:Int) < 9223372036854775808:=by omega
  have b3:hands<=16777216:=by omega
  simp [szl,b1,b2,b3,rp]
 refine syP (dE S am hands h.length none none none none none none none none) (cE h [0,0,0,0,0,0,0,0] (List.replicate hands (-1)) []) (by simp [eD,cE]) ?_;obtain ⟨top,htop⟩:∃ top,top=min S.length (2+am):=⟨_,rfl⟩;have et:min (S.length:Int) (2+(am:Int))=(top:Nat):=by omega
 refine syE (ID S am hands h (2+(top - 2)) (top - 2)) ?_ ?_
 ·have er:eV 2 top=true:=uO (i:=2) (by omega) (by omega);have tn:((top:Int) - 2).toNat=top - 2:=by omega
  refine zJ ((rng 2 (top - 2),none),cE h [0,0,0,0,0,0,0,0] (List.replicate hands (-1)) []) (by simp [eD,lS,xMn,et,er,tn]) ?_;show ∃ δ2 h2,bQ (YG 6) (cK (d+4)) none (rng 2 (top - 2)) (rng 2 (top - 2)) _ _=some (.nx δ2,h2)/\_;refine iN (fun m δ H=>ID S am hands h (2+m) m δ H) ⟨[0,0,0,0,0,0,0,0],List.replicate hands (-1),[],rfl,by simp,⟨(fun _ z=>nomatch z),.nil,(fun _ z=>nomatch z)⟩,by simp,rfl,_,_,_,_,_,_,_,_,rfl⟩ (fun δ H=>by rw [CI.rng_len];exact id) fun m hm δ H=>?_;rintro ⟨st,fs,ds,sl,fl,t,hc,rfl,x6,x7,x8,x9,x10,x11,x12,x13,rfl⟩;have hm':m < top - 2:=by simpa [rng] using hm
  have em:(rng 2 (top - 2))[m]=nI (2+m):=by simp [rng,nI]
  rw [em];exact ⟨_,_,rfl,aP2 d S h h0 h6 (by omega:2+m < S.length) (by omega) (by omega) x7 x8 x9 x10 x11 x12 x13 sl fl t hc⟩
 rintro _ _ ⟨st,fs,ds,sl,fl,t,hc,rfl,x6,x7,x8,x9,x10,x11,x12,x13,rfl⟩;have hd:=ce3 h st fs ds;have hln:ds.length<=60:=by omega
 obtain ⟨L,p,t1,t2,t3⟩:=vF (d+3) (h:=h) S hd hln;have lD:bJ [.c (h.length+3)] (cE h st fs ds)=some (.d (.int ds.length),cE h st fs ds):=by simp [bJ,ref,hd]
 have er2:eV 0 ds.length=true:=cO (by omega) (by omega);rw [<- esd] at t1;have t1':=t1 none;have t3':=t3 none none;simp only [iA,kF,lL,lH,lN,lP,lO,lF,lG,bdi,show d+3+1=d+4 from rfl] at t1' t3';refine syP (dE S am hands h.length x6 x7 x8 x9 x10 x11 x12 (some (.d (.list (L.map (prI fun i=>dwF (clS S 0) i)))))) (cE h st fs ds) (by
  simp [eD,lD,er2,t1',t2]) ?_
 refine ⟨L.map fun i=>ds.getD i dfD,HOk.perm (iT p) ⟨t.ok,t.pw,hln⟩,Sm.perm (iT p) (fun x hx=>?_),?_⟩
 ·obtain ⟨j,h1,h2,h3⟩:=t.dn x hx;refine ⟨by omega,fun p e=>?_⟩;rcases h3 with ⟨h3,_⟩ | ⟨l,a,h4,h5,_⟩
  ·rw [h3] at e;cases e
  ·rw [h5] at e;injection e with e
   subst e;dsimp only;omega
 have ek:=fun z=>cG (z:=z) (h:=h) (H:=cE h st fs ds) (fun i hi=>by unfold cE;rw [List.getElem?_append_left hi]) (by simp [cE]);simp [eD,t3',ek]
noncomputable def fD (f:Nat) (x:Dd):Dd:=⟨x.hand,x.beg*f,x.call,x.fin.map fun p=>(p.1*f,p.2)⟩
def cB1 {f:Nat} (hf:0 < f) {x:Dd} (h:x.ok):(fD f x).ok:=by
 refine ⟨h.hand,h.call,fun p e=>?_⟩;unfold fD at e;cases z:x.fin with
 | none=>rw [z] at e;cases e
 | some q =>
  rw [z] at e;injection e with e
  subst e;obtain ⟨h1,h2⟩:=h.fin q z;exact ⟨Nat.mul_lt_mul_of_pos_right h1 hf,h2⟩
def bP7 (f:Nat) (x:Dd):(fD f x).tms=x.tms.map (·*(f:Int)):=by
 obtain ⟨a,b,c,e⟩:=x;cases e<;>simp [fD,Dd.tms]
def vG {f:Nat} (hf:0 < f) (x:Dd) (n:Nat):(fD f x).below (n*f)=x.below n:=by
 obtain ⟨a,b,c,e⟩:=x;cases e with
 | none=>rfl
 | some p =>
  simp only [fD,Dd.below,Option.map_some]
  congr 1
  exact propext (Nat.mul_lt_mul_right hf)
def bP8 {f:Nat} (hf:0 < f) {x y:Dd} (t:Tog x y):Tog (fD f x) (fD f y):=by
 refine ⟨fun z h1 h2=>?_,?_⟩
 ·rw [bP7] at h1 h2;obtain ⟨a,ha,rfl⟩:=List.mem_map.mp h1;obtain ⟨b,hb,e⟩:=List.mem_map.mp h2;have:b=a:=Int.eq_of_mul_eq_mul_right (by omega) e;subst this;exact t.ne _ ha hb
 ·have e1:(fD f x).below (fD f y).beg=x.below y.beg:=vG hf x _;have e2:(fD f y).below (fD f x).beg=y.below x.beg:=vG hf y _;rw [e1,e2];exact t.hd
def HOk.far {f:Nat} (hf:0 < f) {hs:List Dd} (h:HOk hs):HOk (hs.map (fD f)):=by
 refine ⟨fun x hx=>?_,?_,by simpa using h.len⟩
 ·obtain ⟨y,hy,rfl⟩:=List.mem_map.mp hx;exact cB1 hf (h.ok y hy)
 ·exact List.pairwise_map.mpr (h.pw.imp fun t=>bP8 hf t)
noncomputable def frF (r:Int):Nat:=if r%2=0 then 1 else 1000000000000000000000000000000000000
def bP9 (r:Int):0 < frF r:=by unfold frF;split<;>decide
def cB2 (d:Nat) (h:aA) {hs:List Dd} (ok:HOk hs) (sm:Sm hs) (r:Int):aE T (d+1) "_law_far" [.d (.tuple (hs.map Dd.dat)),.d (.int r)] h=some (.tuple ((hs.map (fD (frF r))).map Dd.dat),h):=by
 have p36:lY 10 36=true:=by decide
 have a2:atI [PyData.int 1,.int 1000000000000000000000000000000000000] (r%2)=some (.int (frF r)):=by
  unfold frF;have:r%2=0\/r%2=1:=by omega
  rcases this with z | z<;>rw [z]<;>simp
 have mk:∀ n:Nat,n < 10000->gZ n (frF r)=true:=fun n hn=>iM (by omega) (by omega) _;generalize frF r=f at *;obtain ⟨ht,eht⟩:∃ ht,ht=PyData.tuple (hs.map Dd.dat):=⟨_,rfl⟩;rw [<- eht,xC];refine sq (.rt (.d (.tuple ((hs.map (fD f)).map Dd.dat))),h++[.l ((hs.map (fD f)).map Dd.dat)]) ?_ (cG (fun i hi=>List.getElem?_append_left hi) (by simp));refine sy [some (.d ht),some (.d (.int r)),some (.d (.int f)),none,none,none,none,none,none] h (by simp [aO,p36,a2,szl]) ?_;refine sy [some (.d ht),some (.d (.int r)),some (.d (.int f)),some (.c h.length),none,none,none,none,none] (h++[.l []]) (by simp) ?_;have go:∃ δ' h',bQ (aR [YG 4,YG 5,YG 6,YG 7,YG 8]) (hU d) none (hs.map Dd.dat) (hs.map Dd.dat) [some (.d ht),some (.d (.int r)),some (.d (.int f)),some (.c h.length),none,none,none,none,none] (h++[.l []])=some (.nx δ',h')/\((∃ x4 x5 x6 x7 x8,δ'=[some (.d ht),some (.d (.int r)),some (.d (.int f)),some (.c h.length),x4,x5,x6,x7,x8])/\h'=h++[.l ((hs.map (fD f)).map Dd.dat)]):=by
  refine iN (fun m δ H=>(∃ x4 x5 x6 x7 x8,δ=[some (.d ht),some (.d (.int r)),some (.d (.int f)),some (.c h.length),x4,x5,x6,x7,x8])/\H=h++[.l (((hs.take m).map (fD f)).map Dd.dat)]) ⟨⟨_,_,_,_,_,rfl⟩,rfl⟩ (fun δ H=>by rw [List.length_map,List.take_length];exact id) fun m hm δ H=>?_;rintro ⟨⟨x4,x5,x6,x7,x8,rfl⟩,rfl⟩;have hm':m < hs.length:=by simpa using hm
  have hlt:m < 16777216:=by have:=ok.len;omega
  rw [List.getElem_map];obtain ⟨x,hx⟩:∃ x,x=hs[m]:=⟨_,rfl⟩;have tk:hs.take (m+1)=hs.take m++[x]:=by rw [List.take_succ_eq_append_getElem hm',hx]
  obtain ⟨s1,s2⟩:=sm x (by rw [hx];exact List.getElem_mem hm');rw [<- hx,tk,List.map_append,List.map_append];have ln:(((hs.take m).map (fD f)).map Dd.dat).length=m:=by simp;omega
  generalize ((hs.take m).map (fD f)).map Dd.dat=acc at ln;have mp:=CI.mpre_last h acc;have gl:=CI.get_last h (.l acc);have sl:=CI.set_last h (.l acc);obtain ⟨a,b,c,e⟩:=x;have m1:=mk b s1;cases e with
  | none =>
   refine ⟨[some (.d ht),some (.d (.int r)),some (.d (.int f)),some (.c h.length),some (.d (.int a)),some (.d (.int b)),some (.d .none),some (.d c.dat),some (.d .none)],h++[.l acc],by simp [Dd.dat,Dd.endD,Dd.ansD,aR,cW],[some (.d ht),some (.d (.int r)),some (.d (.int f)),some (.c h.length),some (.d (.int a)),some (.d (.int b)),some (.d .none),some (.d c.dat),some (.d .none)],h++[.l (acc++[(fD f ⟨a,b,c,none⟩).dat])],?_,⟨_,_,_,_,_,rfl⟩,rfl⟩;simp [mp,gl,sl,m1,ln,hlt,szl,fD,Dd.dat,Dd.endD,Dd.ansD]
  | some p =>
   have m2:=mk p.1 (s2 p rfl);refine ⟨[some (.d ht),some (.d (.int r)),some (.d (.int f)),some (.c h.length),some (.d (.int a)),some (.d (.int b)),some (.d (.int p.1)),some (.d c.dat),some (.d (anD p.2))],h++[.l acc],by simp [Dd.dat,Dd.endD,Dd.ansD,aR,cW],[some (.d ht),some (.d (.int r)),some (.d (.int f)),some (.c h.length),some (.d (.int a)),some (.d (.int b)),some (.d (.int (p.1*f:Nat))),some (.d c.dat),some (.d (anD p.2))],h++[.l (acc++[(fD f ⟨a,b,c,some p⟩).dat])],?_,⟨_,_,_,_,_,rfl⟩,rfl⟩;simp [mp,gl,sl,m1,m2,ln,hlt,szl,fD,Dd.dat,Dd.endD,Dd.ansD]
 obtain ⟨_,_,e,⟨x4,x5,x6,x7,x8,rfl⟩,rfl⟩:=go;refine sy [some (.d ht),some (.d (.int r)),some (.d (.int f)),some (.c h.length),x4,x5,x6,x7,x8] (h++[.l ((hs.map (fD f)).map Dd.dat)]) ?_ ?_
 ·refine sq ((hs.map Dd.dat,none),h++[.l []]) (by rw [eht];simp) ?_;unfold YFr;exact e
 ·simp [bM,ref]
end K45

namespace K45
open PySem PySem.Spec PyProof.Rows L2 DL CI SJ
def gD (hs:List Dd) (i:Nat):Dd:=hs.getD i dfD
def lT {hs:List Dd} {i:Nat} (hi:i < hs.length):gD hs i∈hs:=by
 unfold gD;rw [List.getD_eq_getElem?_getD,List.getElem?_eq_getElem hi];exact List.getElem_mem hi
def jP {hs:List Dd} {i:Nat} (hi:i < hs.length):hs[i]=gD hs i:=by simp [gD,List.getD,hi]
def xJ {hs:List Dd} (h:hs.Pairwise Tog) {i j:Nat} (hi:i < hs.length) (hj:j < hs.length) (hn:i≠j):Tog (gD hs i) (gD hs j):=by
 rw [<- jP hi,<- jP hj];rcases Nat.lt_or_gt_of_ne hn with z | z
 ·exact List.pairwise_iff_getElem.mp h i j hi hj z
 ·exact (List.pairwise_iff_getElem.mp h j i hj hi z).symm
def nmD (hs:List Dd) (i:Nat):PyData:=.tuple [.int i,(gD hs i).dat]
theorem kH:∀ (xs:List PyData) (k:Nat),jC k xs=(List.range xs.length).map fun i=>.tuple [.int (k+i:Nat),xs.getD i .none]
 | [],k=>rfl
 | x::r,k=>by
  rw [jC,kH r (k+1),List.length_cons,List.range_succ_eq_map,List.map_cons,List.map_map]
  congr 1
  refine List.map_congr_left fun i _=>?_;simp;omega
def sO (hs:List Dd):bX (hs.map Dd.dat)=(List.range hs.length).map (nmD hs):=by
 unfold bX;rw [kH,List.length_map];refine List.map_congr_left fun i hi=>?_;have hi:=List.mem_range.mp hi;simp [nmD,gD,List.getD,hi]
variable (d:Nat) (h:aA)
def ypS {α β:Type} {x:Option α} {f:α->Option β} {R:Option β} (a:α) (e:x=some a) (k:f a=R):YP x f=R:=by
 rw [e];exact k
def ypQ {α β:Type} {Q:Option β->Prop} {x:Option α} {f:α->Option β} (a:α) (e:x=some a) (k:Q (f a)):Q (YP x f):=by
 rw [e];exact k
def QL (h:aA) (x:Option (Fl×aA)):Prop:=x.bind (ends h)=some (.none,h)
def mH {hs:List Dd} (ok:HOk hs):aE T (d+11) "look_over" [.d (.tuple (hs.map Dd.dat))] h=some (.none,h):=by
 have eS:∀ δ:DSt,ends h (.nx δ,h)=some (.none,h):=fun δ=>by
  rw [aN1,if_pos (dC h),List.take_of_length_le (Nat.le_refl _)]
 obtain ⟨ht,eht⟩:∃ ht,ht=PyData.tuple (hs.map Dd.dat):=⟨_,rfl⟩;have xe:∀ H,iX (.d ht) H=some (((List.range hs.length).map (nmD hs),none),H):=fun H=>by rw [eht,rX,sO]
 have nd:noD ht=true:=by rw [eht];rfl
 have it:isi ht "tuple"=true:=by rw [eht];rfl
 have ln:bJ [.d ht] h=some (.d (.int hs.length),h):=by rw [eht];simp
 have n60:¬ (60:Int) < hs.length:=by have:=ok.len;omega
 have cu:∀ i,i < hs.length->xSl (.d ht) none (some (i:Int)) h=some (.d (.tuple ((hs.map Dd.dat).take i)),h):=fun i hi=>by
  have:=sJ (hs.map Dd.dat) (m:=i) (by simp;omega);rw [eht];show some (W.d (.tuple (cut (hs.map Dd.dat) none (some (i:Int)))),h)=_;rw [this]
 rw [<- eht,show d+11=(d+10)+1 from rfl,uT];have l1:∃ δ' h',bQ (aR [YG 1,YG 2]) (dN false (d+10)) none ((List.range hs.length).map (nmD hs)) ((List.range hs.length).map (nmD hs)) [some (.d ht),none,none,none] h=some (.nx δ',h')/\((∃ x1 x2 x3,δ'=[some (.d ht),x1,x2,x3])/\h'=h):=by
  refine lE (fun δ H=>(∃ x1 x2 x3,δ=[some (.d ht),x1,x2,x3])/\H=h) _ ?_ _ _ ⟨⟨_,_,_,rfl⟩,rfl⟩;rintro x hx δ H ⟨⟨x1,x2,x3,rfl⟩,rfl⟩;obtain ⟨i,hi,rfl⟩:=List.mem_map.mp hx;have hi:=List.mem_range.mp hi;have cd:=lR (bm:=false) d H (gD hs i) (ok.ok _ (lT hi));refine ⟨[some (.d ht),some (.d (.int i)),some (.d (gD hs i).dat),x3],H,by simp [nmD,aR,cW],[some (.d ht),some (.d (.int i)),some (.d (gD hs i).dat),x3],H,?_,⟨_,_,_,rfl⟩,rfl⟩;simp [cd]
 have l2:∀ x1 x2 x3,∃ δ' h',bQ (aR [YG 1,YG 3]) (dJ false (d+10)) none ((List.range hs.length).map (nmD hs)) ((List.range hs.length).map (nmD hs)) [some (.d ht),x1,x2,x3] h=some (.nx δ',h')/\((∃ x1 x2 x3,δ'=[some (.d ht),x1,x2,x3])/\h'=h):=fun x1 x2 x3=>by
  refine lE (fun δ H=>(∃ x1 x2 x3,δ=[some (.d ht),x1,x2,x3])/\H=h) _ ?_ _ _ ⟨⟨_,_,_,rfl⟩,rfl⟩;rintro x hx δ H ⟨⟨x1,x2,x3,rfl⟩,rfl⟩;obtain ⟨i,hi,rfl⟩:=List.mem_map.mp hx;have hi:=List.mem_range.mp hi;refine ⟨[some (.d ht),some (.d (.int i)),x2,some (.d (gD hs i).dat)],H,by simp [nmD,aR,cW],[some (.d ht),some (.d (.int i)),x2,some (.d (gD hs i).dat)],H,?_,⟨_,_,_,rfl⟩,rfl⟩;have cu:=cu i hi;obtain ⟨qs,hqs⟩:∃ qs,qs=hs.take i:=⟨_,rfl⟩;have eq:qs.map Dd.dat=(hs.map Dd.dat).take i:=by rw [hqs,List.map_take]
  have cm:aV (YG 0) (aD true) (xb (Y2 (aB 1) (aB 0)) (YF false (d+10) "go_together")) none (qs.map Dd.dat) (qs.map Dd.dat) [none,some (.d (gD hs i).dat)] H []=some (qs.map fun _=>.bool true,H):=by
   refine cmM Dd.dat (fun _=>.bool true) (fun δ=>∃ u,δ=[u,some (.d (gD hs i).dat)]) _ _ ⟨_,rfl⟩ fun y hy δ hδ=>?_;obtain ⟨u,rfl⟩:=hδ;refine ⟨_,rfl,⟨_,rfl⟩,?_⟩;rw [hqs] at hy;obtain ⟨j,hj,ej⟩:=List.getElem_of_mem hy;rw [List.length_take] at hj;rw [List.getElem_take] at ej;have hj':j < hs.length:=by omega
   rw [jP hj'] at ej;subst ej;have:=jJ (bm:=false) (d+7) H (xJ ok.pw hi hj' (by omega));simp [this]
  simp only [iA,kF,lL,lH,lN,lO,lP,oW,oX,oY,lF,lG,oR,oV,mS,oS,oT,oU,bdi] at cm;rw [eq] at cm;have bc:=iR true qs;simp [cu,cm,bc]
 show QL h _;refine syP [some (.d ht),none,none,none] h (by simp [nd,it,ln,n60]) ?_;refine syE (fun δ H=>(∃ x1 x2 x3,δ=[some (.d ht),x1,x2,x3])/\H=h) ?_ ?_
 ·exact zJ (((List.range hs.length).map (nmD hs),none),h) (by simp [xe]) l1
 rintro _ _ ⟨⟨x1,x2,x3,rfl⟩,rfl⟩;obtain ⟨_,_,e2,⟨y1,y2,y3,rfl⟩,rfl⟩:=l2 x1 x2 x3;refine ypQ _ (ypS (((List.range hs.length).map (nmD hs),none),_) (by simp [xe]) e2) ?_;exact eS _
end K45

namespace K45
open PySem PySem.Spec PyProof.Rows L2 DL CI SJ
noncomputable def Dd.keep (x:Dd):Bool:=match x.fin with
 | some (_,none)=>false
 | _=>true
def nums (hs:List Dd):List Nat:=(List.range hs.length).filter fun i=>(gD hs i).keep
def bgI (hs:List Dd) (i:Nat):Int:=(gD hs i).beg
def tk (hs:List Dd):List Nat:=byI (bgI hs) (nums hs)
def xK (a:An1) (n:Nat):aK (n+1) a.dat=true:=by cases a<;>simp [An1.dat]
theorem sP:∀ (as:List An1) (n:Nat),plainsB (n+1) (as.map An1.dat)=true
 | [],n=>by simp
 | a::r,n=>by simp [xK,sP r]
def bQ0 (a:SJ.Ans):aK 64 a.dat=true:=by
 cases a with
 | one a=>exact xK a 63
 | all ns=>simp [Ans.dat,nB]
 | each as=>simp [Ans.dat,sP]
def aP3 (x:Dd) (h:aA):xEq (.d x.ansD) (.d (.tuple [.str "refused"])) h=some (!x.keep):=by
 obtain ⟨a,b,c,e⟩:=x;have:xEq (.d (Dd.mk a b c e).ansD) (.d (.tuple [.str "refused"])) h=if (aK 64 (Dd.mk a b c e).ansD&&aK 64 (.tuple [.str "refused"]))=true then some (PyData.eqv (Dd.mk a b c e).ansD (.tuple [.str "refused"])) else none:=rfl
 rw [this];cases e with
 | none=>simp [Dd.ansD,PyData.eqv,Dd.keep]
 | some p =>
  obtain ⟨t,o⟩:=p;cases o with
  | none=>simp [Dd.ansD,anD,aD4,PyData.eqv,PyData.eqvAll,Dd.keep]
  | some a =>
   have pa:=bQ0 a;simp only [Dd.ansD,anD,pa,Dd.keep];cases a with
   | one a=>cases a<;>simp [Ans.dat,An1.dat,PyData.eqv,PyData.eqvAll]
   | all ns=>simp [Ans.dat,PyData.eqv,PyData.eqvAll]
   | each as=>simp [Ans.dat,PyData.eqv,PyData.eqvAll]
def fY {hs:List Dd} {i:Nat} (h:i∈nums hs):i < hs.length:=List.mem_range.mp (List.mem_filter.mp h).1
def zM (hs:List Dd):(nums hs).Nodup:=List.nodup_range.filter _
def pF {hs:List Dd} (ok:HOk hs):(nums hs).length<=60:=by
 have:=List.length_filter_le (fun i=>(gD hs i).keep) (List.range hs.length);rw [List.length_range] at this;exact Nat.le_trans this ok.len
def aP4 {hs:List Dd} (ok:HOk hs) {i j:Nat} (hi:i < hs.length) (hj:j < hs.length) (hn:i≠j):bgI hs i≠bgI hs j:=fun e=>by
 have:=(xJ ok.pw hi hj hn).ne (gD hs i).beg;refine this ?_ ?_
 ·unfold Dd.tms;exact List.mem_cons_self
 ·have e:((gD hs i).beg:Int)=(gD hs j).beg:=e;rw [e];unfold Dd.tms;exact List.mem_cons_self
theorem aP5 {α:Type} (k:α->Int):∀ qs:List α,dG (qs.map fun q=>.int (k q))=some (qs.map k)
 | []=>rfl
 | q::r=>by rw [List.map_cons,dG,aP5 k r];rfl
theorem qX {α:Type} {f:XR W} {δ:DSt} {i:Nat} {h:aA} (F:α->PyData) (k:α->PyData):∀ qs:List α,(∀ q∈qs,f (δ.set i (some (.d (F q)))) h=some (.d (k q),h))->gK f δ i (qs.map F) h=some (qs.map k,h)
 | [],_=>rfl
 | q::r,hq=>by
  rw [List.map_cons,gK,hq q List.mem_cons_self];simp only [CI.bs];rw [qX F k r fun x hx=>hq x (List.mem_cons_of_mem _ hx)];rfl
noncomputable def tE:List (Pos×Str):=[(⟨200,31,200,64⟩,"taking_part.<locals>.<lambda>")]
def vH (ts:List (Pos×Str)):Prop:=ts=[]\/ts=tE
def bQ1 {ts:List (Pos×Str)} (h:vH ts):tQ ⟨200,31,200,64⟩ "taking_part.<locals>.<lambda>" ts=some tE:=by
 rcases h with rfl | rfl
 ·rfl
 ·unfold tQ tE;simp [atP]
def jK {hs:List Dd} {i:Nat} (hi:i < hs.length) (H:aA):xIx (.d (.tuple (hs.map Dd.dat))) (.d (.int i)) H=some (.d (gD hs i).dat,H):=by
 rw [CI.ix_t,bG2 hi];rfl
def pZ (x:Dd) (H:aA):xIx (.d x.dat) (.d (.int 1)) H=some (.d (.int x.beg),H):=by simp [Dd.dat]
def aD8 (x:Dd) (H:aA):xIx (.d x.dat) (.d (.int 0)) H=some (.d (.int x.hand),H):=by simp [Dd.dat]
def aZ8 (x:Dd) (H:aA):xIx (.d x.dat) (.d (.int 2)) H=some (.d x.endD,H):=by simp [Dd.dat]
def cB3 (x:Dd) (H:aA):xIx (.d x.dat) (.d (.int 3)) H=some (.d x.call.dat,H):=by simp [Dd.dat]
def aZ9 (x:Dd) (H:aA):xIx (.d x.dat) (.d (.int 4)) H=some (.d x.ansD,H):=by simp [Dd.dat]
def sQ {H:aA} {ts:List (Pos×Str)} {z:PyData}:ends H (.rt (.d z),H.set 0 (.t ts))=some (z,H.set 0 (.t ts)):=by
 have ok:okP H (H.set 0 (.t ts)):=fun i c hi e=>by
  by_cases z:i=0
  ·subst z;rw [List.getElem?_set_self hi] at e;injection e with e
   subst e;exact .inl (fun _ z=>nomatch z)
  ·rw [List.getElem?_set_ne (fun q=>z q.symm)] at e;exact .inr e
 rw [rY,if_pos ok,List.take_of_length_le (by simp)]
def aP6 (d:Nat) {hs:List Dd} (ok:HOk hs) {H:aA} {ts:List (Pos×Str)} (ht:H[0]?=some (.t ts)) (hts:vH ts):aE T (d+1) "taking_part" [.d (.tuple (hs.map Dd.dat))] H=some (.list ((tk hs).map nI),H.set 0 (.t tE)):=by
 have ai:=fun {i} hi H=>jK (hs:=hs) (i:=i) hi H;obtain ⟨hd,ehd⟩:∃ hd,hd=PyData.tuple (hs.map Dd.dat):=⟨_,rfl⟩;have xe:∀ H,iX (.d hd) H=some (((List.range hs.length).map (nmD hs),none),H):=fun H=>by rw [ehd,rX,sO]
 rw [<- ehd] at ai;rw [<- ehd,pU];have cm:aV (aR [YG 0,YG 1]) (xC1 CmpOp.NotEq (YV 1 4) (aD (W.d (PyData.tuple [PyData.str (Str.ofString "refused")])))) (aB 0) none ((List.range hs.length).map (nmD hs)) ((List.range hs.length).map (nmD hs)) [none,none] H []=some ((nums hs).map nI,H):=by
  rw [cmT (nmD hs) (fun i=>(gD hs i).keep) nI (fun δ=>∃ u v,δ=[u,v]) _ _ [] ⟨_,_,rfl⟩ fun i hi δ hδ=>?_]
  ·rfl
  ·obtain ⟨u,v,rfl⟩:=hδ;refine ⟨[some (.d (.int i)),some (.d (gD hs i).dat)],by simp [nmD,aR,cW],⟨_,_,rfl⟩,?_,fun _=>rfl⟩;have nr:=aP3 (gD hs i) H;have d4:=aZ9 (gD hs i) H;simp [d4,nr]
 have lm:nO false (xb (xb (aB 1) fun x=>xb (aB 0) (YX x)) (YI 1)) [none,some 0] 0 "taking_part.<locals>.<lambda>" ⟨200,31,200,64⟩ (.d (.list ((nums hs).map nI))) [some (.d hd),some (.d (.list ((nums hs).map nI)))] H=some ((tk hs).map nI,H.set 0 (.t tE)):=by
  unfold nO;simp only [ref,ht];rw [bQ1 hts];simp only [CI.bs];rw [qX nI (fun i=>.int (bgI hs i)) (nums hs) fun i hi=>?_]
  ·simp only [CI.bs];have nd:((nums hs).map (bgI hs)).Nodup:=List.pairwise_map.mpr ((zM hs).imp_of_mem fun {i j} hi hj hn=>aP4 ok (fY hi) (fY hj) hn);have l6:((nums hs).map nI).length < 64:=by rw [List.length_map];have:=pF ok;omega
   unfold byK;rw [if_neg (by simp),aP5 (bgI hs) (nums hs)];simp only [CI.bs];rw [if_pos ⟨nd,l6⟩,bG0];rfl
  ·have ai:=ai (fY hi);have d1:=pZ (gD hs i);simp [nI,ai,d1,bgI]
 simp only [iA,kF,lL,lH,lN,lO,lP,oW,oX,oY,lF,lG,oR,oV,mS,oS,oT,oU,bdi] at cm lm;refine sq (.rt (.d (.list ((tk hs).map nI))),H.set 0 (.t tE)) ?_ sQ;refine sy [some (.d hd),some (.d (.list ((nums hs).map nI)))] H (by simp [xe,cm]) ?_;simp [lm]
end K45

namespace K45
open PySem PySem.Spec PyProof.Rows L2 DL CI SJ
def aP7 (o:One) (n:Nat):aK (n+1) o.dat=true:=by cases o<;>simp [One.dat]
theorem zN:∀ (os:List One) (n:Nat),plainsB (n+1) (os.map One.dat)=true
 | [],n=>by simp
 | o::r,n=>by simp [aP7,zN r]
structure It where
 c:SJ.Call
 t:Option SJ.Ans
 w:Bool
noncomputable def wdS (b:Bool):String:=if b=true then "may" else "must"
def It.dat (x:It):PyData:=.tuple [x.c.dat,tD x.t,.str (Str.ofString (wdS x.w))]
structure It.ok (x:It):Prop where
 c:x.c.ok
 t:∀ a,x.t=some a->Ans.fits x.c a
noncomputable def aP8 (x:Dd):Option SJ.Ans:=x.fin.bind (·.2)
def vI {x:Dd} (h:x.keep=true):x.ansD=tD (aP8 x):=by
 obtain ⟨a,b,c,e⟩:=x;cases e with
 | none=>rfl
 | some p =>
  obtain ⟨t,o⟩:=p;cases o with
  | none=>cases h
  | some a=>rfl
def sS (x:Dd):xIs (.d x.endD) (.d .none)=some x.fin.isNone:=by
 obtain ⟨a,b,c,e⟩:=x;cases e<;>rfl
def bA0 (d:Nat) (h:aA) {hs:List Dd} {i:Nat} (hi:i < hs.length) (s a:PyData):aE T (d+1) "entry" [.d (.tuple (hs.map Dd.dat)),.d (.int i),.d s,.d a] h=some (.tuple [.tuple [s,a,.str (Str.ofString (wdS (gD hs i).fin.isNone))],.int i],h):=by
 have eS:∀ z:PyData,ends h (.rt (.d z),h)=some (z,h):=fun z=>cG (fun _ _=>rfl) (Nat.le_refl _);have ai:=jK hi h;have d2:=aZ8 (gD hs i) h;have ie:=sS (gD hs i);generalize PyData.tuple (hs.map Dd.dat)=hd at *;rw [aY4];generalize (gD hs i).fin.isNone=b at *;cases b<;>simp [ai,d2,ie,szl,wdS,eS]
def sT (hs:List Dd):(tk hs).Perm (nums hs):=pE _ _
def mI {hs:List Dd} {i:Nat} (h:i∈tk hs):i < hs.length:=fY ((sT hs).mem_iff.mp h)
def zO {hs:List Dd} {i:Nat} (h:i∈tk hs):(gD hs i).keep=true:=(List.mem_filter.mp ((sT hs).mem_iff.mp h)).2
def pG {hs:List Dd} (ok:HOk hs):(tk hs).length<=60:=by rw [(sT hs).length_eq];exact pF ok
def itO (hs:List Dd) (i:Nat):It:=⟨(gD hs i).call,aP8 (gD hs i),(gD hs i).fin.isNone⟩
def jA (hs:List Dd) (i:Nat):PyData:=.tuple [(itO hs i).dat,.int i]
def bA1 (d:Nat) {hs:List Dd} (ok:HOk hs) {H:aA} {ts:List (Pos×Str)} (ht:H[0]?=some (.t ts)) (hts:vH ts):aE T (d+2) "whole_entries" [.d (.tuple (hs.map Dd.dat))] H=some (.list ((tk hs).map (jA hs)),H.set 0 (.t tE)):=by
 have ct:=aP6 d ok ht hts;have ai:=fun {i} hi H=>jK (hs:=hs) (i:=i) hi H;have ce:=fun {i} hi H s a=>bA0 d H (hs:=hs) (i:=i) hi s a;generalize PyData.tuple (hs.map Dd.dat)=hd at *;rw [show d+2=(d+1)+1 from rfl,mV];have cm:aV (YG 0) (aD true) (xb (Y4 (aB 1) (aB 0) (xb (xb (aB 1) (YXx (aB 0))) (YI 3)) (xb (xb (aB 1) (YXx (aB 0))) (YI 4))) (YF false (d+1) "entry")) none ((tk hs).map nI) ((tk hs).map nI) [none,some (.d hd)] (H.set 0 (.t tE)) []=some ((tk hs).map (jA hs),H.set 0 (.t tE)):=by
  refine cmM nI (jA hs) (fun δ=>∃ u,δ=[u,some (.d hd)]) _ _ ⟨_,rfl⟩ fun i hi δ hδ=>?_;obtain ⟨u,rfl⟩:=hδ;refine ⟨_,rfl,⟨_,rfl⟩,?_⟩;have ai:=ai (mI hi) (H.set 0 (.t tE));have d3:=cB3 (gD hs i) (H.set 0 (.t tE));have d4:=aZ9 (gD hs i) (H.set 0 (.t tE));have ce:=ce (mI hi) (H.set 0 (.t tE)) (gD hs i).call.dat (gD hs i).ansD;have e:jA hs i=.tuple [.tuple [(gD hs i).call.dat,(gD hs i).ansD,.str (Str.ofString (wdS (gD hs i).fin.isNone))],.int i]:=by simp only [jA,It.dat,itO];rw [vI (zO hi)]
  rw [e];generalize (gD hs i).call.dat=c at *;generalize (gD hs i).ansD=a at *;simp [nI,ai,d3,d4,ce]
 simp only [iA,kF,lL,lH,lN,bZ9,lO,lP,oW,oX,oY,lF,lG,oR,oV,mS,oS,oT,oU,bdi] at cm;have eE:∀ z,ends H (.rt (.d z),H.set 0 (.t tE))=some (z,H.set 0 (.t tE)):=fun z=>sQ;simp [ct,cm,eE]
end K45

namespace K45
open PySem PySem.Spec PyProof.Rows L2 DL CI SJ
theorem fG {α:Type} {g:XG} {tb:XS} {all:List PyData} (F:α->PyData) (outs:α->List PyData) (C:List PyData->aA) (I:DSt->Prop) (N k:Nat) (hk:∀ q,(outs q).length<=k):∀ (qs:List α) (acc:List PyData) (δ:DSt),I δ->acc.length+k*qs.length<=N ->
  (∀ q∈qs,∀ acc δ,I δ->acc.length+k<=N->∃ δ1,g (.d (F q)) δ (C acc)=some (δ1,C acc)/\∃ δ2,tb δ1 (C acc)=some (.nx δ2,C (acc++outs q))/\I δ2) ->
  ∃ δ',bQ g tb none all (qs.map F) δ (C acc)=some (.nx δ',C (acc++(qs.map outs).flatten))/\I δ'
 | [],acc,δ,i,_,_=>⟨δ,by simp [bQ],i⟩
 | q::r,acc,δ,i,hN,ht=>by
  rw [List.length_cons,Nat.mul_succ] at hN;obtain ⟨δ1,e1,δ2,e2,i2⟩:=ht q List.mem_cons_self acc δ i (by omega);have hq:=hk q;obtain ⟨δ3,e3,i3⟩:=fG (all:=all) F outs C I N k hk r (acc++outs q) δ2 i2 (by rw [List.length_append];omega) fun y hy=>ht y (List.mem_cons_of_mem _ hy);refine ⟨δ3,?_,i3⟩;rw [List.map_cons,bQ,cN,if_pos rfl,e1];simp only [CI.bs,e2];rw [e3,List.map_cons,List.flatten_cons,List.append_assoc]
theorem exI {P Q:DSt->Prop} {x:Option (Fl×aA)} {H:aA} (e:∃ δ',x=some (.nx δ',H)/\P δ') (k:∀ δ,P δ->Q δ):∃ δ',x=some (.nx δ',H)/\Q δ':=by
 obtain ⟨δ',e,p⟩:=e;exact ⟨δ',e,k δ' p⟩
def yeE {P:DSt->Prop} {x:Option (Fl×aA)} {H:aA} (e:∃ δ',x=some (.nx δ',H)/\P δ'):∃ δ',YP x YE=some (.nx δ',H)/\P δ':=by
 obtain ⟨δ',e,p⟩:=e;exact ⟨δ',by rw [e];rfl,p⟩
def ypF {α:Type} {P:DSt->Prop} {x:Option α} {f:α->Option (Fl×aA)} {g:Fl×aA->Option (Fl×aA)} {H:aA} (a:α) (e:x=some a) (k:∃ δ',YP (f a) g=some (.nx δ',H)/\P δ'):∃ δ',YP (YP x f) g=some (.nx δ',H)/\P δ':=by
 rw [e];exact k
noncomputable def nxN (ns:List Nat) (x:Nat):Nat:=ns.getD x 0
def nmN (ns:List Nat) (x:Nat):PyData:=.tuple [.int x,.int (nxN ns x)]
def bA2 (ns:List Nat):bX (ns.map nI)=(List.range ns.length).map (nmN ns):=by
 unfold bX;rw [kH,List.length_map];refine List.map_congr_left fun i hi=>?_;have hi:=List.mem_range.mp hi;simp [nmN,nxN,nI,List.getD,hi]
set_option genInjectivity true in
inductive Pm
 | real | row | any
noncomputable def Pm.nm:Pm->String
 | .real=>"real"
 | .row=>"row"
 | .any=>"any"
def kI (hs:List Dd) (i j:Nat):Bool:=(gD hs i).below (gD hs j).beg
def mK (hs:List Dd) (i j:Nat):Bool:=decide ((gD hs i).hand=(gD hs j).hand)&&decide ((gD hs i).beg < (gD hs j).beg)
def fQ (hs:List Dd):Pm->Nat->Nat->Bool
 | .real,i,j=>kI hs i j
 | .row,i,j=>mK hs i j
 | .any,_,_=>false
noncomputable def Pm.fn:Pm->Str
 | .real=>Str.ofString "really_ahead"
 | _=>Str.ofString "ahead_by_hand"
variable (d:Nat) (h:aA)
def aD9 {hs:List Dd} {i j:Nat} (hi:i < hs.length) (hj:j < hs.length):aE T (d+2) "really_ahead" [.d (.tuple (hs.map Dd.dat)),.d (.int i),.d (.int j)] h=some (.bool (kI hs i j),h):=by
 have eS:∀ z:PyData,ends h (.rt (.d z),h)=some (z,h):=fun z=>cG (fun _ _=>rfl) (Nat.le_refl _);have a1:=jK hi h;have a2:=jK hj h;have b4:=pZ (gD hs j) h;have cb:=cS (bm:=false) d h (gD hs i) (gD hs j).beg;unfold kI;generalize PyData.tuple (hs.map Dd.dat)=hd at *;generalize (gD hs i).below (gD hs j).beg=b at *;generalize (gD hs i).dat=x at *;generalize (gD hs j).dat=y at *;rw [show d+2=(d+1)+1 from rfl,oZ];simp [a1,a2,b4,cb,eS]
def aE0 {hs:List Dd} {i j:Nat} (hi:i < hs.length) (hj:j < hs.length):aE T (d+1) "ahead_by_hand" [.d (.tuple (hs.map Dd.dat)),.d (.int i),.d (.int j)] h=some (.bool (mK hs i j),h):=by
 have eS:∀ z:PyData,ends h (.rt (.d z),h)=some (z,h):=fun z=>cG (fun _ _=>rfl) (Nat.le_refl _);have a1:=jK hi h;have a2:=jK hj h;have b1:=aD8 (gD hs i) h;have b2:=aD8 (gD hs j) h;have b3:=pZ (gD hs i) h;have b4:=pZ (gD hs j) h;unfold mK;generalize PyData.tuple (hs.map Dd.dat)=hd at *;generalize gD hs i=x at *;generalize gD hs j=y at *;rw [mW]
 by_cases c:x.hand=y.hand
 ·have c':(x.hand:Int)=y.hand:=by omega
  simp [a1,a2,b1,b2,b3,b4,c,eS]
 ·have c':¬ (x.hand:Int)=y.hand:=by omega
  simp [a1,a2,b1,b2,b3,b4,c,c',eS]
def bA3 {hs:List Dd} {p:Pm} (hp:p≠.any) {i j:Nat} (hi:i < hs.length) (hj:j < hs.length):aE T (d+2) p.fn [.d (.tuple (hs.map Dd.dat)),.d (.int i),.d (.int j)] h=some (.bool (fQ hs p i j),h):=by
 cases p with
 | real=>exact aD9 d h hi hj
 | row=>exact aE0 (d+1) h hi hj
 | any=>exact (hp rfl).elim
def aP9 (D:Str->XF) (p:Pm):fnT T D p.fn=some (D p.fn):=by
 cases p<;>kernel_rfl
def bG3 (g:Str):kT [(.none,.str g)]=some g:=rfl
noncomputable def p2 (p:Nat×Nat):PyData:=.tuple [.int p.1,.int p.2]
def sU (hs:List Dd) (p:Pm) (ns:List Nat) (x:Nat):List PyData:=((List.range ns.length).map fun y=>if fQ hs p (nxN ns x) (nxN ns y)=true then [p2 (x,y)] else []).flatten
def dX (hs:List Dd) (p:Pm) (ns:List Nat):List PyData:=((List.range ns.length).map (sU hs p ns)).flatten
theorem pH {α:Type} (f:α->List PyData) (k:Nat) (hk:∀ a,(f a).length<=k):∀ qs:List α,((qs.map f).flatten).length<=k*qs.length
 | []=>by simp
 | a::r=>by
  have:=pH f k hk r;have:=hk a;rw [List.map_cons,List.flatten_cons,List.length_append,List.length_cons,Nat.mul_succ];omega
def sV (hs:List Dd) (p:Pm) (ns:List Nat) (x:Nat):(sU hs p ns x).length<=ns.length:=by
 have:=pH (fun y=>if fQ hs p (nxN ns x) (nxN ns y)=true then [p2 (x,y)] else []) 1 (fun y=>by split<;>simp) (List.range ns.length)
 simpa [sU] using this
def sW {ns:List Nat} {x:Nat} (hx:x < ns.length):nxN ns x∈ns:=by
 unfold nxN;rw [List.getD_eq_getElem?_getD,List.getElem?_eq_getElem hx];exact List.getElem_mem hx
def bA4 {hs:List Dd} {p:Pm} (hp:p≠.any) {ns:List Nat} (hn:∀ i∈ns,i < hs.length) (hl:ns.length<=60):aE T (d+3) "pairs_where" [.d (.tuple (hs.map Dd.dat)),.d (.tuple (ns.map nI)),.d (fkD p.fn)] h=some (.tuple (dX hs p ns),h):=by
 have ca:=fun {i j} hi hj h=>bA3 d h (hs:=hs) hp (i:=i) (j:=j) hi hj;obtain ⟨hd,ehd⟩:∃ hd,hd=PyData.tuple (hs.map Dd.dat):=⟨_,rfl⟩;obtain ⟨nd,end_⟩:∃ nd,nd=PyData.tuple (ns.map nI):=⟨_,rfl⟩;have xe:∀ H,iX (.d nd) H=some (((List.range ns.length).map (nmN ns),none),H):=fun H=>by rw [end_,rX,bA2]
 have ec:=fun z=>cG (z:=z) (h:=h) (H:=h++[.l (dX hs p ns)]) (fun i hi=>List.getElem?_append_left hi) (by simp);have fa:=aP9 (fun y=>aE T (d+2) y) p;rw [<- ehd] at ca;rw [<- ehd,<- end_,show d+3=(d+2)+1 from rfl,pV];have mp:=fun acc=>CI.mpre_last h acc;have gl:=fun acc=>CI.get_last h (.l acc);have sl:=fun acc acc'=>CI.set_last h (.l acc) (.l acc');have lp:∃ δ',bQ (aR [YG 4,YG 5]) (cT (d+2)) none ((List.range ns.length).map (nmN ns)) ((List.range ns.length).map (nmN ns)) [some (.d hd),some (.d nd),some (.d (fkD p.fn)),some (.c h.length),none,none,none,none] (h++[.l []])=some (.nx δ',h++[.l ([]++((List.range ns.length).map (sU hs p ns)).flatten)])/\∃ x4 x5 x6 x7,δ'=[some (.d hd),some (.d nd),some (.d (fkD p.fn)),some (.c h.length),x4,x5,x6,x7]:=by
  refine fG (nmN ns) (sU hs p ns) (fun acc=>h++[.l acc]) (fun δ=>∃ x4 x5 x6 x7,δ=[some (.d hd),some (.d nd),some (.d (fkD p.fn)),some (.c h.length),x4,x5,x6,x7]) 10000 60 (fun q=>Nat.le_trans (sV hs p ns q) hl) (List.range ns.length) [] _ ⟨_,_,_,_,rfl⟩ (by rw [List.length_range,List.length_nil];omega) ?_;rintro x hx acc δ ⟨x4,x5,x6,x7,rfl⟩ ha;have hx:=List.mem_range.mp hx;refine ⟨[some (.d hd),some (.d nd),some (.d (fkD p.fn)),some (.c h.length),some (.d (.int x)),some (.d (.int (nxN ns x))),x6,x7],by simp [nmN,aR,cW],?_⟩;unfold cT;refine ypF (((List.range ns.length).map (nmN ns),none),h++[.l acc]) (by simp [xe]) (yeE (exI (fG (nmN ns) (fun y=>if fQ hs p (nxN ns x) (nxN ns y)=true then [p2 (x,y)] else []) (fun acc=>h++[.l acc]) (fun δ=>∃ x6 x7,δ=[some (.d hd),some (.d nd),some (.d (fkD p.fn)),some (.c h.length),some (.d (.int x)),some (.d (.int (nxN ns x))),x6,x7]) 10100 1 (fun q=>by split<;>simp) _ _ _ ⟨_,_,rfl⟩ (by simp;omega) ?_) fun δ hδ=>by obtain ⟨x6,x7,rfl⟩:=hδ;exact ⟨_,_,_,_,rfl⟩));rintro y hy acc δ ⟨x6,x7,rfl⟩ ha;have hy:=List.mem_range.mp hy;refine ⟨[some (.d hd),some (.d nd),some (.d (fkD p.fn)),some (.c h.length),some (.d (.int x)),some (.d (.int (nxN ns x))),some (.d (.int y)),some (.d (.int (nxN ns y)))],by simp [nmN,aR,cW],?_⟩;have c:=ca (hn _ (sW hx)) (hn _ (sW hy)) (h++[.l acc]);have al:acc.length < 16777216:=by omega
  refine ⟨[some (.d hd),some (.d nd),some (.d (fkD p.fn)),some (.c h.length),some (.d (.int x)),some (.d (.int (nxN ns x))),some (.d (.int y)),some (.d (.int (nxN ns y)))],?_,_,_,rfl⟩;cases z:fQ hs p (nxN ns x) (nxN ns y) with
  | true =>
   rw [z] at c;simp [fkD,bG3,fa,c,mp,gl,sl,al,szl,p2]
  | false =>
   rw [z] at c;simp [fkD,bG3,fa,c]
 obtain ⟨_,e,x4,x5,x6,x7,rfl⟩:=lp;refine sq (.rt (.d (.tuple (dX hs p ns))),h++[.l (dX hs p ns)]) ?_ (ec _);refine sy [some (.d hd),some (.d nd),some (.d (fkD p.fn)),some (.c h.length),none,none,none,none] (h++[.l []]) (by simp) ?_;refine sy [some (.d hd),some (.d nd),some (.d (fkD p.fn)),some (.c h.length),x4,x5,x6,x7] (h++[.l (dX hs p ns)]) ?_ ?_
 ·exact ypS (((List.range ns.length).map (nmN ns),none),h++[.l []]) (by simp [xe]) (by rw [List.nil_append] at e;exact e)
 ·simp [bM,ref]
end K45

namespace K45
open PySem PySem.Spec PyProof.Rows L2 DL CI SJ
variable (d:Nat)
noncomputable def aE1:PyData:=.tuple [.int 0,.int 0,.int 0,.int 0,.int 0,.int 0,.int 0,.int 0]
def Pm.dat (p:Pm):PyData:=.str (Str.ofString p.nm)
def pbD (hs:List Dd) (p:Pm):PyData:=.tuple [aE1,.tuple ((tk hs).map fun i=>(itO hs i).dat),.tuple (dX hs p (tk hs)),.tuple []]
def nsD (hs:List Dd):PyData:=.tuple ((tk hs).map nI)
def frD (hs:List Dd) (p:Pm):PyData:=.tuple [.none,pbD hs p,nsD hs]
def bA5 (hs:List Dd) (ns:List Nat):dX hs .any ns=[]:=by
 unfold dX;rw [List.flatten_eq_nil_iff];intro l hl;obtain ⟨x,_,rfl⟩:=List.mem_map.mp hl;unfold sU;rw [List.flatten_eq_nil_iff];intro l hl;obtain ⟨y,_,rfl⟩:=List.mem_map.mp hl;simp [fQ]
def bA6 (h:aA) {hs:List Dd} (ok:HOk hs) (p:Pm):aE T (d+4) "frame" [.d (.tuple (hs.map Dd.dat)),.d p.dat,.d .none,.d (.list ((tk hs).map (jA hs)))] h=some (frD hs p,h):=by
 have eS:∀ z:PyData,ends h (.rt (.d z),h)=some (z,h):=fun z=>cG (fun _ _=>rfl) (Nat.le_refl _);have cp:=fun {p:Pm} (hp:p≠.any)=>bA4 d h (hs:=hs) hp (ns:=tk hs) (fun i hi=>mI hi) (pG ok);have m1:aV (aR [YG 0,YG 1]) (aD true) (aB 0) none ((tk hs).map (jA hs)) ((tk hs).map (jA hs)) [none,none] h []=some ((tk hs).map fun i=>(itO hs i).dat,h):=by
  refine cmM (jA hs) (fun i=>(itO hs i).dat) (fun δ=>∃ u v,δ=[u,v]) _ _ ⟨_,_,rfl⟩ fun e he δ hδ=>?_;obtain ⟨u,v,rfl⟩:=hδ;exact ⟨[some (.d (itO hs e).dat),some (.d (.int e))],by simp [jA,aR,cW],⟨_,_,rfl⟩,rfl⟩
 have m2:aV (aR [YG 0,YG 1]) (aD true) (aB 1) none ((tk hs).map (jA hs)) ((tk hs).map (jA hs)) [none,none] h []=some ((tk hs).map nI,h):=by
  refine cmM (jA hs) nI (fun δ=>∃ u v,δ=[u,v]) _ _ ⟨_,_,rfl⟩ fun e he δ hδ=>?_;obtain ⟨u,v,rfl⟩:=hδ;exact ⟨[some (.d (itO hs e).dat),some (.d (.int e))],by simp [jA,aR,cW],⟨_,_,rfl⟩,rfl⟩
 have e1:frD hs p=.tuple [.none,.tuple [.tuple [.int 0,.int 0,.int 0,.int 0,.int 0,.int 0,.int 0,.int 0],.tuple ((tk hs).map fun i=>(itO hs i).dat),.tuple (dX hs p (tk hs)),.tuple []],.tuple ((tk hs).map nI)]:=rfl;have cr:aE T (d+3) (Str.ofString "pairs_where") [.d (.tuple (hs.map Dd.dat)),.d (.tuple ((tk hs).map nI)),.d (fkD (Str.ofString "really_ahead"))] h=some (.tuple (dX hs .real (tk hs)),h):=cp (p:=.real) (by simp);have ch:aE T (d+3) (Str.ofString "pairs_where") [.d (.tuple (hs.map Dd.dat)),.d (.tuple ((tk hs).map nI)),.d (fkD (Str.ofString "ahead_by_hand"))] h=some (.tuple (dX hs .row (tk hs)),h):=cp (p:=.row) (by simp);have ca:=bA5 hs (tk hs);rw [e1];clear e1 cp;simp only [iA,kF,lL,lH,lN,lO,lP,oW,oX,oY,lF,lG,oR,oV,mS,oS,oT,oU,bdi] at m1 m2;generalize (tk hs).map nI=N at *;generalize ((tk hs).map fun i=>(itO hs i).dat)=Q at *;generalize (tk hs).map (jA hs)=E at *;generalize PyData.tuple (hs.map Dd.dat)=hd at *;rw [show d+4=(d+3)+1 from rfl,aY3];cases p with
 | real=>simp [Pm.dat,Pm.nm,xIn,ref,PyData.eqv,m1,m2,cr,szl,eS]
 | row=>simp [Pm.dat,Pm.nm,xIn,ref,PyData.eqv,m1,m2,ch,szl,eS]
 | any=>simp [Pm.dat,Pm.nm,xIn,ref,PyData.eqv,m1,m2,ca,szl,eS]
def in3 (p:Pm) (h:aA):xIn (.d p.dat) (.d (.tuple [.str (Str.ofString "real"),.str (Str.ofString "row"),.str (Str.ofString "any")])) h=some true:=by
 cases p<;>simp [Pm.dat,Pm.nm,xIn,ref,PyData.eqv]
def aQ0 {hs:List Dd} (ok:HOk hs) (p:Pm) {H:aA} {ts:List (Pos×Str)} (ht:H[0]?=some (.t ts)) (hts:vH ts):aE T (d+5) "framed" [.d (.tuple (hs.map Dd.dat)),.d p.dat] H=some (.list [frD hs p],H.set 0 (.t tE)):=by
 have eE:∀ z,ends H (.rt (.d z),H.set 0 (.t tE))=some (z,H.set 0 (.t tE)):=fun z=>sQ;have ct:=bA1 (d+2) ok ht hts;have cf:=bA6 d (H.set 0 (.t tE)) ok p;have i3:=in3 p H;rw [show d+5=(d+4)+1 from rfl,aN4];generalize PyData.tuple (hs.map Dd.dat)=hd at *;generalize p.dat=pd at *;generalize frD hs p=F at *;generalize (tk hs).map (jA hs)=E at *;simp [szl,i3,ct,cf,eE]
def bA7 (p:Pm) (h:aA):aE T (d+1) "check_promise" [.d p.dat] h=some (.none,h):=by
 have eS:∀ δ:DSt,ends h (.nx δ,h)=some (.none,h):=fun δ=>by
  rw [aN1,if_pos (dC h),List.take_of_length_le (Nat.le_refl _)]
 cases p<;>simp [Pm.dat,Pm.nm,mU,isi,fZ,xIn,ref,PyData.eqv,eS]
def vJ {hs:List Dd} (ok:HOk hs) (p:Pm) {H:aA} {ts:List (Pos×Str)} (ht:H[0]?=some (.t ts)) (hts:vH ts):aE T (d+12) "frames_of" [.d (.tuple (hs.map Dd.dat)),.d p.dat] H=some (.list [frD hs p],H.set 0 (.t tE)):=by
 have e1:=mH d H ok;have e2:=bA7 (d+10) p H;have e3:=aQ0 (d+6) ok p ht hts;generalize PyData.tuple (hs.map Dd.dat)=hd at *;generalize p.dat=pd at *;rw [show d+12=(d+11)+1 from rfl,uU];have eE:∀ z,ends H (.rt (.d z),H.set 0 (.t tE))=some (z,H.set 0 (.t tE)):=fun z=>sQ;simp [e1,e2,e3,eE]
def pnD (hs:List Dd) (p:Pm):PyData:=.tuple [.none,pbD hs p]
def pI {hs:List Dd} (ok:HOk hs) (p:Pm) {H:aA} {ts:List (Pos×Str)} (ht:H[0]?=some (.t ts)) (hts:vH ts):callW T (d+13) "problems_of" [.d (.tuple (hs.map Dd.dat)),.d p.dat] H=some (.c H.length,H.set 0 (.t tE)++[.l [pnD hs p]]):=by
 have e1:=vJ d ok p ht hts;have m:aV (aR [YG 0,YG 1,YG 2]) (aD true) (xb (xPl (Y2 (aB 0) (aB 1))) YT) none [frD hs p] [frD hs p] [none,none,none] (H.set 0 (.t tE)) []=some ([pnD hs p],H.set 0 (.t tE)):=by
  simp [aV,CI.condB,frD,pnD,aR,cW,szl]
 generalize PyData.tuple (hs.map Dd.dat)=hd at *;generalize p.dat=pd at *;simp only [iA,kF,lL,lH,lN,lO,lP,oW,oX,oY,lF,lG,oR,oV,mS,oS,oT,oU,bdi] at m;rw [show d+13=(d+12)+1 from rfl,pA];simp [e1,m,jE]
def bA8 {hs:List Dd} (ok:HOk hs) (p:Pm) {H:aA} {ts:List (Pos×Str)} (ht:H[0]?=some (.t ts)) (hts:vH ts):callW T (d+13) "deeds_of" [.d (.tuple (hs.map Dd.dat)),.d p.dat] H=some (.c H.length,H.set 0 (.t tE)++[.l [nsD hs]]):=by
 have e1:=vJ d ok p ht hts;have m:aV (aR [YG 0,YG 1,YG 2]) (aD true) (aB 2) none [frD hs p] [frD hs p] [none,none,none] (H.set 0 (.t tE)) []=some ([nsD hs],H.set 0 (.t tE)):=by
  simp [aV,CI.condB,frD,aR,cW,szl]
 generalize PyData.tuple (hs.map Dd.dat)=hd at *;generalize p.dat=pd at *;simp only [iA,kF,lL,lH,lN,lO,lP,oW,oX,oY,lF,lG,oR,oV,mS,oS,oT,oU,bdi] at m;rw [show d+13=(d+12)+1 from rfl,uX];simp [e1,m,jE]
end K45

namespace K45
open PySem PySem.Spec PyProof.Rows L2 DL CI SJ
variable (d:Nat) (h:aA)
def bG4 (x:It):nD x.dat=true:=by
 obtain ⟨c,t,w⟩:=x;cases t with
 | none=>simp [It.dat,tD]
 | some a=>simp [It.dat,tD,aN7]
def aQ1 (w:Bool):xIn (.d (.str (Str.ofString (wdS w)))) (.d (.tuple [.str (Str.ofString "must"),.str (Str.ofString "may"),.str (Str.ofString "out")])) h=some true:=by
 cases w<;>simp [xIn,ref,PyData.eqv,wdS]
def aE2 {x:It} (hx:x.ok):aE T (d+10) "is_item" [.d x.dat] h=some (.bool true,h):=by
 have e0:=bV (bm:=false) (d+8) x.dat h 3 (bG4 x);have e1:=aD3 (d+1) x.c.dat h (xG hx.c) (sH x.c);rw [(fE hx.c).2.1] at e1;have ew:=aQ1 h x.w;obtain ⟨c,t,w⟩:=x;dsimp only at e1 ew;cases t with
 | none =>
  simp only [It.dat,tD] at e0 ⊢;simp [qQ,fW,e0,e1,isi,fZ,ew]
 | some a =>
  have e2:=bF6 (bm:=false) d h hx.c (a:=some a) (fun b e=>hx.t b e);have isn:=cA8 a;simp only [It.dat,tD,anD] at e0 e2 ⊢;generalize a.dat=t at *;simp [qQ,fW,e0,e1,e2,isi,fZ,ew,isn]
def vK {xs:List It} (hx:∀ x∈xs,x.ok) (hl:xs.length<=60):aE T (d+11) "are_items" [.d (.tuple (xs.map It.dat))] h=some (.bool true,h):=by
 have hl':(xs.length:Int)<=120:=by omega
 have cm:aV (YG 0) (aD true) (xb (Y1 (aB 0)) (YF false (d+10) "is_item")) none (xs.map It.dat) (xs.map It.dat) [none] h []=some (xs.map fun _=>.bool true,h):=by
  refine cmM It.dat (fun _=>.bool true) (fun δ=>∃ u,δ=[u]) _ _ ⟨_,rfl⟩ fun x hx' δ hδ=>?_;obtain ⟨u,rfl⟩:=hδ;refine ⟨_,rfl,⟨_,rfl⟩,?_⟩;simp [aE2 d h (hx x hx')]
 have bc:=iR true xs;simp only [iA,kF,lL,lH,lN,lO,lP,oW,oX,oY,lF,lG,oR,oV,mS,oS,oT,oU,bdi] at cm;simp [uV,isi,fZ,hl',aO,cm,bc]
def aE3 {ns:List Int} {n:Int} (hb:∀ x∈ns,0<=x/\x < n):aE T (d+3) "are_numbers" [.d (.tuple (ns.map .int)),.d (.int n)] h=some (.bool true,h):=by
 have cm:aV (YG 0) (aD true) (xb (Y3 (aB 0) (YJ 0) (xb (aB 1) (YB .Sub 1))) (YF false (d+2) "is_between")) none (ns.map PyData.int) (ns.map PyData.int) [none,some (.d (.int n))] h []=some (ns.map fun _=>.bool true,h):=by
  refine cmM PyData.int (fun _=>.bool true) (fun δ=>∃ u,δ=[u,some (.d (.int n))]) _ _ ⟨_,rfl⟩ fun x hx' δ hδ=>?_;obtain ⟨u,rfl⟩:=hδ;refine ⟨_,rfl,⟨_,rfl⟩,?_⟩;have:=hb x hx';have cb:=gV (bm:=false) d (.int x) h 0 (n - 1) rfl;have bt:eX (.int x) 0 (n - 1)=true:=by simp [eX];omega
  rw [bt] at cb;simp [cb]
 have bc:=iR true ns;simp only [iA,kF,lL,lH,lN,lO,lP,oW,oX,oY,lF,lG,oR,oV,mS,oS,oT,oU,bdi] at cm;simp [pW,aO,cm,bc]
def aQ4 {ns:List Int} (h:ns.Nodup):ST.dd ns=ns:=by
 unfold ST.dd
 suffices H:∀ (l ac:List Int),(ac++l).Nodup->l.foldl step_dedup ac=ac++l by simpa using H ns [] (by simpa using h)
 intro l;induction l with
 | nil=>simp
 | cons a r ih =>
  intro ac hn;rw [List.foldl_cons];have hna:a∉ac:=fun hm=>by
   have:=(List.nodup_append.mp hn).2.2 a hm a List.mem_cons_self;exact this rfl
  have e:step_dedup ac a=ac++[a]:=by
   unfold step_dedup;simp [hna]
  rw [e,ih (ac++[a]) (by simpa using hn)];simp
def lsT (xs:List PyData) (h:aA):xLS [.d (.tuple xs)] h=(match dG xs with | some ns=>if ns.length<=62 then some (.d (.int (ST.dd ns).length),h) else none | none=>none):=rfl
def aE4 {x y n:Nat} (hx:x < n) (hy:y < n) (hn:x≠y):aE T (d+4) "are_unlike" [.d (p2 (x,y)),.d (.int 2),.d (.int n)] h=some (.bool true,h):=by
 have e:=aE3 d h (ns:=[(x:Int),(y:Int)]) (n:=n) (by simp;omega);have e0:=bV (bm:=false) (d+2) (p2 (x,y)) h 2 rfl;have nd:([(x:Int),(y:Int)]).Nodup:=by simp;omega
 have ls:xLS [.d (.tuple [.int x,.int y])] h=some (.d (.int 2),h):=by
  rw [lsT];have:dG [PyData.int x,.int y]=some [(x:Int),(y:Int)]:=rfl;rw [this];dsimp only;rw [aQ4 nd];rfl
 have e:aE T (d+3) (Str.ofString "are_numbers") [.d (.tuple [.int x,.int y]),.d (.int n)] h=some (.bool true,h):=e;simp only [p2] at e0 ⊢;simp [sC,fW,e0,e,ls]
def vL {P:List PyData} {n:Nat} (hl:P.length<=4000) (hp:∀ z∈P,∃ x y,x < n/\y < n/\x≠y/\z=p2 (x,y)):aE T (d+5) "are_pairs" [.d (.tuple P),.d (.int n)] h=some (.bool true,h):=by
 have hl':¬ (4000:Int) < P.length:=by omega
 have cm:aV (YG 0) (aD true) (xb (Y3 (aB 0) (YJ 2) (aB 1)) (YF false (d+4) "are_unlike")) none P P [none,some (.d (.int n))] h []=some (P.map fun _=>.bool true,h):=by
  refine aN0 (fun _=>.bool true) (fun δ=>∃ u,δ=[u,some (.d (.int n))]) _ _ ⟨_,rfl⟩ fun z hz δ hδ=>?_;obtain ⟨u,rfl⟩:=hδ;obtain ⟨x,y,hx,hy,hn,rfl⟩:=hp z hz;refine ⟨_,rfl,⟨_,rfl⟩,?_⟩;simp [aE4 d h hx hy hn]
 have bc:=iR true P;simp only [iA,kF,lL,lH,lN,lO,lP,oW,oX,oY,lF,lG,oR,oV,mS,oS,oT,oU,bdi] at cm;simp [uW,isi,fZ,hl',aO,cm,bc]
def sX (x:PyData):aE T (d+1) "are_triples" [.d (.tuple []),.d x] h=some (.bool true,h):=by
 simp [pX,isi,fZ,aO,aV,show cX []=some [] from rfl]
def bQ2 {hs:List Dd} {p:Pm} {i:Nat} (ok:(gD hs i).ok):fQ hs p i i=false:=by
 cases p with
 | real =>
  simp only [fQ,kI,Dd.below];cases e:(gD hs i).fin with
  | none=>rfl
  | some q =>
   have:=(ok.fin q e).1;simp;omega
 | row=>simp [fQ,mK]
 | any=>rfl
def zP {hs:List Dd} {p:Pm} {ns:List Nat} (ok:∀ i∈ns,(gD hs i).ok) {z:PyData} (hz:z∈dX hs p ns):∃ x y,x < ns.length/\y < ns.length/\x≠y/\z=p2 (x,y):=by
 unfold dX at hz;obtain ⟨l,hl,hz⟩:=List.mem_flatten.mp hz;obtain ⟨x,hx,rfl⟩:=List.mem_map.mp hl;unfold sU at hz;obtain ⟨l,hl,hz⟩:=List.mem_flatten.mp hz;obtain ⟨y,hy,rfl⟩:=List.mem_map.mp hl;split at hz
 ·rename_i a;refine ⟨x,y,List.mem_range.mp hx,List.mem_range.mp hy,fun e=>?_,List.mem_singleton.mp hz⟩;subst e;rw [bQ2 (ok _ (sW (List.mem_range.mp hx)))] at a;cases a
 ·cases hz
def prs_len (hs:List Dd) (p:Pm) {ns:List Nat} (hl:ns.length<=60):(dX hs p ns).length<=4000:=by
 have:=pH (sU hs p ns) 60 (fun x=>Nat.le_trans (sV hs p ns x) hl) (List.range ns.length);rw [List.length_range] at this;unfold dX;omega
def cB4 {hs:List Dd} (ok:HOk hs) {i:Nat} (hi:i∈tk hs):(itO hs i).ok:=by
 have o:=ok.ok _ (lT (mI hi));refine ⟨o.call,fun a ea=>?_⟩;unfold itO at ea ⊢;dsimp only at ea ⊢;unfold aP8 at ea;cases f:(gD hs i).fin with
 | none=>rw [f] at ea;cases ea
 | some p =>
  rw [f] at ea;exact (o.fin p f).2 a ea
def sY {hs:List Dd} (ok:HOk hs) (p:Pm):aE T (d+12) "is_problem" [.d (pbD hs p)] h=some (.bool true,h):=by
 have hl:=pG ok;have e2:=vK d h (xs:=(tk hs).map (itO hs)) (fun x hx=>by obtain ⟨e,he,rfl⟩:=List.mem_map.mp hx;exact cB4 ok he) (by simpa using hl);have mp:=fun z hz=>zP (hs:=hs) (p:=p) (ns:=tk hs) (fun i hi=>ok.ok _ (lT (mI hi))) (z:=z) hz;have e3:=vL (d+6) h (P:=dX hs p (tk hs)) (n:=(tk hs).length) (prs_len hs p hl) mp;have e4:=fun x=>sX (d+10) h x;have nd:nD (pbD hs p)=true:=by
  simp only [pbD,nDt,List.all_cons,List.all_nil,Bool.and_true,Bool.and_eq_true];refine ⟨rfl,?_,?_⟩
  ·rw [List.all_eq_true];intro z hz;obtain ⟨e,_,rfl⟩:=List.mem_map.mp hz;exact bG4 _
  ·rw [List.all_eq_true];intro z hz;obtain ⟨x,y,_,_,_,rfl⟩:=mp z hz;rfl
 have e0:=bV (bm:=false) (d+10) (pbD hs p) h 4 nd;have e5:aE T (d+11) (Str.ofString "is_stand") [.d aE1] h=some (.bool true,h):=by
  have a:=bV (bm:=false) (d+9) aE1 h 8 rfl;have b:=dS (bm:=false) (d+8) h [.int 0,.int 0,.int 0,.int 0,.int 0,.int 0,.int 0,.int 0] rfl;simp only [aE1] at a ⊢;simp [xA,a,b,fW,gR]
 rw [List.map_map] at e2;have e2:aE T (d+11) (Str.ofString "are_items") [.d (.tuple ((tk hs).map fun i=>(itO hs i).dat))] h=some (.bool true,h):=e2;have li:((tk hs).map fun i=>(itO hs i).dat).length=(tk hs).length:=List.length_map _;simp only [pbD] at e0 ⊢;clear mp nd;generalize dX hs p (tk hs)=P at *;generalize ((tk hs).map fun i=>(itO hs i).dat)=I at *;generalize aE1=F at *;generalize (tk hs).length=n at *;simp [sD,fW,e0,e2,e3,e4,e5,li]
end K45

namespace K45
open PySem PySem.Spec PyProof.Rows L2 DL CI SJ
variable (d:Nat) (h:aA)
noncomputable def g2 (A B:List PyData):aA:=h++[.l A,.l B]
def g20 (A B:List PyData):(g2 h A B)[h.length]?=some (.l A):=by simp [g2]
def g21 (A B:List PyData):(g2 h A B)[h.length+1]?=some (.l B):=by simp [g2]
def s21 (A B C:List PyData):(g2 h A B).set (h.length+1) (.l C)=g2 h A C:=by simp [g2]
def cO9 {H:aA} {j:Nat} {xs:List PyData} (e:H[j]?=some (.l xs)):jT "append" (.c j) H=true:=by simp [jT,e]
def aQ5 {H:aA} {j:Nat} {xs:List PyData} (e:H[j]?=some (.l xs)):bM [.c j] H=some (.d (.tuple xs),H):=by simp [bM,ref,e]
noncomputable def dU (hd pd:PyData) (x2 x3 x4 x5 x6 x7 x8 x9 x10 x11:Option W):DSt:=[some (.d hd),some (.d pd),x2,x3,x4,x5,x6,x7,x8,x9,x10,x11]
def aQ9 {hs:List Dd} (ok:HOk hs) (pd:PyData) (H:aA) (hd:PyData) (ehd:hd=.tuple (hs.map Dd.dat)) :
  aV (YG 0) (xC1 CmpOp.NotEq (xb (xb (aB 1) fun x=>xb (aB 0) (YX x)) (YI 4)) (xb (xPl (Y1 (YS "refused"))) YT)) (aB 0) none (rng 0 hs.length) (rng 0 hs.length) [none,some (.d hd)] H []=some ((nums hs).map nI,H) /\
  aV (YG 0) (aD true) (xb (xPl (Y2 (xb (xb (aB 1) fun x=>xb (aB 0) (YX x)) (YI 1)) (aB 0))) YT) none ((nums hs).map nI) ((nums hs).map nI) [none,some (.d hd)] H []=some ((nums hs).map (prI (bgI hs)),H) /\
  nN [.d (.list ((nums hs).map (prI (bgI hs))))] H=some ((tk hs).map (prI (bgI hs)),H) /\
  aV (aR [YG 0,YG 1]) (aD true) (aB 1) none ((tk hs).map (prI (bgI hs))) ((tk hs).map (prI (bgI hs))) [none,none] H []=some ((tk hs).map nI,H):=by
 have ai:=fun {i} hi H=>jK (hs:=hs) (i:=i) hi H;rw [<- ehd] at ai;refine ⟨?_,?_,?_,?_⟩
 ·rw [vE,cmT nI (fun i=>(gD hs i).keep) nI (fun δ=>∃ u,δ=[u,some (.d hd)]) _ _ [] ⟨_,rfl⟩ fun i hi δ hδ=>?_]
  ·rfl
  ·obtain ⟨u,rfl⟩:=hδ;have ai:=ai (List.mem_range.mp hi);refine ⟨[some (.d (.int i)),some (.d hd)],rfl,⟨_,rfl⟩,?_,fun _=>rfl⟩;have nr:=aP3 (gD hs i) H;have d4:=aZ9 (gD hs i) H;simp [ai,d4,nr,szl]
 ·refine cmM nI (prI (bgI hs)) (fun δ=>∃ u,δ=[u,some (.d hd)]) _ _ ⟨_,rfl⟩ fun i hi δ hδ=>?_;obtain ⟨u,rfl⟩:=hδ;have ai:=ai (fY hi);refine ⟨[some (.d (.int i)),some (.d hd)],rfl,⟨_,rfl⟩,?_⟩;have d1:=pZ (gD hs i) H;simp [ai,d1,szl,prI,bgI]
 ·have c3:=bG1 (bgI hs) (qs:=nums hs) (fun i hi=>by have:=fY hi;have:=ok.len;omega) (zM hs) (by have:=pF ok;omega) H;have eT:byI (fun i:Nat=>bgI hs i*1000+i) (nums hs)=tk hs:=aD5 fun i hi j hj=>by
   have li:=fY hi;have lj:=fY hj;have l6:=ok.len
   by_cases e:i=j
   ·subst e;simp
   ·have:=aP4 ok li lj e;omega
  rwa [eT] at c3
 ·refine cmM (prI (bgI hs)) nI (fun δ=>∃ u v,δ=[u,v]) _ _ ⟨_,_,rfl⟩ fun i hi δ hδ=>?_;obtain ⟨u,v,rfl⟩:=hδ;exact ⟨[some (.d (.int (bgI hs i))),some (.d (.int i))],by simp [prI,aR,cW],⟨_,_,rfl⟩,rfl⟩
def aE5 {hs:List Dd} (ok:HOk hs) (pd:PyData) (hd:PyData) (ehd:hd=.tuple (hs.map Dd.dat)) (x3:Option W) :
  ∃ δ',bQ (YG 2) (eM d) none ((tk hs).map nI) ((tk hs).map nI) (dU hd pd none x3 (some (.c h.length)) none none none none none none none) (h++[.l []])=some (.nx δ',h++[.l ([]++((tk hs).map fun i=>[(itO hs i).dat]).flatten)])/\∃ x2,δ'=dU hd pd x2 x3 (some (.c h.length)) none none none none none none none:=by
 refine fG nI (fun i=>[(itO hs i).dat]) (fun acc=>h++[.l acc]) (fun δ=>∃ x2,δ=dU hd pd x2 x3 (some (.c h.length)) none none none none none none none) 100 1 (fun q=>by simp) (tk hs) [] _ ⟨_,rfl⟩ (by have:=pG ok;rw [List.length_nil];omega) ?_;rintro i hi acc δ ⟨x2,rfl⟩ ha;refine ⟨dU hd pd (some (.d (nI i))) x3 (some (.c h.length)) none none none none none none none,rfl,dU hd pd (some (.d (nI i))) x3 (some (.c h.length)) none none none none none none none,?_,_,rfl⟩;have ai:=jK (mI hi) (h++[.l acc]);rw [<- ehd] at ai;have d2:=aZ8 (gD hs i) (h++[.l acc]);have d3:=cB3 (gD hs i) (h++[.l acc]);have d4:=aZ9 (gD hs i) (h++[.l acc]);have ie:=sS (gD hs i);rw [vI (zO hi)] at d4;have mp:=CI.mpre_last h acc;have gl:=CI.get_last h (.l acc);have sl:=fun acc'=>CI.set_last h (.l acc) (.l acc');have al:acc.length < 16777216:=by omega
 have eI:(itO hs i).dat=.tuple [(gD hs i).call.dat,tD (aP8 (gD hs i)),.str (Str.ofString (wdS (gD hs i).fin.isNone))]:=rfl;rw [eI];generalize (gD hs i).call.dat=c at *;generalize tD (aP8 (gD hs i))=a at *;generalize (gD hs i).fin.isNone=b at *;unfold eM;cases b<;>simp [dU,nI,ai,d2,d3,d4,ie,szl,wdS,wD,asW,mp,gl,sl,al]
def v10 (u v:Dd) (a0 a1 a2 a3 a4 a5 a6 a7 a10 a11:Option W) (H:aA):xb (bH (xC1 CmpOp.IsNot (YV 8 2) YZ)) (YAn (bH (xC1 CmpOp.Lt (YV 8 2) (YV 9 1)))) [a0,a1,a2,a3,a4,a5,a6,a7,some (.d u.dat),some (.d v.dat),a10,a11] H=some (.d (.bool (u.below v.beg)),H):=by
 have d2:=aZ8 u H;have d1:=pZ v H;have ie:=sS u;obtain ⟨w,e,f,g⟩:=u;generalize Dd.dat ⟨w,e,f,g⟩=ud at *;generalize v.dat=vd at *;cases g with
 | none=>simp [d1,d2,ie,Dd.below,asW]
 | some q =>
  simp [d1,d2,ie,Dd.below,asW];simp [Dd.endD]
def v11 (u v:Dd) (a0 a1 a2 a3 a4 a5 a6 a7 a10 a11:Option W) (H:aA):xb (bH (xC1 CmpOp.Eq (YV 8 0) (YV 9 0))) (YAn (bH (xC1 CmpOp.Lt (YV 8 1) (YV 9 1)))) [a0,a1,a2,a3,a4,a5,a6,a7,some (.d u.dat),some (.d v.dat),a10,a11] H=some (.d (.bool (decide (u.hand=v.hand)&&decide (u.beg < v.beg))),H):=by
 have c0:=aD8 u H;have c1:=pZ u H;have d0:=aD8 v H;have d1:=pZ v H;generalize u.dat=ud at *;generalize v.dat=vd at *
 by_cases c:u.hand=v.hand
 ·simp [c0,c1,d0,d1,c,asW]
 ·have c':¬ (u.hand:Int)=v.hand:=by omega
  simp [c0,c1,d0,d1,c,c',asW]
def aE6 {hs:List Dd} (ok:HOk hs) (p:Pm) (I:List PyData) (hd:PyData) (ehd:hd=.tuple (hs.map Dd.dat)) (x2:Option W) :
  ∃ δ',bQ (YG 6) (eK d) none ((List.range (tk hs).length).map nI) ((List.range (tk hs).length).map nI) (dU hd p.dat x2 (some (.d (.list ((tk hs).map nI)))) (some (.c h.length)) (some (.c (h.length+1))) none none none none none none) (g2 h I [])=some (.nx δ',g2 h I ([]++dX hs p (tk hs)))/\∃ x6 x7 x8 x9 x10 x11,δ'=dU hd p.dat x2 (some (.d (.list ((tk hs).map nI)))) (some (.c h.length)) (some (.c (h.length+1))) x6 x7 x8 x9 x10 x11:=by
 have hl:=pG ok;have hlt:∀ x,x < (tk hs).length->nxN (tk hs) x < hs.length:=fun x hx=>mI (sW hx);have ai:=fun {i} hi H=>jK (hs:=hs) (i:=i) hi H;rw [<- ehd] at ai;generalize tk hs=ns at *;obtain ⟨nd,end_⟩:∃ nd,nd=PyData.list (ns.map nI):=⟨_,rfl⟩;have nx:∀ k H,k < ns.length->xIx (.d nd) (.d (.int (k:Nat))) H=some (.d (.int (nxN ns k)),H):=fun k H hk=>by
  rw [end_];have:xIx (.d (.list (ns.map nI))) (.d (.int (k:Nat))) H=(atI (ns.map nI) (k:Int)).map fun v=>(.d v,H):=rfl;rw [this,fV (by simp [nI,nxN,List.getD,hk]:(ns.map nI)[k]?=some (.int (nxN ns k)))];rfl
 have ln:∀ H,bJ [.d nd] H=some (.d (.int ns.length),H):=fun H=>by rw [end_];simp
 rw [<- end_];have er:eV 0 ns.length=true:=cO (by omega) (by omega);refine fG nI (sU hs p ns) (fun acc=>g2 h I acc) (fun δ=>∃ x6 x7 x8 x9 x10 x11,δ=dU hd p.dat x2 (some (.d nd)) (some (.c h.length)) (some (.c (h.length+1))) x6 x7 x8 x9 x10 x11) 10000 60 (fun q=>Nat.le_trans (sV hs p ns q) hl) (List.range ns.length) [] _ ⟨_,_,_,_,_,_,rfl⟩ (by rw [List.length_range,List.length_nil];omega) ?_;rintro x hx acc δ ⟨x6,x7,x8,x9,x10,x11,rfl⟩ ha;have hx:=List.mem_range.mp hx;refine ⟨_,rfl,?_⟩;unfold eK;refine ypF (((List.range ns.length).map nI,none),g2 h I acc) (by simp [dU,ln,er,vE]) (yeE (exI (fG nI (fun y=>if fQ hs p (nxN ns x) (nxN ns y)=true then [p2 (x,y)] else []) (fun acc=>g2 h I acc) (fun δ=>∃ x7 x8 x9 x10 x11,δ=dU hd p.dat x2 (some (.d nd)) (some (.c h.length)) (some (.c (h.length+1))) (some (.d (nI x))) x7 x8 x9 x10 x11) 10100 1 (fun q=>by split<;>simp) _ _ _ ⟨_,_,_,_,_,rfl⟩ (by simp;omega) ?_) fun δ hδ=>by obtain ⟨x7,x8,x9,x10,x11,rfl⟩:=hδ;exact ⟨_,_,_,_,_,_,rfl⟩));rintro y hy acc δ ⟨x7,x8,x9,x10,x11,rfl⟩ ha;have hy:=List.mem_range.mp hy;refine ⟨_,rfl,?_⟩;have i1:=nx x (g2 h I acc) hx;have i2:=nx y (g2 h I acc) hy;have a1:=ai (hlt x hx) (g2 h I acc);have a2:=ai (hlt y hy) (g2 h I acc);have c0:=aD8 (gD hs (nxN ns x)) (g2 h I acc);have c1:=pZ (gD hs (nxN ns x)) (g2 h I acc);have c2:=aZ8 (gD hs (nxN ns x)) (g2 h I acc);have k0:=aD8 (gD hs (nxN ns y)) (g2 h I acc);have k1:=pZ (gD hs (nxN ns y)) (g2 h I acc);have ie:=sS (gD hs (nxN ns x));have q1:=g21 h I acc;have mp:=cO9 q1;have st:=s21 h I acc;have al:acc.length < 16777216:=by omega
 refine ⟨dU hd p.dat x2 (some (.d nd)) (some (.c h.length)) (some (.c (h.length+1))) (some (.d (nI x))) (some (.d (nI y))) (some (.d (gD hs (nxN ns x)).dat)) (some (.d (gD hs (nxN ns y)).dat)) (some (.d (.bool (kI hs (nxN ns x) (nxN ns y))))) (some (.d (.bool (mK hs (nxN ns x) (nxN ns y))))),?_,_,_,_,_,_,rfl⟩;refine sy (dU hd p.dat x2 (some (.d nd)) (some (.c h.length)) (some (.c (h.length+1))) (some (.d (nI x))) (some (.d (nI y))) (some (.d (gD hs (nxN ns x)).dat)) x9 x10 x11) (g2 h I acc) (by simp [dU,nI,i1,a1]) ?_;refine sy (dU hd p.dat x2 (some (.d nd)) (some (.c h.length)) (some (.c (h.length+1))) (some (.d (nI x))) (some (.d (nI y))) (some (.d (gD hs (nxN ns x)).dat)) (some (.d (gD hs (nxN ns y)).dat)) x10 x11) (g2 h I acc) (by simp [dU,nI,i2,a2]) ?_;refine sy (dU hd p.dat x2 (some (.d nd)) (some (.c h.length)) (some (.c (h.length+1))) (some (.d (nI x))) (some (.d (nI y))) (some (.d (gD hs (nxN ns x)).dat)) (some (.d (gD hs (nxN ns y)).dat)) (some (.d (.bool (kI hs (nxN ns x) (nxN ns y))))) x11) (g2 h I acc) (by simp only [dU,aQ,v10,CI.bs];rfl) ?_;refine sy (dU hd p.dat x2 (some (.d nd)) (some (.c h.length)) (some (.c (h.length+1))) (some (.d (nI x))) (some (.d (nI y))) (some (.d (gD hs (nxN ns x)).dat)) (some (.d (gD hs (nxN ns y)).dat)) (some (.d (.bool (kI hs (nxN ns x) (nxN ns y))))) (some (.d (.bool (mK hs (nxN ns x) (nxN ns y)))))) (g2 h I acc) (by simp only [dU,aQ,v11,CI.bs];rfl) ?_;clear i1 i2 a1 a2 c0 c1 c2 k0 k1 ie;cases p with
 | any=>simp [dU,Pm.dat,Pm.nm,fQ,PyData.eqv,xEq,ref]
 | real =>
  show _=some (_,g2 h I (acc++if kI hs (nxN ns x) (nxN ns y)=true then [p2 (x,y)] else []));cases z:kI hs (nxN ns x) (nxN ns y) with
  | true=>simp [z,dU,Pm.dat,Pm.nm,PyData.eqv,xEq,ref,mp,q1,st,al,szl,p2,nI]
  | false=>simp [z,dU,Pm.dat,Pm.nm,PyData.eqv,xEq,ref]
 | row =>
  show _=some (_,g2 h I (acc++if mK hs (nxN ns x) (nxN ns y)=true then [p2 (x,y)] else []));cases z:mK hs (nxN ns x) (nxN ns y) with
  | true=>simp [z,dU,Pm.dat,Pm.nm,PyData.eqv,xEq,ref,mp,q1,st,al,szl,p2,nI]
  | false=>simp [z,dU,Pm.dat,Pm.nm,PyData.eqv,xEq,ref]
def cB5 {hs:List Dd} (ok:HOk hs) (p:Pm):aE T (d+1) "_law_due" [.d (.tuple (hs.map Dd.dat)),.d p.dat] h=some (.tuple [pbD hs p,nsD hs],h):=by
 obtain ⟨hd,ehd⟩:∃ hd,hd=PyData.tuple (hs.map Dd.dat):=⟨_,rfl⟩;have ln:∀ H,bJ [.d hd] H=some (.d (.int hs.length),H):=fun H=>by rw [ehd];simp
 have er:eV 0 hs.length=true:=cO (by omega) (by have:=ok.len;omega);have er2:eV 0 (tk hs).length=true:=cO (by omega) (by have:=pG ok;omega);obtain ⟨c1,c2,c3,c4⟩:=aQ9 ok p.dat h hd ehd;obtain ⟨_,l1,x2,rfl⟩:=aE5 d h ok p.dat hd ehd (some (.d (.list ((tk hs).map nI))));obtain ⟨_,l2,x6,x7,x8,x9,x10,x11,rfl⟩:=aE6 d h ok p ((tk hs).map fun i=>(itO hs i).dat) hd ehd x2;have eI:[]++((tk hs).map fun i=>[(itO hs i).dat]).flatten=(tk hs).map fun i=>(itO hs i).dat:=by
  rw [List.nil_append];induction tk hs with
  | nil=>rfl
  | cons a r ih=>rw [List.map_cons,List.flatten_cons,ih];rfl
 rw [eI] at l1;rw [List.nil_append] at l2;have lt:∀ H,bJ [.d (.list ((tk hs).map nI))] H=some (.d (.int (tk hs).length),H):=fun H=>by simp
 have t0:=aQ5 (g20 h ((tk hs).map fun i=>(itO hs i).dat) (dX hs p (tk hs)));have t1:=aQ5 (g21 h ((tk hs).map fun i=>(itO hs i).dat) (dX hs p (tk hs)));have ec:=fun z=>cG (z:=z) (h:=h) (H:=g2 h ((tk hs).map fun i=>(itO hs i).dat) (dX hs p (tk hs))) (fun i hi=>by unfold g2;exact List.getElem?_append_left hi) (by simp [g2]);have eR:PyData.tuple [pbD hs p,nsD hs]=.tuple [.tuple [.tuple [.int 0,.int 0,.int 0,.int 0,.int 0,.int 0,.int 0,.int 0],.tuple ((tk hs).map fun i=>(itO hs i).dat),.tuple (dX hs p (tk hs)),.tuple []],.tuple ((tk hs).map nI)]:=rfl;rw [eR,<- ehd,xB];have g0:∀ I:List PyData,(h++[Cell.l I])++[Cell.l []]=g2 h I []:=fun I=>by simp [g2]
 simp only [iA,kF,lL,lH,lN,lO,lP,oW,oX,oY,lF,lG,oR,oV,mS,oS,oT,oU,bdi] at c1 c2 c4;refine sq (.rt (.d (.tuple [.tuple [.tuple [.int 0,.int 0,.int 0,.int 0,.int 0,.int 0,.int 0,.int 0],.tuple ((tk hs).map fun i=>(itO hs i).dat),.tuple (dX hs p (tk hs)),.tuple []],.tuple ((tk hs).map nI)])),g2 h ((tk hs).map fun i=>(itO hs i).dat) (dX hs p (tk hs))) ?_ (ec _);refine sy (dU hd p.dat none (some (.d (.list ((nums hs).map nI)))) none none none none none none none none) h (by simp [dU,ln,er,c1]) ?_;refine sy (dU hd p.dat none (some (.d (.list ((tk hs).map nI)))) none none none none none none none none) h (by simp [dU,c2,c3,c4]) ?_;refine sy (dU hd p.dat none (some (.d (.list ((tk hs).map nI)))) (some (.c h.length)) none none none none none none none) (h++[.l []]) (by simp [dU]) ?_;refine sy (dU hd p.dat x2 (some (.d (.list ((tk hs).map nI)))) (some (.c h.length)) none none none none none none none) (h++[.l ((tk hs).map fun i=>(itO hs i).dat)]) (ypS (((tk hs).map nI,none),h++[.l []]) (by simp [dU]) l1) ?_;refine sy (dU hd p.dat x2 (some (.d (.list ((tk hs).map nI)))) (some (.c h.length)) (some (.c (h.length+1))) none none none none none none) (g2 h ((tk hs).map fun i=>(itO hs i).dat) []) (by simp [dU,g2]) ?_;refine sy (dU hd p.dat x2 (some (.d (.list ((tk hs).map nI)))) (some (.c h.length)) (some (.c (h.length+1))) x6 x7 x8 x9 x10 x11) (g2 h ((tk hs).map fun i=>(itO hs i).dat) (dX hs p (tk hs))) (ypS (((List.range (tk hs).length).map nI,none),g2 h ((tk hs).map fun i=>(itO hs i).dat) []) (by simp [dU,er2,vE]) l2) ?_;simp [dU,t0,t1,szl]
end K45

namespace L2
open PySem PySem.Spec PyProof.Rows
section
variable {prog:Program} {w:World} {A:Around} {E:Value->Shared->Prop} {h:Heap} {g:Array GenState} {d:Drawn} {t:Nat} {os:OsState} {K:PySem.W.Frag} {x C:Addr} {ox:Obj}
structure XCls (K:PySem.W.Frag) (C:Addr):Prop where
 ga:PySem.W.findIn K (.ref C) "__getattribute__"=some (some (.builtin "BaseException.__getattribute__"))
 gn:PySem.W.findIn K (.ref C) "__getattr__"=some none
 cl:PySem.W.findIn K (.ref C) "__class__"=some (some (.builtin "object.__class__"))
 be:PySem.W.mroIn K C (.type "BaseException")=some true
 ob:PySem.W.mroIn K C (.type "object")=some true
def bQ3 {tp:Value} {R:Result->Shared->Prop} (Z:XCls K C) (X:K.In h) (hx:h.get? x=some ox) (hc:ox.cls=.ref C) (hq:R (.ok (.ret (.ref C))) ⟨h,g,d,t,os⟩) :
  codeAny (model prog w) A (.call (.builtin "getset_descriptor.__get__") ⟨[.builtin "object.__class__",.ref x,tp],[]⟩) R ⟨h,g,d,t,os⟩:=by
 have L0:PySem.W.Looks (model prog w) h (typeOf (.ref x)) (.ref C):=hc ▸ (PySem.W.Looks.ld hx).andThen .now;have L1:PySem.W.Looks (model prog w) h (isSubtype (.ref C) (.type "object")) true:=PySem.W.looks_mroIn X Z.ob;have hT5:(⟨h,g,d,t,os⟩:Shared).TypeIs (.builtin "object.__class__") "getset_descriptor":=F.typeOf_object_class;have ow:=F.owner_object_class;refine codeAny_call_builtin F.slot_gs_get.plain F.entry_gs_get ?_;refine F.slot_gs_get.check _ _ _ _ _ _ _ _ hT5 (F.args_gs_get _ _ _) ?_
 repeat (any_goals (first | assumption | (with_reducible refine wpAny_loadPart_at hx ?_;rw [hc]) | (rw [ow];with_reducible refine L1.at ?_) | with_reducible refine L1.at ?_ | wp_step))
 refine ⟨Code.quiet_builtin _ (by decide +kernel),codeAny_builtin F.entry_object_class ?_⟩
 repeat (any_goals (first | assumption | (with_reducible refine wpAny_loadPart_at hx ?_;rw [hc]) | wp_step))
def aR0 {tk:Tok} {Q:Fin->Shared->Prop} (Z:XCls K C) (X:K.In h) (hx:h.get? x=some ox) (hc:ox.cls=.ref C) (hq:Q (.done (.ret (.ref C))) ⟨h,g,d,t,os⟩) :
  wpAny (model prog w) A (Builtin.«object.__getattribute__» ⟨[.ref x,.str "__class__" tk],[]⟩) Q E ⟨h,g,d,t,os⟩:=by
 have L6:PySem.W.Looks (model prog w) h (typeLookup (.ref C) "__class__") (some (.builtin "object.__class__")):=PySem.W.looks_findIn X Z.cl;have hT5:(⟨h,g,d,t,os⟩:Shared).TypeIs (.builtin "object.__class__") "getset_descriptor":=F.typeOf_object_class;have f5:=F.typeOf_object_class;have f6:=F.slot_gs_get.lookup;have f7:=F.slot_gs_set.lookup
 repeat (any_goals (first | assumption | (with_reducible refine wpAny_loadPart_at hx ?_;rw [hc]) | with_reducible refine L6.at ?_ | wp_step))
 refine bQ3 Z X hx hc ?_
 repeat (any_goals (first | assumption | wp_step))
def vM {M:Model} {nameV:Value} {Q:Unit->Shared->Prop} (Z:XCls K C) (X:K.In h) (hx:h.get? x=some ox) (hc:ox.cls=.ref C) (hq:Q () ⟨h,g,d,t,os⟩) :
  wpAny M A (checkBuiltinCall "BaseException.__getattribute__" ⟨[.ref x,nameV],[]⟩) Q E ⟨h,g,d,t,os⟩:=by
 have k1:builtinKind "BaseException.__getattribute__"=some .slot:=by decide +kernel
 have k2:splitId "BaseException.__getattribute__"=some ("BaseException","__getattribute__"):=by decide +kernel
 have L3:PySem.W.Looks M h (isSubtype (.ref C) (.type "BaseException")) true:=PySem.W.looks_mroIn X Z.be;have k3:=F.args_bexc_ga (.ref x) nameV;simp only [checkBuiltinCall,k1,k2];unfold isInstance
 repeat (any_goals (first | assumption | (with_reducible refine wpAny_loadPart_at hx ?_;rw [hc]) | with_reducible refine L3.at ?_ | wp_step))
def cB6 {tk:Tok} {Q:Value->Shared->Prop} (FB:Slot "ValueError" "__getattribute__" "BaseException.__getattribute__") (Z:XCls K C) (X:K.In h) (hx:h.get? x=some ox) (hc:ox.cls=.ref C) (hq:Q (.ref C) ⟨h,g,d,t,os⟩) :
  wpAny (model prog w) A (getAttrBy (.ref x) (.str "__class__" tk) false) Q E ⟨h,g,d,t,os⟩:=by
 have L4:PySem.W.Looks (model prog w) h (typeLookup (.ref C) "__getattribute__") (some (.builtin "BaseException.__getattribute__")):=PySem.W.looks_findIn X Z.ga;have L5:PySem.W.Looks (model prog w) h (typeLookup (.ref C) "__getattr__") none:=PySem.W.looks_findIn X Z.gn;have f3:=FB.bind (.ref x);have y2:(Value.builtin "BaseException.__getattribute__"==Value.builtin "object.__getattribute__")=false:=by decide +kernel
 have y1:(onTheHeap (Value.ref C)&&Value.builtin "BaseException.__getattribute__"==Value.builtin "object.__getattribute__")=false:=by rw [y2];rfl
 repeat (any_goals (first | assumption | (with_reducible refine wpAny_loadPart_at hx ?_;rw [hc]) | with_reducible refine L4.at ?_ | with_reducible refine L5.at ?_ | wp_step))
 refine codeAny_call_builtin FB.plain F.entry_bexc_ga ?_;refine vM Z X hx hc (aR0 Z X hx hc ?_)
 repeat (any_goals (first | assumption | wp_step))
def bA9 {Q:Option Value->Shared->Prop} (FB:Slot "ValueError" "__getattribute__" "BaseException.__getattribute__") (Z:XCls K C) (X:K.In h) (hx:h.get? x=some ox) (hc:ox.cls=.ref C) (hq:Q (some (.ref C)) ⟨h,g,d,t+1,os⟩) :
  wpAny (model prog w) A (getAttr? (.ref x) "__class__") Q E ⟨h,g,d,t,os⟩:=by
 unfold getAttr? getAttrBy?
 repeat (any_goals (first | assumption | with_reducible apply cB6 FB Z X hx hc | wp_step))
def aR1 (FB:Slot "ValueError" "__getattribute__" "BaseException.__getattribute__") (Z:XCls K C) (hc:ox.cls=.ref C):PySem.W.KitX K (.ref x) (.ref C) (fun h=>h.get? x=some ox) where
 ty:=fun M h _ hx=>hc ▸ (PySem.W.Looks.ld hx).andThen .now
 it:=fun M h X _=>by
  have z:=Z.ob;unfold PySem.W.mroIn at z;obtain ⟨cd,a,_⟩:=Option.bind_eq_some_iff.mp z;unfold PySem.W.clsIn at a;split at a
  ·rename_i ho;intro A' Q' E' s' k q;unfold isType loadHead;exact wpAny_bind (wpAny_loadPart (k _ _ (X _ _ ho)) (wpAny_pure q))
  ·cases a
 ne:=fun h tp dd its n sl X htp=>by
  refine Bool.eq_false_iff.mpr fun q=>?_;have e:C=tp:=Value.ref.inj (beq_iff_eq.mp q);subst e;have z:=Z.ob;unfold PySem.W.mroIn at z;obtain ⟨cd,a,_⟩:=Option.bind_eq_some_iff.mp z;unfold PySem.W.clsIn at a;split at a
  ·rename_i ho;cases (X _ _ ho).symm.trans htp
  ·cases a
 ca:=fun {_ _ _ _ _ s} X hx q=>by
  obtain ⟨h,g,d,t,os⟩:=s;exact bA9 FB Z X hx hc q
end
end L2
namespace PySem
section
variable {prog:Program} {w:World} {A:Around} {E:Value->Shared->Prop} {h:Heap} {g:Array GenState} {d:Drawn} {t:Nat} {os:OsState}
variable {nm q:Str} {C N:Addr} {bs bm bmB:List Value} {hdct:Bool} {sn:List Str} {sub:List Value} {ab:Bool} {col:Option Bool} {dd:Option Addr} {k0 k1 k2 k3 k5:Option Value} {B newId initId:String}
def vN (F:ExcBaseFacts B newId initId bmB) (T:OwnTail h bmB bm) {mN:Str->Option Value} {us:List Value} {fI:Addr} {oI:Obj} {Q:Fin->Shared->Prop}
  (hC:h.get? C=some (excClassObj nm q C N bs bm hdct sn sub ab col dd k0 k1 k2 k3 k5 newId)) (hn:h.Ns N mN) (hi:mN "__init__"=some (.ref fI)) (hfI:h.get? fI=some oI) (hfc:oI.cls=.type "function")
  (hq:∀ h' e,Heap.MadeExcOf h h' e (.ref C) us->h.objs.size<=e->wpAny (model prog w) A (call (.ref fI) (.ref e::us)) (fun r s'=>r=.none/\Q (.done (.ret (.ref e))) s') E ⟨h',g,d,t,os⟩) (hus:us.length<=sizeLine:=by size_fits) :
  wpAny (model prog w) A (Builtin.«type.__call__» ⟨.ref C::us,[]⟩) Q E ⟨h,g,d,t,os⟩:=by
 let o1:Obj:={ cls:=.type "tuple",data:=.seq us.toArray }
 let o2:Obj:={ cls:=.ref C,data:=.fields #[.ref h.objs.size,.none,.none,.none,.bool false,.none] }
 have up:∀ b o,h.get? b=some o->((h.push o1).push o2).get? b=some o:=fun b o e=>Heap.get?_push_of_some _ (Heap.get?_push_of_some _ e)
 repeat (first | with_reducible refine wpAny_loadPart_at hC ?_ | with_reducible refine wpAny_madeBy_exc hC ?_ | wp_step)
 refine codeAny_call_builtin_code (Code.quiet_builtin _ F.quiet) (wpAny_check_new_subT F T hC (codeAny_exc_new_subT F T hC ?_ hus));show wpAny _ _ _ _ _ _;have kC:=up _ _ hC;have kN:=hn.keeps up;have kf:=up _ _ hfI;have ke:((h.push o1).push o2).get? (h.objs.size+1)=some o2:=by heap_get
 have hcC:(Value.ref C::bm).contains (.ref C)=true:=by simp
 unfold isInstance
 repeat (first | with_reducible refine wpAny_loadPart_at ke ?_ | (with_reducible refine wpAny_isSubtype_exc kC ?_;rw [hcC]) | wp_step)
 show wpAny _ _ (typeLookup (.ref C) _) _ _ _;refine wpAny_typeLookup_tail kC kN (T.keeps up) F.mroIs F.init.lookup ?_;rw [hi];refine wpAny_holding (wpAny_bind ?_);unfold bindSpecial;refine wpAny_bind (wpAny_typeOf (T:="function") ⟨_,kf,hfc⟩ ?_);rw [if_pos (by decide)];refine wpAny_pure (wpAny_bind (wpAny_mono (hq _ (h.objs.size+1) ⟨up,Heap.get?_none_of_le (Nat.le_succ _),h.objs.size,ke,Heap.get?_none_of_le (Nat.le_refl _),?_⟩ (Nat.le_succ _)) (fun r s' hr=>?_) fun _ _ x=>x))
 ·exact Heap.get?_push_of_some _ (Heap.get?_push_at rfl rfl)
 ·obtain ⟨rfl,hQ⟩:=hr
  wp_walk
  exact hQ
def xL (F:ExcBaseFacts B newId initId bmB) (T:OwnTail h bmB bm) {mN:Str->Option Value} {us:List Value} {fI:Addr} {oI:Obj} {Q:Value->Shared->Prop}
  (hC:h.get? C=some (excClassObj nm q C N bs bm hdct sn sub ab col dd k0 k1 k2 k3 k5 newId)) (hn:h.Ns N mN) (hi:mN "__init__"=some (.ref fI)) (hfI:h.get? fI=some oI) (hfc:oI.cls=.type "function")
  (hq:∀ h' e,Heap.MadeExcOf h h' e (.ref C) us->h.objs.size<=e->wpAny (model prog w) (A.under (.builtin "type.__call__" ⟨.ref C::us,[]⟩)) (call (.ref fI) (.ref e::us)) (fun r s'=>r=.none/\Q (.ref e) s') E ⟨h',g,d,t,os⟩) (hus:us.length<=sizeLine:=by size_fits) :
  wpAny (model prog w) A (call (.ref C) us) Q E ⟨h,g,d,t,os⟩:=by
 have f1:=tc_lookup;have f2:=tc_bind (.ref C);have hT:(⟨h,g,d,t,os⟩:Shared).TypeIs (.ref C) "type":=⟨_,hC,rfl⟩;refine wpAny_call (codeAny_of_tree ?_);show wpAny _ _ (callAny (.ref C) _) _ _ _
 repeat (any_goals (first | assumption | with_reducible refine wpAny_loadPart_at hC ?_ | wp_step))
 exact ⟨rfl,codeAny_call_builtin_at (Code.quiet_builtin _ (by decide +kernel)) entry_typeCall (wpAny_check_type_call_sub hC (vN (hus:=hus) F T hC hn hi hfI hfc fun h' e hm hl=>hq h' e hm hl))⟩
end
end PySem
namespace PySem
noncomputable def Kp (P:Obj->Prop) {α:Type}:Sem α->Prop
 | .rule _ k=>Kp P (k ())
 | .at _ k=>Kp P (k ())
 | .load _ _ k=>∀ o,Kp P (k o)
 | .update _ _ f k=>(∀ o,P o->P (f o))/\Kp P (k ())
 | .alloc _ k=>∀ a,Kp P (k a)
 | .loadIfAlive _ k=>∀ o,Kp P (k o)
 | .point _ k=>Kp P (k ())
 | .fresh k=>∀ x,Kp P (k x)
 | .ask k=>∀ x,Kp P (k x)
 | .stack k=>∀ x,Kp P (k x)
 | .pure _=>True
 | .unsupported _=>True
 | .raise _=>True
 | _=>False
def Kp.bind {P:Obj->Prop} {α β:Type} {f:α->Sem β} (hf:∀ a,Kp P (f a)) {x:Sem α} (h:Kp P x):Kp P (x >>= f):=by
 show Kp P (x.bind f);induction x with
 | pure a=>exact hf a
 | raise e=>exact True.intro
 | unsupported u=>exact True.intro
 | rule t k ih=>exact ih () h
 | «at» t k ih=>exact ih () h
 | load a p k ih=>exact fun o=>ih o (h o)
 | update a p g k ih=>exact ⟨h.1,ih () h.2⟩
 | alloc o k ih=>exact fun o=>ih o (h o)
 | loadIfAlive a k ih=>exact fun o=>ih o (h o)
 | point l k ih=>exact ih () h
 | fresh k ih=>exact fun o=>ih o (h o)
 | ask k ih=>exact fun o=>ih o (h o)
 | stack k ih=>exact fun o=>ih o (h o)
 | _=>exact False.elim h
def AtP (P:Obj->Prop) (e:Addr) (h:Heap):Prop:=∃ o,h.get? e=some o/\P o
theorem AtP.upd {P:Obj->Prop} {e a:Addr} {h:Heap} {f:Obj->Obj} (hP:∀ o,P o->o.isFreed=false) (x:AtP P e h) (hf:∀ o,P o->P (f o)):AtP P e (h.update a f):=by
 obtain ⟨o,e1,p⟩:=x
 by_cases q:a=e
 ·subst q;exact ⟨_,Heap.get?_update_self _ e1 (hP _ (hf _ p)),hf _ p⟩
 ·exact ⟨o,(Heap.get?_update_other _ _ q).trans e1,p⟩
def Kp.wp {P:Obj->Prop} (hP:∀ o,P o->o.isFreed=false) {M:Model} {Γ:Ctx} {e:Addr} {α:Type} {Q:α->Pos->Shared->Prop} {E:Value->Pos->Shared->Prop} {t:Sem α} (h:Kp P t):∀ {p:Pos} {s:Shared},AtP P e s.heap->Sem.wp M Γ t Q E p s->Sem.wp M Γ t (fun a p s'=>Q a p s'/\AtP P e s'.heap) E p s:=by
 induction t with
 | pure a=>exact fun x w=>⟨w,x⟩
 | raise e=>exact fun x w=>w
 | unsupported u=>exact fun x w=>w
 | rule t k ih=>exact fun x w=>ih () h x w
 | «at» t k ih=>exact fun x w=>ih () h x w
 | load a p k ih=>exact fun x ⟨o,e1,w⟩=>⟨o,e1,ih o (h o) x w⟩
 | update a p g k ih=>exact fun x ⟨e1,w⟩=>⟨e1,ih () h.2 (x.upd hP h.1) w⟩
 | alloc o k ih=>exact fun x w=>ih _ (h _) (let ⟨o',e1,p1⟩:=x;⟨o',Heap.get?_push_of_some _ e1,p1⟩) w
 | loadIfAlive a k ih=>exact fun x w=>ih _ (h _) x w
 | point l k ih=>exact fun x w=>ih () h x w
 | fresh k ih=>exact fun x w=>ih _ (h _) x w
 | ask k ih=>exact fun x w=>ih _ (h _) x w
 | stack k ih=>exact fun x w=>ih _ (h _) x w
 | _=>exact False.elim h
def Kp.any {P:Obj->Prop} (hP:∀ o,P o->o.isFreed=false) {M:Model} {A:Around} {e:Addr} {α:Type} {Q:α->Shared->Prop} {E:Value->Shared->Prop} {t:Sem α} {s:Shared} (h:Kp P t) (x:AtP P e s.heap) (w:wpAny M A t Q E s):wpAny M A t (fun a s'=>Q a s'/\AtP P e s'.heap) E s :=
 fun Γ p hΓ=>Kp.wp hP h x (w Γ p hΓ)
def ErP (c:Value) (D:Option Addr) (x:Value) (o:Obj):Prop:=o.cls=c/\o.dict=D/\∃ vs,o.data=.fields vs/\vs[2]?=some x
theorem ErP.freed {c:Value} {D:Option Addr} {x:Value} (o:Obj) (h:ErP c D x o):o.isFreed=false:=let ⟨_,_,_,e,_⟩:=h;Obj.isFreed_of_fields e
theorem ErP.map {c:Value} {D:Option Addr} {x v:Value} {i:Nat} (hi:i≠2) (o:Obj) (h:ErP c D x o):ErP c D x (Obj.mapFields (·.setIfInBounds i v) o):=by
 obtain ⟨h1,h2,vs,h3,h4⟩:=h;refine ⟨(Obj.cls_mapFields _ _).trans h1,?_,_,Obj.data_mapFields h3 _,by rw [Array.getElem?_setIfInBounds_ne hi];exact h4⟩;obtain ⟨c1,d1,dt,sl⟩:=o;cases dt<;>exact h2
section
variable {c x:Value} {D:Option Addr}
def aE7 (v:Value):Kp (ErP c D x) (fieldsOf v):=by
 unfold fieldsOf;cases v with
 | ref a=>exact Kp.bind (fun o=>by cases o.data<;>trivial) (x:=load a) (fun _=>trivial)
 | _=>trivial
def kK (v:Value) (i:Nat):Kp (ErP c D x) (field v i):=Kp.bind (fun vs=>by cases vs[i]?<;>trivial) (aE7 v)
def iG (v:Value) (i:Nat) (hi:i≠2) (y:Value):Kp (ErP c D x) (setField v i y):=by
 unfold setField;cases v with
 | ref a =>
  refine Kp.bind (fun o=>?_) (x:=load a) (fun _=>trivial);cases o.data with
  | fields vs =>
   dsimp only;split
   ·exact ⟨ErP.map hi,trivial⟩
   ·trivial
  | _=>trivial
 | _=>trivial
def lU (e:Value) (f:Option Addr):Kp (ErP c D x) (setFlight e f):=Kp.bind (fun tb=>by split<;>first | exact iG _ _ (by decide) _ | trivial) (kK e 1)
def pJ:Kp (ErP c D x) stack:=fun _=>True.intro
theorem vO:∀ l:List Env,Kp (ErP c D x) (readyFrames l)
 | []=>trivial
 | env::outer=>by
  have ih:=vO outer;unfold readyFrames;cases env.frame with
  | none=>trivial
  | some f =>
   refine Kp.bind (fun o=>?_) (x:=load f) (fun _=>trivial);split
   ·trivial
   ·refine Kp.bind (fun b=>?_) ?_
    ·refine Kp.bind (fun b'=>?_) ?_
     ·refine Kp.bind (fun _=>ih) ?_;exact ⟨fun o h=>h,True.intro⟩
     ·unfold keptBack;split
      ·split
       ·exact True.intro
       ·refine Kp.bind (fun _=>?_) ?_
        ·exact True.intro
        ·unfold underTheClaimsCaller;refine Kp.bind (fun _=>?_) pJ;exact True.intro
      ·exact True.intro
    ·unfold behindIsImport;split
     ·trivial
     ·split
      ·trivial
      ·refine Kp.bind (fun _=>?_) (kK _ _);exact True.intro
def bB0:Kp (ErP c D x) frameEnvs:=by
 unfold frameEnvs;refine Kp.bind (fun _=>?_) pJ;exact True.intro
def xM (env:Env):Kp (ErP c D x) (frameOf env):=by
 unfold frameOf;refine Kp.bind (fun l=>Kp.bind (fun o=>by cases o<;>trivial) ?_) bB0;unfold frameObject;cases List.dropWhile (fun x=>x.frame != env.frame) l with
 | nil=>trivial
 | cons a r =>
  refine Kp.bind (fun _=>?_) (vO _);exact True.intro
def zQ (e:Value) (env:Env):Kp (ErP c D x) (noteFrame e env):=by
 unfold noteFrame;cases env.frame with
 | none=>trivial
 | some f =>
  have tail:∀ head:Value,Kp (ErP c D x) (do setField e 1 (<- EntryCells.newEntry head (<- frameOf env) .none (rawInt f) .none (<- entryPlaceOf f (head != .none)))):=fun head=>by
   refine Kp.bind (fun fr=>Kp.bind (fun pl=>Kp.bind (fun b=>iG _ _ (by decide) _) ?_) ?_) (xM env)
   ·unfold EntryCells.newEntry newFields newObj;dsimp only;generalize ([head,fr,Value.none,rawInt f,Value.none]++(if pl.isEmpty=true then List.replicate 6 Value.none else pl))=L;split
    ·exact True.intro
    ·unfold newObjAsIs;refine Kp.bind (fun _=>?_) ?_
     ·exact True.intro
     ·exact fun _=>True.intro
   ·unfold entryPlaceOf;exact Kp.bind (fun _=>by split<;>trivial) pJ
  refine Kp.bind (fun head=>?_) (kK e 1);dsimp only;split
  ·refine Kp.bind (fun y=>?_) (kK _ _);split
   ·trivial
   ·exact Kp.bind (fun _=>tail _) (iG _ _ (by decide) _)
  ·exact tail _
def pK (e:Value) (env:Env):Kp (ErP c D x) (leaving env e):=Kp.bind (fun _=>lU _ _) (zQ e env)
end
end PySem
namespace L2
open PySem PySem.Spec PyProof.Rows
abbrev sZ:List Value:=[.type "ValueError",.type "Exception",.type "BaseException",.type "object"]
structure ECls (K:PySem.W.Frag) (C CJ:Addr):Prop where
 mro:(PySem.W.clsIn K C).any (fun cd=>cd.hasDict&&cd.mro==.ref C::.ref CJ::sZ)=true
 sa:PySem.W.findIn K (.ref C) "__setattr__"=some (some (.builtin "object.__setattr__"))
 nat:PySem.W.findIn K (.ref C) "at"=some none
section
variable {prog:Program} {w:World} {A:Around} {E:Value->Shared->Prop} {s:Shared} {K:PySem.W.Frag} {C CJ ea:Addr} {oe:Obj} {vs:Array Value} {u:Value}
def bB1 {Q:Unit->Shared->Prop} (Z:ECls K C CJ) (X:K.In s.heap) (he:s.heap.get? ea=some oe) (hc:oe.cls=.ref C) (hd:oe.dict=none) (hv:oe.data=.fields vs)
  (h:∀ h',h'.get? ea=some { oe with dict:=some s.heap.objs.size }->h'.Ns1 s.heap.objs.size (fun y=>if y="at" then some u else none)->(∀ b o,b≠ea->s.heap.get? b=some o->h'.get? b=some o)->Q () { s with heap:=h',toks:=s.toks+2 }) :
  wpAny (model prog w) A (setAttr (.ref ea) "at" u) Q E s:=by
 have J:PySem.W.InstAt s.heap ea oe C none:=⟨he,hc,by unfold PySem.W.notCls;rw [hv],by rw [hd];trivial⟩;have SF:=PySem.F.store_object;obtain ⟨cd,hcd,hb⟩:=PySem.W.any_some Z.mro;obtain ⟨hdi,hm⟩:=Bool.and_eq_true_iff.mp hb;have hm:=eq_of_beq hm;refine PySem.W.set_plain X J Z.sa ?_;obtain ⟨hh,g,dr,t,os⟩:=s;dsimp only at X he h J ⊢;have sub:PySem.W.Looks (model prog w) hh (isInstance (.ref ea) (.type "object")) true:=J.type.andThen (PySem.W.looks_mroIn X (by unfold PySem.W.mroIn;rw [hcd,Option.bind_some,hm];rfl));have hmr:PySem.W.Looks (model prog w) hh (mroOf (.ref C)) (.ref C::.ref CJ::sZ):=hm ▸ (PySem.W.looks_clsIn X hcd).andThen .now;refine codeAny_call_builtin SF.slot.plain SF.entry (@PySem.W.check_slot (model prog w) _ _ ⟨hh,g,dr,t+1,os⟩ "object.__setattr__" "object" "__setattr__" (.ref ea) [.str "at" t,u] [] _ SF.kind SF.split sub (SF.args (.ref ea) (.str "at" t) u) ?_);rw [PySem.W.osa_eq,refuse_eq];refine wpAny_bind (wpAny_bind (J.type.here (wpAny_bind (hmr.here ?_))));rw [refuseLoop_ref,refuseLoop_ref,PySem.F.store_ValueError.passes];refine wpAny_pure (wpAny_bind (J.type.here (wpAny_bind ((PySem.W.looks_findIn X Z.nat).here (wpAny_bind (wpAny_pure ?_))))));dsimp only;obtain ⟨oc,od,odt,osl⟩:=oe;dsimp only at hc hd hv h;subst hc;subst hd;subst hv;refine wpAny_bind (wpAny_pure (wpAny_bind (wpAny_bind (wpAny_loadPart he (wpAny_bind ((PySem.W.looks_clsIn X hcd).here ?_))))));rw [hdi];have hx1:(hh.push { cls:=.type "dict",data:=.dict #[] }).get? ea=some ⟨.ref C,none,.fields vs,osl⟩:=Heap.get?_push_of_some _ he;have hxs:ea≠hh.objs.size:=Nat.ne_of_lt (Heap.lt_size he);refine wpAny_bind (wpAny_alloc ?_);refine wpAny_bind (wpAny_update hx1 ?_);refine wpAny_pure ?_;have hgd:((hh.push { cls:=.type "dict",data:=.dict #[] }).update ea fun o=>{ o with dict:=some hh.objs.size }).get? hh.objs.size=some { cls:=.type "dict",data:=.dict #[] } :=
  (Heap.get?_update_ne _ _ _ _ hxs.symm).trans (Heap.get?_push_at rfl rfl)
 have hnd:((hh.push { cls:=.type "dict",data:=.dict #[] }).update ea fun o=>{ o with dict:=some hh.objs.size }).Ns hh.objs.size (fun _=>none):=⟨_,#[],_,hgd,rfl,fun e he=>absurd he (by simp),fun _=>rfl⟩;refine wpAny_bind (wpAny_pure (wpAny_bind (wpAny_nsSet1 (Heap.Ns1.of_empty hnd) fun h' hn' hs=>?_)));obtain ⟨oD,esD,epD,hoD,hdD,hcD⟩:=hn'.count (Within.cons "at" u Within.nil);refine wpAny_bind (wpAny_lookBehind hoD (by rw [hdD];exact pastItsLine_dict (Nat.le_trans hcD (by rw [List.length_cons,List.length_nil,sizeLine_eq];omega))) ?_);refine wpAny_pure (h h' ?_ hn' fun b o hb q=>?_)
 ·exact (hs.2 ea hxs).trans (Heap.get?_update_self _ hx1 rfl)
 ·exact (hs.2 b (Nat.ne_of_lt (Heap.lt_size q))).trans ((Heap.get?_update_ne _ _ _ _ hb).trans (Heap.get?_push_of_some _ q))
end
section
variable {prog:Program} {w:World} {A:Around} {E:Value->Shared->Prop} {h:Heap} {g:Array GenState} {d:Drawn} {t:Nat} {os:OsState} {K:PySem.W.Frag} {C CJ x D:Addr} {ox:Obj} {v:Value} {vs:Array Value} {m:Str->Option Value}
def aR2 {tk:Tok} {Q:Fin->Shared->Prop} (Y:ECls K C CJ) (X:K.In h) (hx:h.get? x=some ox) (hc:ox.cls=.ref C) (hv:ox.data=.fields vs) (hd:ox.dict=some D) (hn:h.Ns1 D m) (hm:m "at"=some v) (hq:Q (.done (.ret v)) ⟨h,g,d,t,os⟩) :
  wpAny (model prog w) A (Builtin.«object.__getattribute__» ⟨[.ref x,.str "at" tk],[]⟩) Q E ⟨h,g,d,t,os⟩:=by
 obtain ⟨cd,hcd,hb⟩:=PySem.W.any_some Y.mro;obtain ⟨hdi,_⟩:=Bool.and_eq_true_iff.mp hb;have L6:PySem.W.Looks (model prog w) h (typeLookup (.ref C) "at") none:=PySem.W.looks_findIn X Y.nat;obtain ⟨od,ho,hl⟩:=aB2 hn;have J:PySem.W.InstAt h x ox C (some od):=⟨hx,hc,by unfold PySem.W.notCls;rw [hv],by rw [hd];exact ho⟩;have L7:PySem.W.Looks (model prog w) h (Builtin.ObjectAttr.inOwnDict "at" (.ref x)) (some v):=PySem.W.looks_own X J hcd (by unfold PySem.W.ownOf;rw [if_pos hdi];show PySem.W.lookIn "at" od=_;rw [hl,hm]);unfold Builtin.«object.__getattribute__» Builtin.ObjectAttr.find Builtin.ObjectAttr.ownThenClass
 repeat (any_goals (first | assumption | (with_reducible refine wpAny_loadPart_at hx ?_;rw [hc]) | with_reducible refine L6.at ?_ | with_reducible refine L7.at ?_ | wp_step))
def bB2 {b:Bool} {Q:Value->Shared->Prop} (FB:Slot "ValueError" "__getattribute__" "BaseException.__getattribute__") (Z:XCls K C) (Y:ECls K C CJ) (X:K.In h) (hx:h.get? x=some ox) (hc:ox.cls=.ref C) (hv:ox.data=.fields vs) (hd:ox.dict=some D) (hn:h.Ns1 D m) (hm:m "at"=some v) (hh:handedOut v=pure v) (hq:Q v ⟨h,g,d,t+1,os⟩) :
  wpAny (model prog w) A (getAttr (.ref x) "at" b) Q E ⟨h,g,d,t,os⟩:=by
 have L4:PySem.W.Looks (model prog w) h (typeLookup (.ref C) "__getattribute__") (some (.builtin "BaseException.__getattribute__")):=PySem.W.looks_findIn X Z.ga;have L5:PySem.W.Looks (model prog w) h (typeLookup (.ref C) "__getattr__") none:=PySem.W.looks_findIn X Z.gn;have f3:=FB.bind (.ref x);have y2:(Value.builtin "BaseException.__getattribute__"==Value.builtin "object.__getattribute__")=false:=by decide +kernel
 have y1:(onTheHeap (Value.ref C)&&Value.builtin "BaseException.__getattribute__"==Value.builtin "object.__getattribute__")=false:=by rw [y2];rfl
 have y0:(b&&onTheHeap (Value.builtin "BaseException.__getattribute__"))=false:=by cases b<;>rfl
 unfold getAttr
 repeat (any_goals (first | assumption | (with_reducible refine wpAny_loadPart_at hx ?_;rw [hc]) | with_reducible refine L4.at ?_ | with_reducible refine L5.at ?_ | wp_step))
 refine codeAny_call_builtin FB.plain F.entry_bexc_ga ?_;refine vM Z X hx hc (aR2 Y X hx hc hv hd hn hm ?_)
 repeat (any_goals (first | assumption | wp_step))
end
section
variable {prog:Program} {w:World} {A:Around} {E:Value->Shared->Prop} {s:Shared} {K:PySem.W.Frag} {C CJ ea:Addr} {oe:Obj} {vs:Array Value} {us:List Value}
def aR3 {Q:Value->Shared->Prop} (FB:ExcBaseFacts "ValueError" "ValueError.__new__" "ValueError.__init__" sZ) (Y:ECls K C CJ) (X:K.In s.heap) (he:s.heap.get? ea=some oe) (hc:oe.cls=.ref C) (hd:oe.data=.fields vs) {t0:Addr} (h0:vs[0]?=some (.ref t0)) (hz:us.length<=sizeLine)
  (h:Q .none { s with heap:=(s.heap.push { cls:=.type "tuple",data:=.seq us.toArray }).update ea (Obj.mapFields (·.setIfInBounds 0 (.ref s.heap.objs.size))) }) :
  wpAny (model prog w) A (call (.builtin "ValueError.__init__") (.ref ea::us)) Q E s:=by
 obtain ⟨cd,hcd,hb⟩:=PySem.W.any_some Y.mro;have hm:=eq_of_beq (Bool.and_eq_true_iff.mp hb).2;have L3:∀ {M:Model},PySem.W.Looks M s.heap (isSubtype (.ref C) (.type "ValueError")) true:=fun {M}=>PySem.W.looks_mroIn X (by unfold PySem.W.mroIn;rw [hcd,Option.bind_some,hm];rfl);refine wpAny_call (codeAny_call_builtin FB.init.plain FB.initEntry ?_);have hshort:=FB.noStar;obtain ⟨c0,d0,sl,hCo⟩:∃ c0 d0 sl,s.heap.get? C=some ⟨c0,d0,.cls cd,sl⟩:=by
  unfold PySem.W.clsIn at hcd;split at hcd
  ·rename_i c0 d0 c1 sl e;cases hcd;exact ⟨_,_,_,X _ _ e⟩
  ·cases hcd
 obtain ⟨hh,g,dr,t,os⟩:=s;dsimp only at X he h L3 hCo ⊢;simp only [checkBuiltinCall,FB.initKind,FB.initSplit,FB.initRow];unfold isInstance
 repeat (first | (with_reducible refine wpAny_loadPart_at he ?_;rw [hc]) | with_reducible refine L3.at ?_ | with_reducible refine wpAny_load hCo ?_ | with_reducible refine wpAny_loadPart_at hCo ?_ | wp_step)
 refine wpAny_onRaise ?_;rw [show ∀ (a b:String) (n:Nat),Bind.check ⟨.positional,"*","ValueError",.self,[⟨"args",.varPos,false⟩]⟩ a b n (List.map (fun x=>x.fst) ({ pos:=Value.ref ea::us }:Args).kw)=pure () from fun a b n=>check_star_args _ _ _ _ _ _];refine wpAny_pure ?_;unfold Builtin.«BaseException.__init__»;dsimp only;rw [if_neg (by simp)];unfold newTuple Builtin.BaseException.bexcPut;have hsz:0 < vs.size:=(Array.getElem?_eq_some_iff.mp h0).1;have he1:=Heap.get?_push_of_some (h:=hh) { cls:=.type "tuple",data:=.seq us.toArray } he;refine wpAny_bind (wpAny_newObj_type (wpAny_bind (wpAny_bind (wpAny_field he1 hd h0 (wpAny_bind (wpAny_setField he1 hd hsz ?_))))) (by show us.toArray.size<=sizeLine;rw [List.size_toArray];exact hz));exact wpAny_letGo (wpAny_pure h)
end
end L2

namespace DL
open PySem PySem.Spec PyProof.Rows L2 CI
section
variable {S:Sx} {κ:Kp} {M:Mp} {h:aA} {s s':Shared}
def Mem.keepF {fs:List Addr} (R:Mem S κ M h s) (hf:∀ a∈fs,∃ o,κ a=some (false,o)) (k:∀ b o,s.heap.get? b=some o->b∉fs->¬ aU κ M b->s'.heap.get? b=some o) (u:∀ a∈fs,∀ o,s.heap.get? a=some o->(∃ o',κ a=some (false,o'))->∃ sl,s'.heap.get? a=some { o with slots:=sl }) (hg:AllBare s'.gens) (ho:s'.os=s.os):Mem S κ M h s' where
 z:=fun b o e=>k b o (R.z b o e) (fun m=>by obtain ⟨o',q⟩:=hf b m;rw [(R.k b _ _ q).2.2] at e;cases e) fun f=>by rw [f.1] at e;cases e
 k:=fun b t o e=>by
  have nf:¬ aU κ M b:=fun f=>by rw [f.2.1] at e;cases e
  obtain ⟨h1,⟨sl,h2⟩,h3⟩:=R.k b t o e
  by_cases m:b∈fs
  ·obtain ⟨o',q⟩:=hf b m;rw [e] at q;cases q;obtain ⟨sl2,h4⟩:=u b m _ h2 ⟨_,e⟩;exact ⟨fun z=>(by cases z),⟨sl2,h4⟩,h3⟩
  ·exact ⟨fun z=>k b o (h1 z) m nf,⟨sl,k b _ h2 m nf⟩,h3⟩
 len:=R.len
 ap:=R.ap
 off:=fun p hp a ha=>by
  obtain ⟨h1,h2,o,h3⟩:=R.off p hp a ha;refine ⟨h1,h2,o,k a o h3 (fun m=>?_) fun f=>?_⟩
  ·obtain ⟨o',q⟩:=hf a m;rw [h2] at q;cases q
  ·rcases ha with z | z
   ·exact (f.2.2 p hp).1 z.symm
   ·exact (f.2.2 p hp).2 z.symm
 cel:=fun i p c e1 e2=>(R.cel i p c e1 e2).go .refl fun b o hb q=>by
  have hp:=List.mem_of_getElem? e1;refine k b o q (fun m=>?_) fun f=>?_
  ·obtain ⟨o',z⟩:=hf b m;rw [(R.off p hp b hb).2.1] at z;cases z
  ·rcases hb with e | e;exact (f.2.2 p hp).1 e.symm;exact (f.2.2 p hp).2 e.symm
 base:=R.base
 bare:=hg
 os:=ho.trans R.os
noncomputable def frs (l:List Env):List Addr:=l.filterMap fun e=>e.frame
def FrL (κ:Kp) (l:List Env):Prop:=∀ env∈l,env.scope.kind≠.module/\∃ L o,env.frame=some L/\κ L=some (false,o)/\∀ vs,o.data≠.fields vs
def FrL.at {l:List Env} (F:FrL κ l) {a:Addr} (ha:a∈frs l):∃ o,κ a=some (false,o)/\∀ vs,o.data≠.fields vs:=by
 obtain ⟨env,he,e⟩:=List.mem_filterMap.mp ha;obtain ⟨_,L,o,h1,h2,h3⟩:=F env he;rw [h1] at e;cases e;exact ⟨o,h2,h3⟩
theorem FrL.fun (R:Mem S κ M h s) {as:List Addr}:∀ {l:List Env},FrL κ l->(∀ a∈frs l,a∈as)->s.heap.FunFrames (PySem.W.hideAll s.heap as) l
 | [],_,_=>by unfold Heap.FunFrames;trivial
 | env::l,F,ha=>by
  unfold Heap.FunFrames;obtain ⟨h1,L,o,h2,h3,h4⟩:=F env List.mem_cons_self;obtain ⟨_,⟨sl,h5⟩,_⟩:=R.k _ _ _ h3;refine ⟨h1,⟨L,_,h2,PySem.W.hideAll_none as (ha L (List.mem_filterMap.mpr ⟨env,List.mem_cons_self,h2⟩)),h5,h4⟩,FrL.fun R (fun e he=>F e (List.mem_cons_of_mem _ he)) fun a hm=>ha a ?_⟩;obtain ⟨e,he,z⟩:=List.mem_filterMap.mp hm;exact List.mem_filterMap.mpr ⟨e,List.mem_cons_of_mem _ he,z⟩
theorem Mem.there (R:Mem S κ M h s) {b:Addr} (n:¬ aU κ M b):∃ u,s.heap.get? b=some u:=by
 cases q:s.heap.get? b with
 | some u=>exact ⟨u,rfl⟩
 | none=>exact (n (R.new q)).elim
def AtO (D:Addr) (oD:Obj) (j:Int):Prop:=∃ t,∀ h:Heap,h.get? D=some oD->h.Ns1 D fun y=>if y="at" then some (.int j t) else none
def Er1 (hm:Bool) (M:Mp) (C ea:Addr) (n:Option Int) (h:Heap):Prop:=∃ dd x,AtP (ErP (.ref C) dd x) ea h/\(hm=false->x=.none)/\∀ j,n=some j->∃ D oD,dd=some D/\M.Z D=some oD/\AtO D oD j
structure Fly (S:Sx) (κ:Kp) (M:Mp) (h:aA) (l:List Env) (C ea:Addr) (n:Option Int) (s:Shared):Prop where
 mem:Mem S κ M h s
 fl:∃ B t,Heap.FlyingW B l ea (.ref C) (.ref t) s.heap/\∀ b o,s.heap.get? b=some o->b∉frs l->¬ aU κ M b->B.get? b=some o
 er:Er1 S.hm M C ea n s.heap
variable {A:Around} {env:Env} {l:List Env} {L C e:Addr} {vs:Array Value} {κ0:Kp} {Ex:Value->Shared->Prop} {n:Option Int} {oe:Obj} {a0:Addr}
def kM (hf:env.frame=some L):frs (env::l)=L::frs l:=by
 unfold frs;rw [List.filterMap_cons,hf]
def aR4 (R:Mem S κ M h s) (F:FrL κ (env::l)) (hA:A.frames=some (env::l)) (hf:env.frame=some L) (lt:∀ a x,κ0 a=some x->κ a=some x) (h0:κ0 L=none) (fe:aU κ M e) (he:s.heap.get? e=some oe) (hc:oe.cls=.ref C) (hd:oe.data=.fields vs) (v0:vs[0]?=some (.ref a0)) (v1:vs[1]?=some .none) (er:Er1 S.hm M C e n s.heap) :
  wpAny (model S.P S.w) A (leaving env (.ref e)) (fun _ s'=>Fly S κ0 M h l C e n s') Ex s:=by
 obtain ⟨dd,x,x0,xh,xn⟩:=er;have nS:e∉frs (env::l):=fun m=>by obtain ⟨o,q,_⟩:=F.at m;rw [fe.2.1] at q;cases q
 have kB:∀ a o,s.heap.get? a=some o->a∉frs (env::l)->a≠e->(PySem.W.hideAll s.heap (e::frs (env::l))).get? a=some o:=fun a o q n z=>PySem.W.hideAll_get _ q (by simp [z,n]);have hide:(PySem.W.hideAll s.heap (e::frs (env::l))).get? e=none:=PySem.W.hideAll_none _ List.mem_cons_self;refine wpAny_mono (Kp.any ErP.freed (pK (.ref e) env) x0 (wpAny_leaving_firstW (base:=PySem.W.hideAll s.heap (e::frs (env::l))) (env:=env) (outer:=l) (a0:=.ref a0) (Q:=fun _ s''=>∃ h',s''={ s with heap:=h' }/\(PySem.W.hideAll s.heap (e::frs (env::l))).LeftW (env::l) e oe.cls (.ref a0) s.heap h') hA (FrL.fun R F fun a m=>List.mem_cons_of_mem _ m) hf he (fun a o q=>PySem.W.of_hideAll _ q) hide hd v1 v0 fun h' hL=>⟨h',rfl,hL⟩)) (fun _ s'' z=>?_) fun _ _ z=>z;obtain ⟨⟨h',rfl,l1,⟨_,_,l2⟩,l3,up⟩,x1⟩:=z;rw [hc] at l3;have R1:Mem S κ M h { s with heap:=h' }:=R.keepF (fs:=frs (env::l)) (fun a ha=>let ⟨o,h1,_⟩:=F.at ha;⟨o,h1⟩) (fun b o q n nf=>l1 b o (kB b o q n fun z=>nf (z ▸ fe))) (fun a ha o q _=>by
  obtain ⟨o',k1,k2⟩:=F.at ha;obtain ⟨_,⟨sl,k3⟩,_⟩:=R.k _ _ _ k1;rw [q] at k3;cases k3;exact up a _ q k2) R.bare rfl
 have R2:Mem S κ0 M h { s with heap:=h' }:=R1.less lt;refine ⟨R2,⟨_,a0,⟨l1,hide,l2,l3⟩,fun b o q nb nf=>?_⟩,dd,x,x1,xh,xn⟩;have fL:aU κ0 M L:=by
  obtain ⟨o,k1,_⟩:=F.at (a:=L) (by rw [kM hf];exact List.mem_cons_self);exact ⟨(R.k _ _ _ k1).2.2,h0,R.kc k1⟩
 have nb':b∉frs (env::l):=fun m=>by
  rw [kM hf] at m;rcases List.mem_cons.mp m with z | z
  ·rw [z] at nf;exact nf fL
  ·exact nb z
 have ne:b≠e:=fun z=>nf (by
  rw [z];refine ⟨fe.1,?_,fe.2.2⟩;cases q:κ0 e with
  | none=>rfl
  | some y=>have:=lt _ _ q;rw [fe.2.1] at this;cases this)
 obtain ⟨u,hu⟩:=(R.less lt).there nf;have z:=l1 b u (kB b u hu nb' ne);have q:h'.get? b=some o:=q;rw [q] at z;cases z;exact kB b _ hu nb' ne
def bQ4 (X:Fly S κ M h (env::l) C e n s) (F:FrL κ (env::l)) (hA:A.frames=some (env::l)) (hf:env.frame=some L) (lt:∀ a x,κ0 a=some x->κ a=some x) (h0:κ0 L=none) :
  wpAny (model S.P S.w) A (leaving env (.ref e)) (fun _ s'=>Fly S κ0 M h l C e n s') Ex s:=by
 obtain ⟨R,⟨B,t,fl,pr⟩,dd,x,x0,xh,xn⟩:=X;refine wpAny_mono (Kp.any ErP.freed (pK (.ref e) env) x0 (wpAny_leaves_onW (env:=env) (outer:=l) (Q:=fun _ s''=>∃ h',s''={ s with heap:=h' }/\Heap.FlyingW B l e (.ref C) (.ref t) h'/\s.heap.UpToSlots h') hA hf fl fun h' fl' up=>⟨h',rfl,fl',up⟩)) (fun _ s'' z=>?_) fun _ _ z=>z;obtain ⟨⟨h',rfl,fl',up⟩,x1⟩:=z;have R1:Mem S κ M h { s with heap:=h' }:=R.keepF (fs:=frs (env::l)) (fun a ha=>let ⟨o,h1,_⟩:=F.at ha;⟨o,h1⟩) (fun b o q n nf=>fl'.1 b o (pr b o q n nf)) (fun a ha o q _=>by
  obtain ⟨o',k1,k2⟩:=F.at ha;obtain ⟨_,⟨sl,k3⟩,_⟩:=R.k _ _ _ k1;rw [q] at k3;cases k3;exact up a _ q k2) R.bare rfl
 have R2:Mem S κ0 M h { s with heap:=h' }:=R1.less lt;refine ⟨R2,⟨B,t,fl',fun b o q nb nf=>?_⟩,dd,x,x1,xh,xn⟩;have fL:aU κ0 M L:=by
  obtain ⟨o,k1,_⟩:=F.at (a:=L) (by rw [kM hf];exact List.mem_cons_self);exact ⟨(R.k _ _ _ k1).2.2,h0,R.kc k1⟩
 have nb':b∉frs (env::l):=fun m=>by
  rw [kM hf] at m;rcases List.mem_cons.mp m with z | z
  ·rw [z] at nf;exact nf fL
  ·exact nb z
 have nf':¬ aU κ M b:=fun f=>by
  refine nf ⟨f.1,?_,f.2.2⟩;cases q:κ0 b with
  | none=>rfl
  | some x =>
   have z:=f.2.1;rw [lt b x q] at z;cases z
 obtain ⟨u,hu⟩:=R.there nf';have z:=fl'.1 b u (pr b u hu nb' nf');have q:h'.get? b=some o:=q;rw [q] at z;cases z;exact pr b _ hu nb' nf'
end
end DL

namespace DL
open PySem PySem.Spec PyProof.Rows L2 CI
structure FnR (S:Sx) (d:Nat) (f:Addr) (fd:FuncData) (ps:List Str) (C:Addr) (n:Option Int) (pre:List W->aA->Prop):Prop where
 len:∀ ws h,pre ws h->ws.length=ps.length
 run:∀ {A:Around} {κ:Kp} {M:Mp} {h:aA} {s:Shared} {args:Args} {us:List Value} {ws:List W} {l:List Env},Room S d A->Hk A M->A.frames=some l->FrL κ l->Mod S->S.base.objs.size<=s.heap.objs.size->Mem S κ M h s->BindsTo s fd args (ps.zip us)->RepWs S M ws us->pre ws h ->
  codeAny (model S.P S.w) A (.call (.ref f) args) (fun r s'=>∃ ea M',r=.error (.ref ea)/\Le M M'/\Fly S κ M' h l C ea n s') s
def Rz (X:Cx) (κ:Kp) (M:Mp) (h:aA) (C:Addr) (n:Option Int) (ex:Value) (s:Shared):Prop:=∃ κ' M' l ea,ex=.ref ea/\Own X κ κ'/\Le M M'/\X.A.frames=some (X.env::l)/\FrL κ' (X.env::l) /\
 ((Mem X.S κ' M' h s/\aU κ' M' ea/\(∃ oe vs t,s.heap.get? ea=some oe/\oe.cls=.ref C/\oe.data=.fields vs/\vs[0]?=some (.ref t)/\vs[1]?=some .none)/\Er1 X.S.hm M' C ea n s.heap)\/Fly X.S κ' M' h (X.env::l) C ea n s)
section
variable {S:Sx} {t:Top} {n q:Str} {nA:Option Int} {st:Stmt} {f C:Addr} {fd:FuncData} {k:Nat} {pre:List W->aA->Prop}
def iH (F:Fun S.K n q st f fd) (hb:fnB st=true) (len:∀ ws h,pre ws h->ws.length=(parsOf st).length)
  (he:∀ {A:Around} {κ:Kp} {M:Mp} {h:aA} {s:Shared} {L:Addr} {cd:Value} {ws:List W} {E:Value->Shared->Prop},Room S (k+1) A->pre ws h->Mem S κ M h s->Fra (cxF S st q L f cd A) κ M (cH (aZ st) ws)->PassesOwn (model S.P S.w) (cxF S st q L f cd A).A (cxF S st q L f cd A).env E->(∀ ex s',Rz (cxF S st q L f cd A) κ M h C nA ex s'->E ex s') ->
   Wp S (cxF S st q L f cd A).A (execs (aN st) (cxF S st q L f cd A).env) (fun _ _=>False) E s) :
  FnR S (k+1) f fd (parsOf st) C nA pre:=by
 refine ⟨len,fun {A κ M h s args us ws l} hr hk hA FL md hz R hbd r e=>?_⟩;obtain ⟨oc,od,kV,doc,pm,an,cdv,ct,osl,rfl,lk,hcd⟩:=F.ex;have FS:=aM0 hb;have KX:S.K.In s.heap:=md.kin.keeps R.bk;have lim:s.heap.NoLimit:=md.nolimit.keeps R.bk;have hkind:∀ y∈(parsOf st).zip us,(defScope st).names.lookup y.1=some .local\/((defScope st).names.lookup y.1=some .cell/\((cellsFrom (s.heap.objs.size+1) (defScope st).names []).lookup y.1).isSome=true):=fun ⟨n,v⟩ hy=>by
  rcases FS.par n (zip_fst hy) with q | q
  ·exact .inl q
  ·exact .inr ⟨q,PySem.W.cellsFrom_some _ _ _ (.inl q)⟩
 have hdep:A.depth < recursionLimit:=by have:=hr.dp;omega
 refine codeAny_call_function hdep (KX _ _ lk) rfl FS.co FS.gen rfl (PySem.W.codeRec_of KX hcd) (hbd _ _ _ _ ?_);refine wpAny_newFunctionEnv_cells FS.kind hkind fun env he' s1 ic=>?_;subst he';refine ⟨lim.keeps ic.toInCall.keep,codeAny_func ?_⟩;obtain ⟨κ1,R1,F1,back⟩:=qH (A:=A) FS md hz (len _ _ e) hk ⟨l,hA,FL⟩ R r ic;refine wpAny_mono (he hr e R1 F1 PassesOwn.leaving fun ex s2 ⟨κ',M',l',ea,hex,own,l2,hA',FL',h2⟩=>?_) (fun _ _ z=>z.elim) fun _ _ z=>z;subst hex;have hl:l'=l:=by
  have z:(A.deeper (envOfC q (defScope st) s.heap.objs.size f cdv)).frames=some (envOfC q (defScope st) s.heap.objs.size f cdv::l):=by simp [Around.deeper,hA]
  have z':(A.deeper (envOfC q (defScope st) s.heap.objs.size f cdv)).frames=some (envOfC q (defScope st) s.heap.objs.size f cdv::l'):=hA';rw [z] at z';cases z';rfl
 subst hl;rcases h2 with ⟨R0,fe,⟨oe,vs,t,he,hc,hd,v0,v1⟩,er⟩ | X
 ·exact wpAny_mono (aR4 (Ex:=NE) (L:=s.heap.objs.size) R0 FL' hA' rfl (back κ' own) R.size.2.1 fe he hc hd v0 v1 er) (fun _ s3 z=>⟨ea,M',rfl,l2,z⟩) fun _ _ z=>z.elim
 ·exact wpAny_mono (bQ4 (Ex:=NE) (L:=s.heap.objs.size) X FL' hA' rfl (back κ' own) R.size.2.1) (fun _ s3 z=>⟨ea,M',rfl,l2,z⟩) fun _ _ z=>z.elim
end
end DL

namespace DL
open PySem PySem.Spec PyProof.Rows L2 CI
section
variable {X:Cx} {κ:Kp} {M:Mp} {h h':aA} {s:Shared} {δ:DSt} {x:Str} {np pos epos:Pos} {e:Expr} {es:List Expr} {fa:XR (List W)} {ws:List W} {C:Addr} {B newId initId:String} {bmB:List Value} {Q:Flow->Shared->Prop} {nA:Option Int}
def aR5 {l:List Env} (O:OwnCls x C bmB newId X.S.mg X.S.base) (FB:ExcBaseFacts B newId initId bmB) (ha:SA X (e::es) fa) (hd:X.A.handled=none) (hn:aY x=true) (hg:Gl X x) (hA:X.A.frames=some (X.env::l)) (hst:(e::es).all aI=true)
  (R:Mem X.S κ M h s) (F:Fra X κ M δ) (e1:fa δ h=some (ws,h')) (hz:ws.length<=sizeLine):Wp X.S X.A (exec (.Raise (some (.Call (.Name x np) (e::es) [] pos)) none epos) X.env) Q (Rz X κ M h' C none) s:=by
 obtain ⟨tl,N,nm,qn,bs,hdct,sn,sub,ab,col,dd,k0,k1,k2,k3,k5,mN,hC,hN,hni,T⟩:=O.obj;rw [List.all_cons,Bool.and_eq_true] at hst;have he:=bS (X:=X) e hst.1 (es:=es);have hpl:=cL (X:=X) pos es hst.2;have hall:(backTo pos (starEach (e::es) X.env)).any (·.1)=false:=by
  rw [he];show (false||(backTo pos (starEach es X.env)).any (·.1))=false;rw [hpl];rfl
 have FL:FrL κ (X.env::l):=by
  obtain ⟨l',z1,z2⟩:=F.frs;rw [hA] at z1;cases z1;exact z2
 refine wpAny_Raise_call_subT (C:=C) (N:=N) (nm:=nm) (q:=qn) (bs:=bs) (bm:=tl) (hdct:=hdct) (sn:=sn) (sub:=sub) (ab:=ab) (col:=col) (dd:=dd) (k0:=k0) (k1:=k1) (k2:=k2) (k3:=k3) (k5:=k5) (mN:=mN) FB (T.hasType FB.hasBase) hd hall hni (fU F R hg O.bound hn ⟨rfl,?_⟩);have hq:=ha pos R F e1;rw [he] at hq ⊢;refine Calls.evalArgs_plain (wpAny_mono hq (fun us s2 ⟨M2,l2,R2,r⟩=>⟨rfl,by rw [<- r.length];exact hz,R2.bk _ _ hC,hN.keeps R2.bk,T.keeps R2.bk,fun h1 ea hm=>?_⟩) fun _ _ z=>z.elim);obtain ⟨t0,g1,_⟩:=hm.there;exact ⟨κ,M2,l,ea,rfl,.refl,l2,hA,FL,.inl ⟨R2.kept (t:=s2.toks) hm.keeps,R2.new hm.new,⟨_,_,t0,g1,rfl,rfl,rfl,rfl⟩,none,.none,⟨_,g1,rfl,rfl,_,rfl,rfl⟩,fun _=>rfl,fun j z=>nomatch z⟩⟩
def Fra.frl {l:List Env} (F:Fra X κ M δ) (hA:X.A.frames=some l):FrL κ l:=by
 obtain ⟨l',z1,z2⟩:=F.frs;rw [hA] at z1;cases z1;exact z2
def Rt (X:Cx) (κ:Kp) (M:Mp) (h:aA) (C:Addr) (n:Option Int) (ex:Value) (s:Shared):Prop:=∃ M' l ea,ex=.ref ea/\Le M M'/\X.A.frames=some (X.env::l)/\Fly X.S κ M' h (X.env::l) C ea n s
def Rt.rz {ex:Value} {s':Shared} (F:Fra X κ M δ) (z:Rt X κ M h C nA ex s'):Rz X κ M h C nA ex s' :=
 let ⟨M',l,ea,h1,h2,h3,h4⟩:=z;⟨κ,M',l,ea,h1,.refl,h2,h3,F.frl h3,.inr h4⟩
theorem Rt.go {M1:Mp} {ex:Value} (l:Le M M1) (z:Rt X κ M1 h C nA ex s):Rt X κ M h C nA ex s :=
 let ⟨M',l',ea,h1,h2,h3⟩:=z;⟨M',l',ea,h1,l.trans h2,h3⟩
def iU {l:List Env} {d:Nat} {f:Addr} {fd:FuncData} {ps:List Str} {pre:List W->aA->Prop} {p:Pos} {Qv:Value->Shared->Prop} (FF:FnR X.S d f fd ps C nA pre) (rm:Room X.S d X.A) (mg:X.S.mg x=some (.ref f)) (kp:PySem.W.keepIn X.S.K (.ref f)=true) (hb:eO X.S.K fd ps)
  (ha:SA X (e::es) fa) (hn:aY x=true) (hg:Gl X x) (hA:X.A.frames=some (X.env::l)) (hst:(e::es).all aI=true) (R:Mem X.S κ M h s) (F:Fra X κ M δ) (e1:fa δ h=some (ws,h')) (hp:pre ws h') :
  Wp X.S X.A (eval (.Call (.Name x p) (e::es) [] pos) X.env) Qv (Rt X κ M h' C nA) s:=by
 rw [List.all_cons,Bool.and_eq_true] at hst;refine wpAny_Call_Name_kw (fU F R hg mg hn ?_);refine PySem.W.callWith_K (h₀:=X.S.base) F.kin kp (wpAny_mono (ha pos R F e1) (fun us s1 ⟨M1,l1,R1,r1⟩=>⟨F.kin.keeps R1.bk,?_⟩) fun _ _ z=>z.elim) (bS e hst.1) (cL pos es hst.2);have hl:us.length=ps.length:=by rw [<- r1.length];exact FF.len _ _ hp
 refine wpAny_call (codeAny_mono (FF.run (args:=⟨us,[]⟩) rm (F.hk.go l1) hA (F.frl hA) F.ok.mod ((F.go l1).size R1) R1 (hb s1 us (F.ok.mod.kin.keeps R1.bk) hl) r1 hp) fun r s' ⟨ea,M',hq,l2,fl⟩=>?_);subst hq;exact ⟨M',l,ea,rfl,l1.trans l2,hA,fl⟩
theorem Rz.go {M1:Mp} {ex:Value} (l:Le M M1) (z:Rz X κ M1 h C nA ex s):Rz X κ M h C nA ex s :=
 let ⟨κ',M',l',ea,h1,h2,h3,h4⟩:=z;⟨κ',M',l',ea,h1,h2,l.trans h3,h4⟩
variable {E:Value->Shared->Prop} {a c:Expr} {body els:List Stmt} {t:Stmt} {r:List Stmt} {v:Evs} {st:Sta} {d:Nat}
theorem kO (F:Fra X κ M δ) (hs:swapsWith a none pos.line X.env=pure false) (ra:Wp X.S X.A (eval a X.env) (fun _ _=>False) E s):Wp X.S X.A (exec (.Expr a pos) X.env) Q E s :=
 wpAny_Expr_any (wpAny_mono ra (fun _ _ z=>z.elim) fun _ _ z=>z) (quiet F) hs
theorem bQ5 (ra:Wp X.S X.A (eval a X.env) (fun _ _=>False) E s):Wp X.S X.A (exec (.Return (some a) pos) X.env) Q E s :=
 wpAny_Return_some (wpAny_mono ra (fun _ _ z=>z.elim) fun _ _ z=>z)
theorem bG (rt:Wp X.S X.A (exec t X.env) (fun _ _=>False) E s):Wp X.S X.A (execs (t::r) X.env) Q E s :=
 wpAny_execs_cons (wpAny_mono rt (fun _ _ z=>z.elim) fun _ _ z=>z)
def zR {h1:aA} {b:Bool} (S:Snd v) (G:Good X st d) (R:Mem X.S κ M h s) (F:Fra X κ M δ) (e1:v.T st c δ h=some (b,h1))
  (rb:∀ {M1:Mp} {s1:Shared},Mem X.S κ M1 h1 s1->Fra X κ M1 δ->Wp X.S X.A (execs (if b=true then body else els) X.env) (fun _ _=>False) (Rz X κ M1 h' C nA) s1):Wp X.S X.A (exec (.If c body els pos) X.env) Q (Rz X κ M h' C nA) s:=by
 refine wpAny_If (wpAny_mono (S.T G c R F e1) (fun t' s1 ⟨et,M1,l1,R1⟩=>?_) fun _ _ z=>z.elim);subst et;have z:=wpAny_mono (rb R1 (F.go l1)) (fun _ _ z=>z.elim) (fun _ _ z=>Rz.go l1 z) (Q':=Q);cases t' with
 | true=>exact z
 | false=>exact z
def bG5 {h1:aA} {b:Bool} (S:Snd v) (G:Good X st d) (R:Mem X.S κ M h s) (F:Fra X κ M δ) (e1:v.T st c δ h=some (b,h1))
  (rb:∀ {M1:Mp} {s1:Shared},Mem X.S κ M1 h1 s1->Fra X κ M1 δ->Wp X.S X.A (execs (if b=true then body else els) X.env) (fun _ _=>False) (Rt X κ M1 h' C nA) s1):Wp X.S X.A (exec (.If c body els pos) X.env) Q (Rt X κ M h' C nA) s:=by
 refine wpAny_If (wpAny_mono (S.T G c R F e1) (fun t' s1 ⟨et,M1,l1,R1⟩=>?_) fun _ _ z=>z.elim);subst et;have z:=wpAny_mono (rb R1 (F.go l1)) (fun _ _ z=>z.elim) (fun _ _ z=>Rt.go l1 z) (Q':=Q);cases t' with
 | true=>exact z
 | false=>exact z
end
end DL

namespace DL
open PySem PySem.Spec PyProof.Rows L2 CI
section
variable {X:Cx} {κ:Kp} {M:Mp} {h h':aA} {s:Shared} {δ:DSt} {x:Str} {A:Around} {u:Value} {E:Value->Shared->Prop} {pos:Pos}
def Lk (X:Cx) (κ:Kp) (x:Str) (u:Value):Prop:=∃ o m,κ X.env.locals=some (false,o)/\jG o m/\m x=some u
def qY {Q:Value->Shared->Prop} (F:Fra X κ M δ) (R:Mem X.S κ M h s) (U:Lk X κ x u) (hk:X.env.scope.names.lookup x=some .local) (hn:aY x=true) (q:Q u s):Wp X.S A (eval (.Name x pos) X.env) Q E s:=by
 unfold aY at hn;simp only [Bool.and_eq_true,Bool.not_eq_true'] at hn;obtain ⟨o,m,h1,⟨es,ep,h2,h3,h4⟩,h5⟩:=U;obtain ⟨_,⟨sl,e⟩,_⟩:=R.k _ _ _ h1;exact wpAny_Name (wpAny_loadName_local F.ok.kind hk ⟨_,es,ep,e,h2,h3,h4⟩ h5 q) hn.1
structure InitB (st:Stmt) (J:Str):Prop where
 fn:fnB st=true
 ps:parsOf st=[("self":Str),"at"]
 l1:(defScope st).names.lookup ("self":Str)=some .local
 l2:(defScope st).names.lookup ("at":Str)=some .local
 lJ:(defScope st).names.lookup J=some .globalImplicit
 nJ:aY J=true
 bd:∃ tx kd p1 p2 p3 p4 p5 p6 p7 p8 p9 pa ap cp ep,aN st=[.Expr (.Call (.Attribute (.Name J p1) "__init__" ap) [.Name "self" p2,.JoinedStr [.Constant (.str tx) kd p3,.FormattedValue (.Name "at" p4) (-1) none p5] p6] [] cp) ep,.Assign [.Attribute (.Name "self" p7) "at" p8] (.Name "at" p9) pa]/\tx.length<=100/\∀ env,∃ pl,eval (.Call (.Attribute (.Name J p1) "__init__" ap) [.Name "self" p2,.JoinedStr [.Constant (.str tx) kd p3,.FormattedValue (.Name "at" p4) (-1) none p5] p6] [] cp) env=(do
   let ov <- eval (.Name J p1) env
   standAt ap.atName
   let (f,first) <- holding [ov] (getMethod ov "__init__" pl)
   callWith cp f first (backTo cp (starEach [.Name "self" p2,.JoinedStr [.Constant (.str tx) kd p3,.FormattedValue (.Name "at" p4) (-1) none p5] p6] env)) (backToKw cp (keywordEach [] env)))
structure InitC (S:Sx) (C CJ:Addr) (J:Str):Prop where
 FB:ExcBaseFacts "ValueError" "ValueError.__new__" "ValueError.__init__" sZ
 Y:ECls S.K C CJ
 mJ:S.mg J=some (.ref CJ)
 ga:PySem.W.specialIn S.K (.ref CJ) "__getattribute__"=some (some (.builtin "type.__getattribute__"))
 rd:PySem.W.readsIn S.K CJ (.type "type")=true
 fc:PySem.W.findCls S.K (.ref CJ) (.type "type") "__init__"=some (.val (.builtin "ValueError.__init__"))
def bB3 {i:Int} (hi:-1<=i/\i<=100):(Str.ofString (toString i)).length<=10:=by
 have:∀ k:Nat,k<=101->(Str.ofString (toString ((k:Int) - 1))).length<=10:=by decide +kernel
 have:=this (i+1).toNat (by omega)
 rwa [show (((i+1).toNat:Nat):Int) - 1=i by omega] at this
def aR6 {C CJ ea tt:Addr} {J:Str} {i:Int} {ti:Tok} {p7 p8 p9 pa:Pos} (Z:InitC X.S C CJ J) (F:Fra X κ M δ) (R:Mem X.S κ M h s) (ls:Lk X κ "self" (.ref ea)) (la:Lk X κ "at" (.int i ti))
  (k1:X.env.scope.names.lookup ("self":Str)=some .local) (k2:X.env.scope.names.lookup ("at":Str)=some .local) (fe:aU κ M ea) (he:s.heap.get? ea=some ⟨.ref C,none,.fields #[.ref tt,.none,.none,.none,.bool false,.none],#[]⟩) :
  Wp X.S X.A (execs [.Assign [.Attribute (.Name "self" p7) "at" p8] (.Name "at" p9) pa] X.env)
   (fun fl s'=>fl=.next/\∃ D oD tt,aU κ M D/\Mem X.S κ (M.add D oD) h s'/\aU κ (M.add D oD) ea/\s'.heap.get? ea=some ⟨.ref C,some D,.fields #[.ref tt,.none,.none,.none,.bool false,.none],#[]⟩/\AtO D oD i) NE s:=by
 refine wpAny_execs_cons (plainObj_wpAny_Assign_Attribute (qY F R la k2 (by decide +kernel) (qY F R ls k1 (by decide +kernel) ?_)) (by rfl));refine bB1 Z.Y (F.kin.keeps R.bk) he rfl rfl rfl fun h' e1 n1 kk=>?_;obtain ⟨oD,es,ep,eD,q⟩:=n1;have R3:Mem X.S κ M h { s with heap:=h',toks:=s.toks+2 }:=R.keep (fun b o e nf=>kk b o (fun z=>nf (z ▸ fe)) e) R.bare rfl;have ne:ea≠s.heap.objs.size:=Nat.ne_of_lt (Heap.lt_size he);exact wpAny_execs_nil ⟨rfl,s.heap.objs.size,oD,tt,R.size,R3.frz R.size eD,⟨by show (if ea=s.heap.objs.size then some oD else M.Z ea)=none;rw [if_neg ne];exact fe.1,fe.2⟩,e1,ti,fun h hd=>⟨oD,es,ep,hd,q⟩⟩
def aE8 {C CJ ea t0:Addr} {J tx:Str} {i:Int} {ti:Tok} {kd} {p1 p2 p3 p4 p5 p6 p7 p8 p9 pa ap cp ep:Pos} (Z:InitC X.S C CJ J) (hi:-1<=i/\i<=100) (hev:∀ env,∃ pl,eval (.Call (.Attribute (.Name J p1) "__init__" ap) [.Name "self" p2,.JoinedStr [.Constant (.str tx) kd p3,.FormattedValue (.Name "at" p4) (-1) none p5] p6] [] cp) env=(do
   let ov <- eval (.Name J p1) env
   standAt ap.atName
   let (f,first) <- holding [ov] (getMethod ov "__init__" pl)
   callWith cp f first (backTo cp (starEach [.Name "self" p2,.JoinedStr [.Constant (.str tx) kd p3,.FormattedValue (.Name "at" p4) (-1) none p5] p6] env)) (backToKw cp (keywordEach [] env)))) (ht:tx.length<=100) (F:Fra X κ M δ) (R:Mem X.S κ M h s) (ls:Lk X κ "self" (.ref ea)) (la:Lk X κ "at" (.int i ti))
  (k1:X.env.scope.names.lookup ("self":Str)=some .local) (k2:X.env.scope.names.lookup ("at":Str)=some .local) (gJ:Gl X J) (nJ:aY J=true) (fe:aU κ M ea) (he:s.heap.get? ea=some ⟨.ref C,none,.fields #[.ref t0,.none,.none,.none,.bool false,.none],#[]⟩) :
  Wp X.S X.A (execs [.Expr (.Call (.Attribute (.Name J p1) "__init__" ap) [.Name "self" p2,.JoinedStr [.Constant (.str tx) kd p3,.FormattedValue (.Name "at" p4) (-1) none p5] p6] [] cp) ep,.Assign [.Attribute (.Name "self" p7) "at" p8] (.Name "at" p9) pa] X.env)
   (fun fl s'=>fl=.next/\∃ D oD tt,aU κ M D/\Mem X.S κ (M.add D oD) h s'/\aU κ (M.add D oD) ea/\s'.heap.get? ea=some ⟨.ref C,some D,.fields #[.ref tt,.none,.none,.none,.bool false,.none],#[]⟩/\AtO D oD i) NE s:=by
 have n1:aY "self"=true:=by decide +kernel
 have n2:aY "at"=true:=by decide +kernel
 refine wpAny_execs_cons (wpAny_Expr_any ?_ (quiet F) (by rfl));obtain ⟨pl,hev⟩:=hev X.env;refine PySem.W.methodCall_KW (pl:=pl) (fU F R gJ Z.mJ nJ ?_) hev;refine PySem.W.method_cls (F.kin.keeps R.bk) Z.ga (PySem.W.cls_value (F.kin.keeps R.bk) Z.rd Z.fc rfl ?_);refine PyProof.Rows.callWith_builtin1 ?_ (by rfl) (by rfl);rw [bS (.Name "self" p2) rfl];show Wp _ _ (spliced ((false,eval (.Name "self" p2) X.env)::backTo cp (starEach [_] X.env))) _ _ _;refine Calls.spliced_cons (qY F (R.tok _) ls k1 n1 (yL (by rfl) ?_));refine wpAny_JoinedStr ?_;refine thn (Q:=fun v s1=>∃ t k,v=.str tx t/\s1={ s with toks:=k }) (wpAny_Constant_str ⟨_,_,rfl,rfl⟩) fun v s1 ⟨t1,tk,ev,es⟩=>?_;subst ev es;have z1:(Str.empty++tx).length<=100:=by rw [Str.empty_append];exact ht
 have z2:(Str.empty++tx++Str.ofString (toString i)).length<=sizeLine:=by rw [Str.length_append,sizeLine_eq];have:=bB3 hi;omega
 refine ⟨tx,t1,rfl,by rw [sizeLine_eq];omega,?_⟩;refine wpAny_FormattedValue_plain (qY F (R.tok _) la k2 n2 ?_);refine wpAny_formatField_int (Nat.lt_of_le_of_lt (Nat.log2_le_self _) (by omega)) ⟨_,_,rfl,z2,z2,?_⟩;refine aR3 (oe:=⟨.ref C,none,.fields #[.ref t0,.none,.none,.none,.bool false,.none],#[]⟩) Z.FB Z.Y (F.kin.keeps R.bk) he rfl rfl rfl (show (1:Nat)<=sizeLine by decide) ?_;have gp:=Heap.get?_push_of_some (h:=s.heap) { cls:=.type "tuple",data:=.seq #[Value.str (Str.empty++tx++Str.ofString (toString i)) (tk+1+1)] } he;refine aR6 Z F (R.keep (s':={ s with heap:=(s.heap.push { cls:=.type "tuple",data:=.seq #[Value.str (Str.empty++tx++Str.ofString (toString i)) (tk+1+1)] }).update ea (Obj.mapFields (·.setIfInBounds 0 (.ref s.heap.objs.size))),toks:=tk+1+1+1 }) (fun b o e nf=>(Heap.get?_update_other _ _ (fun z=>nf (by subst z;exact fe))).trans (Heap.get?_push_of_some _ e)) R.bare rfl) ls la k1 k2 fe (tt:=s.heap.objs.size) ?_;exact Heap.get?_update_self _ gp (Obj.isFreed_of_fields (Obj.data_mapFields rfl _))
def aR7 {S:Sx} {n q:Str} {st:Stmt} {f C CJ ea t0:Addr} {fd:FuncData} {J:Str} {i:Int} {ti:Tok} {k:Nat} (F:Fun S.K n q st f fd) (B:InitB st J) (Z:InitC S C CJ J) (hi:-1<=i/\i<=100) (hr:Room S (k+1) A) (hk:Hk A M) (fo:FrO κ A) (md:Mod S) (hz:S.base.objs.size<=s.heap.objs.size)
  (R:Mem S κ M h s) (hbd:BindsTo s fd ⟨[.ref ea,.int i ti],[]⟩ [("self",.ref ea),("at",.int i ti)]) (fe:aU κ M ea) (he:s.heap.get? ea=some ⟨.ref C,none,.fields #[.ref t0,.none,.none,.none,.bool false,.none],#[]⟩) :
  codeAny (model S.P S.w) A (.call (.ref f) ⟨[.ref ea,.int i ti],[]⟩) (fun r s'=>r=.ok (.ret .none)/\∃ D oD tt,aU κ M D/\Mem S κ (M.add D oD) h s'/\aU κ (M.add D oD) ea/\s'.heap.get? ea=some ⟨.ref C,some D,.fields #[.ref tt,.none,.none,.none,.bool false,.none],#[]⟩/\AtO D oD i) s:=by
 obtain ⟨oc,od,kV,doc,pm,an,cdv,ct,osl,rfl,lk,hcd⟩:=F.ex;have FS:=aM0 B.fn;have KX:S.K.In s.heap:=md.kin.keeps R.bk;have lim:s.heap.NoLimit:=md.nolimit.keeps R.bk;have ez:(parsOf st).zip [Value.ref ea,.int i ti]=[(("self":Str),Value.ref ea),("at",.int i ti)]:=by rw [B.ps];rfl
 have hkind:∀ y∈(parsOf st).zip [Value.ref ea,.int i ti],(defScope st).names.lookup y.1=some .local\/((defScope st).names.lookup y.1=some .cell/\((cellsFrom (s.heap.objs.size+1) (defScope st).names []).lookup y.1).isSome=true):=fun ⟨n,v⟩ hy=>by
  rcases FS.par n (zip_fst hy) with q | q
  ·exact .inl q
  ·exact .inr ⟨q,PySem.W.cellsFrom_some _ _ _ (.inl q)⟩
 have hdep:A.depth < recursionLimit:=by have:=hr.dp;omega
 refine codeAny_call_function hdep (KX _ _ lk) rfl FS.co FS.gen rfl (PySem.W.codeRec_of KX hcd) (hbd _ _ _ _ ?_);rw [<- ez];refine wpAny_newFunctionEnv_cells FS.kind hkind fun env he' s1 ic=>?_;subst he';refine ⟨lim.keeps ic.toInCall.keep,codeAny_func ?_⟩;have he1:s1.heap.get? ea=_:=ic.toInCall.keep _ _ he;obtain ⟨κ1,R1,F1,back,same,o,m,lo,lm,ll⟩:=oK (A:=A) (ws:=[none,some (.d (.int i))]) FS md hz (by rw [B.ps];rfl) hk fo R (fun j w e=>by
  rcases j with _ | _ | j
  ·cases e
  ·cases e;exact ⟨_,rfl,wi.mpr ⟨_,rfl⟩⟩
  ·simp at e) ic
 have fe1:aU κ1 M ea:=⟨fe.1,by rw [same _ (Heap.lt_size he)];exact fe.2.1,fe.2.2⟩;obtain ⟨tx,kd,p1,p2,p3,p4,p5,p6,p7,p8,p9,pa,ap,cp,ep,hbody,htx,hev⟩:=B.bd;have main:=aE8 (X:=cxF S st q s.heap.objs.size f cdv A) (p7:=p7) (p8:=p8) (p9:=p9) (pa:=pa) (ep:=ep) Z hi hev htx F1 R1 ⟨o,m,lo,lm,ll 0 _ _ (by rw [B.ps];rfl) rfl B.l1⟩ ⟨o,m,lo,lm,ll 1 _ _ (by rw [B.ps];rfl) rfl B.l2⟩ B.l1 B.l2 B.lJ B.nJ fe1 he1;rw [<- hbody] at main;refine wpAny_mono main (fun fl s2 ⟨hfl,D,oD,tt,fD,R2,fe2,g,at2⟩=>?_) fun _ _ z=>z.elim;subst hfl;have lt:=back κ1 .refl;have fr:∀ {M':Mp} {a:Addr},aU κ1 M' a->aU κ M' a:=fun {M' a} fa=>by
  refine ⟨fa.1,?_,fa.2.2⟩;cases q:κ a with
  | none=>rfl
  | some y=>have:=lt _ _ q;rw [fa.2.1] at this;cases this
 exact ⟨rfl,D,oD,tt,fr fD,R2.less lt,fr fe2,g,at2⟩
end
end DL

namespace DL
open PySem PySem.Spec PyProof.Rows L2 CI
structure OwnI (x:Str) (C fI:Addr) (mg:Str->Option Value) (h:Heap):Prop where
 bound:mg x=some (.ref C)
 obj:∃ bm N nm q bs hdct sn sub ab col dd k0 k1 k2 k3 k5 mN oI,h.get? C=some (excClassObj nm q C N bs bm hdct sn sub ab col dd k0 k1 k2 k3 k5 "ValueError.__new__")/\h.Ns N mN/\mN "__init__"=some (.ref fI)/\h.get? fI=some oI/\oI.cls=.type "function"/\OwnTail h sZ bm
section
variable {prog:Program} {w:World} {A:Around} {E:Value->Shared->Prop} {env:Env}
variable {nm q:Str} {C N:Addr} {bs bm:List Value} {hdct:Bool} {sn:List Str} {sub:List Value} {ab:Bool} {col:Option Bool} {dd:Option Addr} {k0 k1 k2 k3 k5:Option Value} {newId:String}
def qZ {s:Shared} {x:Sem Value} {Q:Flow->Shared->Prop} (hbase:bm.contains (.type "BaseException")=true)
  (h:wpAny (model prog w) A x (fun v s₁=>∃ e t D,v=.ref e/\HkA A s₁.heap/\(∀ b,A.handled=some (.ref b)->b≠e)/\s₁.heap.get? C=some (excClassObj nm q C N bs bm hdct sn sub ab col dd k0 k1 k2 k3 k5 newId) /\
   s₁.heap.get? e=some ⟨.ref C,some D,.fields #[.ref t,.none,.none,.none,.bool false,.none],#[]⟩ /\
   ∀ h' x,(∀ b u,b≠e->s₁.heap.get? b=some u->h'.get? b=some u)->(A.handled=none->x=.none)->h'.get? e=some ⟨.ref C,some D,.fields #[.ref t,.none,x,.none,.bool false,.none],#[]⟩->E (.ref e) { s₁ with heap:=h' }) E s):wpAny (model prog w) A (raiseStmt env (some x) none) Q E s:=by
 have hcB:(Value.ref C::bm).contains (.type "BaseException")=true:=by rw [List.contains_cons,hbase,Bool.or_true]
 unfold raiseStmt;refine wpAny_bind (wpAny_mono h (fun v s₁ h₁=>?_) fun _ _ x=>x);obtain ⟨e,t,D,rfl,H,nb,hC,he,hE⟩:=h₁;obtain ⟨hp,g,d,tk,os⟩:=s₁
 repeat (first | with_reducible refine wpAny_loadPart_at he ?_ | with_reducible refine wpAny_loadPart_at hC ?_ | (with_reducible refine wpAny_isSubtype_exc hC ?_;rw [hcB]) | wp_step)
 refine tL H (fun b o hb e1=>⟨nb b hb,e1⟩) he rfl (by simp) fun h' kk vs' hv ob eo ho=>?_;subst eo;rcases hv with rfl | ⟨b,hb,rfl⟩
 ·exact hE h' .none kk (fun _=>rfl) ho
 ·exact hE h' (.ref b) kk (fun z=>by rw [hb] at z;cases z) ho
end
section
variable {X:Cx} {κ:Kp} {M:Mp} {h h':aA} {s:Shared} {δ:DSt} {x J n q:Str} {np pos epos:Pos} {e:Expr} {fa:XR (List W)} {C CJ fI:Addr} {fd:FuncData} {st:Stmt} {i:Int} {k:Nat} {Q:Flow->Shared->Prop}
def rA {l:List Env} (O:OwnI x C fI X.S.mg X.S.base) (Z:InitC X.S C CJ J) (F0:Fun X.S.K n q st fI fd) (B:InitB st J) (hb:eO X.S.K fd ["self","at"]) (rm:Room X.S (k+2) X.A) (ha:SA X [e] fa) (hn:aY x=true) (hg:Gl X x) (hA:X.A.frames=some (X.env::l)) (hst:aI e=true)
  (R:Mem X.S κ M h s) (F:Fra X κ M δ) (e1:fa δ h=some ([.d (.int i)],h')) (hi:-1<=i/\i<=100):Wp X.S X.A (exec (.Raise (some (.Call (.Name x np) [e] [] pos)) none epos) X.env) Q (Rz X κ M h' C (some i)) s:=by
 obtain ⟨tl,N,nm,qn,bs,hdct,sn,sub,ab,col,dd,k0,k1,k2,k3,k5,mN,oI,hC,hN,hin,hfI,hfc,T⟩:=O.obj;have hes:=bS (X:=X) e hst (es:=[]);have hall:(backTo pos (starEach [e] X.env)).any (·.1)=false:=by rw [hes];rfl
 have FL:FrL κ (X.env::l):=F.frl hA;have main:Wp X.S X.A (eval (.Call (.Name x np) [e] [] pos) X.env) (fun v s₁=>∃ e t D,v=.ref e/\HkA X.A s₁.heap/\(∀ b,X.A.handled=some (.ref b)->b≠e)/\s₁.heap.get? C=some (excClassObj nm qn C N bs tl hdct sn sub ab col dd k0 k1 k2 k3 k5 "ValueError.__new__") /\
   s₁.heap.get? e=some ⟨.ref C,some D,.fields #[.ref t,.none,.none,.none,.bool false,.none],#[]⟩ /\
   ∀ h2 x,(∀ b u,b≠e->s₁.heap.get? b=some u->h2.get? b=some u)->(X.A.handled=none->x=.none)->h2.get? e=some ⟨.ref C,some D,.fields #[.ref t,.none,x,.none,.bool false,.none],#[]⟩->Rz X κ M h' C (some i) (.ref e) { s₁ with heap:=h2 }) (Rz X κ M h' C (some i)) s:=by
  refine wpAny_Call_ofName (fU F R hg O.bound hn ?_);unfold callWith;have hq:=ha pos R F e1;rw [hes] at hq ⊢;refine wpAny_bind (wpAny_holding (Calls.evalArgs_plain (wpAny_mono hq (fun us s2 ⟨M2,l2,R2,r⟩=>wpAny_bind (wpAny_standAt ?_)) fun _ _ z=>z.elim)));obtain ⟨u,rfl,ru⟩:=w1 r;obtain ⟨ti,rfl⟩:=wi.mp ru;have hC2:=R2.bk _ _ hC;rw [hes] at hall;have bk2:=R2.bk;have sz2:=(F.go l2).size R2;have hk2:=F.hk.go l2;obtain ⟨hp,g,d,tk,os⟩:=s2;simp only [hall];refine wpAny_bind (wpAny_keeperOf_exc hC2 ?_);refine wpAny_bind (xL Z.FB (T.keeps bk2) hC2 (hN.keeps bk2) hin (bk2 _ _ hfI) hfc (fun h3 ea hm hle=>?_) (show (1:Nat)<=sizeLine by decide));obtain ⟨t0,g1,_⟩:=hm.there;have R3:Mem X.S κ M2 h' ⟨h3,g,d,tk,os⟩:=R2.kept (t:=tk) hm.keeps;have fe:aU κ M2 ea:=R2.new hm.new;have sz3:X.S.base.objs.size<=h3.objs.size:=Nat.le_of_lt (Nat.lt_of_le_of_lt (Nat.le_trans sz2 hle) (Heap.lt_size g1));refine wpAny_call (codeAny_mono (aR7 F0 B Z hi (rm.make C [.int i ti] []) (hk2.eq (by first | rfl | simp [Around.under])) (F.frs.make C [.int i ti] []) F.ok.mod sz3 R3 (hb ⟨h3,g,d,tk,os⟩ [.ref ea,.int i ti] (F.kin.keeps R3.bk) rfl) fe g1) fun r s' ⟨hr,D,oD,tt,fD,R4,fe4,g4,at4⟩=>?_);subst hr;refine ⟨rfl,wpAny_bind (wpAny_holding (wpAny_point (wpAny_pure ?_)))⟩;have l3:Le M2 (M2.add D oD):=.add fD.1;refine ⟨ea,tt,D,rfl,(hk2.go l3).at R4,fun b hb' z=>?_,R4.bk _ _ hC,g4,fun h2 x kk hx hg2=>?_⟩
  ·rcases hk2.go l3 with q | ⟨b',ob,ws,q1,q2,_⟩
   ·rw [q] at hb';cases hb'
   ·rw [hb'] at q1;cases q1;rw [z,fe4.1] at q2;cases q2
  ·have R5:Mem X.S κ (M2.add D oD) h' { s' with heap:=h2 }:=R4.keep (fun b o e nf=>kk b o (fun z=>nf (by subst z;exact fe4)) e) R4.bare rfl;exact ⟨κ,M2.add D oD,l,ea,rfl,.refl,l2.trans l3,hA,FL,.inl ⟨R5,fe4,⟨_,_,tt,hg2,rfl,rfl,rfl,rfl⟩,some D,x,⟨_,hg2,rfl,rfl,_,rfl,rfl⟩,fun h0=>hx (rm.hd h0),fun j ej=>by cases ej;exact ⟨D,oD,rfl,gY,at4⟩⟩⟩
 rw [arm_exec_Raise]
 first
  | exact wpAny_bind (wpAny_standAt (qZ (T.hasType Z.FB.hasBase) (wpAny_bind (wpAny_mono main (fun v s₃ h₃=>wpAny_bind (wpAny_standAt (wpAny_pure h₃))) fun _ _ x=>x))))
  | (simp only [evalOpt,Option.map];exact wpAny_bind (wpAny_standAt (qZ (T.hasType Z.FB.hasBase) (wpAny_bind (wpAny_mono main (fun v s₃ h₃=>wpAny_bind (wpAny_standAt (wpAny_pure h₃))) fun _ _ x=>x)))))
end
end DL

namespace DL
open PySem PySem.Spec PyProof.Rows L2 CI
def Fly.less {S:Sx} {κ κ':Kp} {M:Mp} {h:aA} {l:List Env} {C ea:Addr} {n:Option Int} {s:Shared} (X:Fly S κ' M h l C ea n s) (k:∀ a x,κ a=some x->κ' a=some x):Fly S κ M h l C ea n s :=
 ⟨X.mem.less k,let ⟨B,t,f,p⟩:=X.fl;⟨B,t,f,fun b o q nb nf=>p b o q nb fun z=>nf (by
  refine ⟨z.1,?_,z.2.2⟩;cases e:κ b with
  | none=>rfl
  | some x=>have:=k b x e;rw [z.2.1] at this;cases this)⟩,X.er⟩
section
variable {X:Cx} {κ:Kp} {M:Mp} {h h' h1:aA} {s:Shared} {δ:DSt} {C:Addr} {n:Option Int} {tg iter:Expr} {body:List Stmt} {f:XR (List PyData×Cw)} {g:XG} {tb:XS} {pos:Pos} {E:Value->Shared->Prop} {Q:Flow->Shared->Prop}
def Rz.unpin {fp:List Addr} {hp:Heap} {ex:Value} (F:Fra X κ M δ) (hf:∀ b∈fp,aU κ M b) {M1:Mp} (z:Rz X (eW κ fp hp) M1 h C n ex s):Rz X κ M1 h C n ex s:=by
 obtain ⟨κ',M',l,ea,he,own,lm,hA,FL,q⟩:=z;have kk:∀ a x,unK fp κ' a=some x->κ' a=some x:=fun a x e=>by
  unfold unK at e;split at e
  ·cases e
  ·exact e
 have mine:∀ {env:Env} {L:Addr},env∈X.env::l->env.frame=some L->L∉fp:=fun he hf' hm=>F.mine (.inr (.inr ⟨_,_,hA,he,hf'⟩)) (hf _ hm).2.1;refine ⟨unK fp κ',M',l,ea,he,fun a ha=>?_,lm,hA,fun env henv=>?_,q.imp (fun ⟨a,b,c⟩=>⟨a.less kk,⟨b.1,?_,b.2.2⟩,c⟩) fun z=>z.less kk⟩
 ·have nm:a∉fp:=fun hm=>ha (by unfold unK;rw [if_pos hm,(hf a hm).2.1]);refine own a fun e=>ha ?_;unfold unK;rw [if_neg nm,e];unfold eW;rw [if_neg nm]
 ·obtain ⟨h1,L,o,h2,h3,h4⟩:=FL env henv;exact ⟨h1,L,o,h2,by unfold unK;rw [if_neg (mine henv h2)];exact h3,h4⟩
 ·unfold unK;split
  ·rfl
  ·exact b.2.1
def Rz.own {κ1:Kp} {ex:Value} (o:Own X κ κ1) (z:Rz X κ1 M h C n ex s):Rz X κ M h C n ex s :=
 let ⟨κ',M',l,ea,h1,h2,h3,h4⟩:=z;⟨κ',M',l,ea,h1,o.trans h2,h3,h4⟩
def bB4 (g:XG) (tb:XS) (c:Cw) (all:List PyData) (P:DSt->Prop) (h:aA):List PyData->DSt->Prop
 | [],_=>False
 | x::r,δ=>condB c all h=true/\∃ δ1,g (.d x) δ h=some (δ1,h)/\(P δ1\/∃ δ2,tb δ1 h=some (.nx δ2,h)/\bB4 g tb c all P h r δ2)
def aR8 {all:List PyData} {c:Cw} {P:DSt->Prop} (hd:X.S.hm=false->X.A.handled=none) (hp:PassesOwn (model X.S.P X.S.w) X.A X.env E) (hi:SI X tg iter f) (hg:SG X tg g) (hb:SSs X body tb) (hs:∀ x,foldedSetIterable iter X.env x=pure x)
  (R:Mem X.S κ M h s) (F:Fra X κ M δ) (e1:f δ h=some ((all,c),h1)) (er:bB4 g tb c all P h1 all δ) (hE:∀ ex s',Rz X κ M h1 C n ex s'->E ex s')
  (hr:∀ {κ1 M1 s1 δ1},Mem X.S κ1 M1 h1 s1->Fra X κ1 M1 δ1->P δ1->Wp X.S X.A (execs body X.env) (fun _ _=>False) (Rz X κ1 M1 h1 C n) s1):Wp X.S X.A (exec (.For tg iter body [] pos) X.env) Q E s:=by
 refine wpAny_For (wpAny_mono (hi R F e1) (fun v s1 q1=>wpAny_mono q1 (fun itv s2 q2=>?_) fun _ _ z=>z.elim) fun _ _ z=>z.elim) hs;obtain ⟨M2,it,fp,tn,l2,R2,rfl,T,t2,f2,_⟩:=q2;dsimp only at T;obtain ⟨I,hI⟩:∃ I:Nat->Shared->Prop,I=fun m s'=>∃ i κ' M' δ',m=all.length - i/\i<=all.length/\Own X κ κ'/\Le M2 M'/\Mem X.S κ' M' h1 s'/\Fra X κ' M' δ'/\tn i s'.heap/\(∀ b∈fp,aU κ' M' b)/\bB4 g tb c all P h1 (all.drop i) δ':=⟨_,rfl⟩;refine codeAny_forLoop_any I ?_ all.length (by rw [hI];exact ⟨0,κ,M2,δ,rfl,Nat.zero_le _,.refl,.refl,R2,F.go l2,t2,f2,er⟩);intro m s3 hn;rw [hI] at hn;obtain ⟨i,κ3,M3,δ3,rfl,hle,o3,l3,R3,F3,t3,f3,e3⟩:=hn;have nE:∀ {α:Type} {t:Sem α} {Q':α->Shared->Prop} {s':Shared},Wp X.S X.A t Q' NE s'->Wp X.S X.A t Q' (notedBy (model X.S.P X.S.w) X.A X.env (cameBackBy (model X.S.P X.S.w) X.A X.env E)) s':=fun q=>wpAny_mono q (fun _ _ z=>z) fun _ _ z=>z.elim;cases q:all[i]? with
 | none =>
  have hl:all.length<=i:=List.getElem?_eq_none_iff.mp q;rw [List.drop_of_length_le hl] at e3;exact e3.elim
 | some x =>
  have hlt:i < all.length:=(List.getElem?_eq_some_iff.mp q).1;rw [rO q] at e3;obtain ⟨co,δ4,e4,e5⟩:=e3;refine nE (thn (T.item hd F3.hk R3 l3 f3 t3 q co) fun r s4 ⟨u,hr',q4⟩=>?_);subst hr';refine nE (thn q4 fun _ s5 ⟨M5,l5,R5,r5,t5,fr5⟩=>?_);have F5:=F3.go l5;refine nE (thn (hg (R5.pin fr5) (F5.pin fr5) (show RepW X.S M5 (.d x) u from r5) e4) fun _ s6 ⟨κ6,M6,o6,l6,R6,F6⟩=>?_);rcases e5 with hP | ⟨δ5,e5,e6⟩
  ·refine wpAny_passesOwn hp (wpAny_mono (hr R6 F6 hP) (fun _ _ z=>z.elim) fun ex s7 z=>hE ex s7 ?_);exact (((z.own o6).unpin F5 fr5).own o3).go (l2.trans (l3.trans (l5.trans l6)))
  ·refine nE (thn (hb R6 F6 e5) fun f s7 ⟨κ7,M7,o7,l7,R7,q7⟩=>?_);obtain ⟨u1,u2,u3,u4,u5⟩:=unpin F5 fr5 (T.obj _ _ t5) (o6.trans o7) R7;have l37:=l5.trans (l6.trans l7);cases f<;>first | exact q7.elim | exact ⟨all.length - (i+1),by omega,by rw [hI];exact ⟨i+1,_,M7,_,rfl,hlt,o3.trans u1,l3.trans l37,u2,u5 _ q7,T.keep _ _ _ t5 u4,u3,e6⟩⟩
end
end DL

namespace DL
open PySem PySem.Spec PyProof.Rows L2 CI
abbrev Sh (S:Sx) (b:Bool):Sx:={ S with hm:=b }
section
variable {S:Sx} {b:Bool} {Z:Zm}
mutual
theorem Rep.sh:∀ {d:PyData} {v:Value},Rep S Z d v->Rep (Sh S b) Z d v
 | .none,_,h=>by rw [Rep] at h ⊢;exact h
 | .bool _,_,h=>by rw [Rep] at h ⊢;exact h
 | .int _,_,h=>by rw [Rep] at h ⊢;exact h
 | .str _,_,h=>by rw [Rep] at h ⊢;exact h
 | .list xs,_,h=>by rw [Rep] at h ⊢;obtain ⟨a,o,us,e,z,q,r⟩:=h;exact ⟨a,o,us,e,z,q,Reps.sh r⟩
 | .tuple xs,_,h=>by rw [Rep] at h ⊢;obtain ⟨a,o,us,e,z,q,r⟩:=h;exact ⟨a,o,us,e,z,q,Reps.sh r⟩
 | .dict xs,_,h=>by rw [Rep] at h ⊢;exact h.elim .inl fun ⟨a,o,us,e,z,q,r⟩=>.inr ⟨a,o,us,e,z,q,RepKs.sh r⟩
theorem Reps.sh:∀ {ds:List PyData} {vs:List Value},Reps S Z ds vs->Reps (Sh S b) Z ds vs
 | [],_,h=>by rw [Reps] at h ⊢;exact h
 | x::xs,_,h=>by rw [Reps] at h ⊢;obtain ⟨v,r,e,h1,h2⟩:=h;exact ⟨v,r,e,Rep.sh h1,Reps.sh h2⟩
theorem RepKs.sh:∀ {ds:List (PyData×PyData)} {vs:List (Key×Value)},RepKs S Z ds vs->RepKs (Sh S b) Z ds vs
 | [],_,h=>by rw [RepKs] at h ⊢;exact h
 | x::xs,_,h=>by rw [RepKs] at h ⊢;obtain ⟨v,r,e,h1,h2⟩:=h;exact ⟨v,r,e,RepP.sh h1,RepKs.sh h2⟩
theorem RepP.sh:∀ {p:PyData×PyData} {q:Key×Value},RepP S Z p q->RepP (Sh S b) Z p q
 | (k,x),q,h=>by rw [RepP] at h ⊢;exact ⟨h.1,Rep.sh h.2⟩
end
variable {M:Mp} {κ:Kp} {h:aA} {s:Shared} {w:W} {u:Value}
def RepW.sh (r:RepW S M w u):RepW (Sh S b) M w u:=by
 cases w with
 | d x=>exact Rep.sh r
 | c i=>exact r
def CellOk.sh {hp:Heap} {p:Addr×Addr} {c:Cell} (x:CellOk S M hp p c):CellOk (Sh S b) M hp p c:=by
 cases c with
 | l xs=>obtain ⟨us,n,e,z,r⟩:=x;exact ⟨us,n,e,z,nG (fun _ _ q=>Rep.sh q) r⟩
 | r xs=>obtain ⟨us,n,e,z,r⟩:=x;exact ⟨us,n,e,z,nG (fun _ _ q=>RepW.sh q) r⟩
 | t qs=>exact x
 | n xs=>exact x.elim
 | k xs=>obtain ⟨vs,q,r,z⟩:=x;exact ⟨vs,q,nG (fun _ _ q=>⟨q.1,Rep.sh q.2⟩) r,z⟩
 | o C fs=>obtain ⟨a,b',e,mA,n,r,z⟩:=x;exact ⟨a,b',e,mA,n,fun f=>by
   have:=r f
   revert this
   cases fs.lookup f<;>cases mA f<;>first | exact id | exact RepW.sh,z⟩
def Mem.sh (R:Mem S κ M h s):Mem (Sh S b) κ M h s:=⟨R.z,R.k,R.len,R.ap,R.off,fun i p c e1 e2=>(R.cel i p c e1 e2).sh,R.base,R.bare,R.os⟩
abbrev Cx.sh (X:Cx) (b:Bool) (A:Around):Cx:=⟨Sh X.S b,A,X.N,X.env,X.fn⟩
def Fra.sh {X:Cx} {A:Around} {δ:DSt} (F:Fra X κ M δ) (hk:Hk A M) (hf:A.frames=X.A.frames):Fra (X.sh b A) κ M δ :=
 ⟨⟨⟨F.ok.mod.kin,F.ok.mod.glob,F.ok.mod.blt,F.ok.mod.nolimit⟩,F.ok.kind,F.ok.glob,F.ok.blt,F.ok.inj,F.ok.has,F.ok.bsz,F.ok.nd⟩,hk,F.len,let ⟨o,m,h1,h2,h3⟩:=F.loc;⟨o,m,h1,h2,fun i x w e1 e2 e3=>let ⟨u,r,l⟩:=h3 i x w e1 e2 e3;⟨u,r.sh,l⟩⟩,F.cell,let ⟨l,e,q⟩:=F.frs;⟨l,hf.trans e,q⟩⟩
def TabK.sh {p:Addr} {f:Str->Option PyData} (T:TabK S p f):TabK (Sh S b) p f :=
 ⟨let ⟨es,n,a,c,e,g⟩:=T.lk;⟨es,n,a,c,fun x i q=>let ⟨u,q1,q2⟩:=e x i q;⟨u,q1,q2.sh⟩,g⟩,T.sm⟩
def TopOk.sh {t:Top} (T:TopOk t S):TopOk { t with hm:=b } (Sh S b) :=
 ⟨T.bl,fun x z e=>let ⟨u,a,r⟩:=T.gc x z e;⟨u,a,r.sh⟩,fun x f e=>let ⟨p,a,r⟩:=T.tk x f e;⟨p,a,r.sh⟩,T.defs,T.ini,T.mt,T.fo,rfl,fun x q e=>let ⟨a,c,g⟩:=T.qn x q e;⟨a,c,fun s f fd F m=>let ⟨p,c0,q1,q2⟩:=g s f fd F m;⟨p,c0,q1,⟨q2.hd,q2.tr,q2.no,q2.bm⟩⟩⟩⟩
end
end DL

namespace DL
open PySem PySem.Spec PyProof.Rows L2 CI
section
variable {X:Cx} {κ:Kp} {M:Mp} {h h':aA} {s:Shared} {δ:DSt} {x n:Str} {C ea:Addr} {A:Around} {E:Value->Shared->Prop} {i:Nat} {u:Value} {o o':Obj} {m:Str->Option Value}
def Fra.at1 {z:Option W} {v:Option Value} (F:Fra X κ M δ) (hi:X.N[i]?=some x) (hk:X.env.scope.names.lookup x=some .local) (h1:κ X.env.locals=some (false,o)) (d:jG o m) (d':jG o' fun y=>if y=x then v else m y) (r:∀ w,z=some w->∃ u,v=some u/\RepW X.S M w u):Fra X (κ.up X.env.locals (false,o')) M (δ.set i z):=by
 have hiδ:i < δ.length:=by rw [F.len];exact (List.getElem?_eq_some_iff.mp hi).1
 obtain ⟨o1,m1,k1,k2,k3⟩:=F.loc;rw [h1] at k1;cases k1;have em:m1=m:=by
  obtain ⟨es,ep,e1,_,e3⟩:=k2;obtain ⟨es',ep',e1',_,e3'⟩:=d;rw [e1] at e1';cases e1';exact funext fun y=>(e3 y).symm.trans (e3' y)
 subst em;refine ⟨F.ok,F.hk,by rw [List.length_set];exact F.len,⟨o',_,dY,d',fun j y w' e1 e2 e3=>?_⟩,fun y c ec=>?_,F.frs.up fun vs z=>by obtain ⟨_,_,z',_⟩:=d';rw [z'] at z;cases z⟩
 ·by_cases hj:j=i
  ·subst hj;rw [hi] at e1;cases e1;rw [List.getElem?_set_self hiδ] at e2;obtain ⟨u,ev,ru⟩:=r w' (Option.some.inj e2);exact ⟨u,ru,.inl ⟨hk,by simp [ev]⟩⟩
  ·rw [List.getElem?_set_ne (Ne.symm hj)] at e2;obtain ⟨u',r',l⟩:=k3 j y w' e1 e2 e3;refine ⟨u',r',?_⟩;rcases l with ⟨k,e⟩ | ⟨k,c,oc,ec,eo,ed⟩
   ·have:y≠x:=fun e=>hj (nV F.ok.nd e1 (e ▸ hi));exact .inl ⟨k,by simp [this,e]⟩
   ·exact .inr ⟨k,c,oc,ec,by rw [bN fun z=>by rw [z,h1] at eo;cases eo];exact eo,ed⟩
 ·obtain ⟨oc,v,h6,h7⟩:=F.cell y c ec;exact ⟨oc,v,by rw [bN fun z=>by rw [z,h1] at h6;cases h6];exact h6,h7⟩
def xN {o':Obj}:Own X κ (κ.up X.env.locals (false,o')):=fun a ha=>by
 by_cases z:a=X.env.locals
 ·exact .inl z
 ·exact (ha (bN z)).elim
def aR9 {Md:Model} {Q:Unit->Shared->Prop} (F:Fra X κ M δ) (R:Mem X.S κ M h s) (hk:X.env.scope.names.lookup x=some .local)
  (q:∀ s' o m o',κ X.env.locals=some (false,o)->jG o m->jG o' (fun y=>if y=x then some u else m y)->Mem X.S (κ.up X.env.locals (false,o')) M h s'->Heap.SameBut X.env.locals s.heap s'.heap->Q () s'):wpAny Md A (storeName X.env x u) Q E s:=by
 have hcls:(X.env.scope.kind==.class||(X.env.scope.kind==.module&&X.env.locals != X.env.globals))=false:=by rw [F.ok.kind];rfl
 obtain ⟨o,m,h1,⟨es,ep,h2,h3,h4⟩,h5⟩:=F.loc;obtain ⟨_,⟨sl,e⟩,_⟩:=R.k _ _ _ h1;have hn:s.heap.Ns X.env.locals m:=⟨_,es,ep,e,h2,h3,h4⟩;refine wpAny_storeName_local hk hn (fun h' hn' hs=>?_) hcls;obtain ⟨o',es',ep',ho',hd',hk',hm'⟩:=hn';exact q _ o m o' h1 ⟨es,ep,h2,h3,h4⟩ ⟨es',ep',hd',hk',hm'⟩ (R.own h1 (fun b ob hb q=>(hs.2 b hb).trans q) ho' R.bare rfl) hs
def cB7 {Md:Model} {pos:Pos} {Q:Unit->Shared->Prop} (F:Fra X κ M δ) (R:Mem X.S κ M h s) (hi:X.N[i]?=some x) (hk:X.env.scope.names.lookup x=some .local)
  (q:∀ s' κ',Own X κ κ'->Mem X.S κ' M h s'->Fra X κ' M (δ.set i none)->Q () s'):wpAny Md A (do bindName X.env x .none;unbindBehindTheSuite X.env x pos) Q E s:=by
 have hcls:(X.env.scope.kind==.class||(X.env.scope.kind==.module&&X.env.locals != X.env.globals))=false:=by rw [F.ok.kind];rfl
 obtain ⟨o,m,h1,⟨es,ep,h2,h3,h4⟩,h5⟩:=F.loc;obtain ⟨_,⟨sl,e⟩,_⟩:=R.k _ _ _ h1;have hn:s.heap.Ns X.env.locals m:=⟨_,es,ep,e,h2,h3,h4⟩;refine wpAny_nameGoes_keeps (m:=m) hk hn hcls fun h' v hn' hs=>?_;obtain ⟨o',es',ep',ho',hd',hk',hm'⟩:=hn';exact q _ _ xN (R.own h1 (fun b ob hb q=>(hs.2 b hb).trans q) ho' R.bare rfl) (F.at1 hi hk h1 ⟨es,ep,h2,h3,h4⟩ ⟨es',ep',hd',hk',hm'⟩ fun w z=>nomatch z)
def vP {A:Around} {u:Value} {p:Pos} {Qv:Value->Shared->Prop} (F:Fra X κ M δ) (R:Mem X.S κ M h s) (hg:Gl X x) (hm:X.S.mg x=some u) (hn:aY x=true) (q:Qv u s):Wp X.S A (eval (.Name x p) X.env) Qv E s:=by
 unfold aY at hn;simp only [Bool.and_eq_true,Bool.not_eq_true'] at hn;exact Calls.Name_function_global F.ok.kind hg (Calls.loadGlobal_global (by rw [F.ok.glob];exact F.ok.mod.glob.keeps R.bk) hm q) hn.1
structure Cau (X:Cx) (κ:Kp) (M:Mp) (h:aA) (δ:DSt) (C:Addr) (nA:Option Int) (ea:Addr) (s:Shared):Prop where
 R:Mem X.S κ M h s
 F:Fra X κ M δ
 fl:∃ l B t,X.A.frames=some (X.env::l)/\Heap.FlyingW B (X.env::l) ea (.ref C) (.ref t) s.heap/\∀ b o,s.heap.get? b=some o->b∉frs (X.env::l)->¬ aU κ M b->B.get? b=some o
 er:Er1 X.S.hm M C ea nA s.heap
variable {nA:Option Int} {J:Str} {jp hpos tpos:Pos} {CJ L:Addr} {b0:Stmt} {su body:List Stmt} {rest:List ExceptHandler} {Q:Flow->Shared->Prop} {h2:aA}
def aS0 {l:List Env} {B:Heap} (R:Mem X.S κ M h s) (FL:FrL κ (X.env::l)) (pr:∀ b o,s.heap.get? b=some o->b∉frs (X.env::l)->¬ aU κ M b->B.get? b=some o) (h2:Heap) (hB:B.StaysIn h2) (up:s.heap.UpToSlots h2):Mem X.S κ M h { s with heap:=h2 }:=R.keepF (fs:=frs (X.env::l)) (fun a ha=>let ⟨o,h1,_⟩:=FL.at ha;⟨o,h1⟩) (fun b o q n nf=>hB b o (pr b o q n nf)) (fun a ha o q _=>by
  obtain ⟨o',k1,k2⟩:=FL.at ha;obtain ⟨_,⟨sl,k3⟩,_⟩:=R.k _ _ _ k1;rw [q] at k3;cases k3;exact up a _ q k2) R.bare rfl
def tA (F:Fra X κ M δ) (hb:Wp X.S X.A (execs body X.env) (fun _ _=>False) (Rt X κ M h' C nA) s) (hf:X.env.frame=some L) {h0:ExceptHandler}
  (k:∀ {M1 s1 ea},Le M M1->Cau X κ M1 h' δ C nA ea s1->Wp X.S X.A (handleBy (.ref ea) X.env (h0::rest)) Q NE s1):Wp X.S X.A (exec (.Try body (h0::rest) [] [] tpos) X.env) Q NE s:=by
 refine wpAny_Try_except (wpAny_mono hb (fun _ _ z=>z.elim) fun ex s' ⟨M',l,ea,hex,l1,hA,R,⟨B,t,fl,pr⟩,dd,x,x0,xh,xn⟩=>?_);subst hex;have FL:=F.frl hA;refine wpAny_mono (Kp.any ErP.freed (zQ (.ref ea) X.env) x0 (wpAny_looks_onW (env:=X.env) (outer:=l) (Q:=fun _ s4=>∃ h4,s4={ s' with heap:=h4 }/\Heap.HeldW B (X.env::l) ea (.ref C) (.ref t) L h4/\s'.heap.UpToSlots h4) hA hf fl fun h4 held4 up4=>⟨h4,rfl,held4,up4⟩)) (fun _ s4 z=>?_) fun _ _ z=>z;obtain ⟨⟨h4,rfl,held4,up4⟩,x4⟩:=z;refine wpAny_mono (Kp.any ErP.freed (lU (.ref ea) none) x4 (wpAny_landsW (Q:=fun _ s5=>∃ h5,s5={ s' with heap:=h5 }/\Heap.FlyingW B (X.env::l) ea (.ref C) (.ref t) h5/\h4.UpToSlots h5) held4 fun h5 fl5 up5=>⟨h5,rfl,fl5,up5⟩)) (fun _ s5 z=>?_) fun _ _ z=>z;obtain ⟨⟨h5,rfl,fl5,up5⟩,x5⟩:=z;have R5:=aS0 R FL pr h5 fl5.1 (up4.trans up5);refine k l1 ⟨R5,F.go l1,⟨l,B,t,hA,fl5,fun b o q nb nf=>?_⟩,dd,x,x5,xh,xn⟩;obtain ⟨u,hu⟩:=R.there nf;have z:=fl5.1 b u (pr b u hu nb nf);have q:h5.get? b=some o:=q;rw [q] at z;cases z;exact pr b _ hu nb nf
def vQ {R':Result->Shared->Prop} {ea:Addr} {b:Bool} {A:Around} (Y:Cau X κ M h δ C nA ea s) (hmJ:X.S.mg J=some (.ref CJ)) (hJ:PySem.W.exmOne X.S.K (.ref C) (.ref CJ)=some b) (hnJ:aY J=true) (hgJ:Gl X J) (q:R' (.ok (if b=true then .brk else .next)) s) :
  codeAny (model X.S.P X.S.w) A (.handlers (.ref ea) [.ExceptHandler (some (.Name J jp)) none [] hpos] X.env) R' s:=by
 obtain ⟨l,B,t,hA,fl5,pr⟩:=Y.fl;obtain ⟨oe5,ws5,he5,hc5,hd5,_⟩:=fl5.first
 refine codeAny_handlers_test (vP Y.F Y.R hgJ hmJ hnJ ?_);have LT:PySem.W.Looks (model X.S.P X.S.w) s.heap (typeOf (.ref ea)) (.ref C):=hc5 ▸ (PySem.W.Looks.ld he5).andThen .now;exact (PySem.W.exm_one (K:=X.S.K) (Y.F.kin.keeps Y.R.bk) LT hJ).here q
def aS1 {ea:Addr} {n':Option Str} {su':List Stmt} (Y:Cau X κ M h δ C nA ea s) (hmJ:X.S.mg J=some (.ref CJ)) (hJ:PySem.W.exmOne X.S.K (.ref C) (.ref CJ)=some false) (hnJ:aY J=true) (hgJ:Gl X J) (k:Wp X.S X.A (handleBy (.ref ea) X.env rest) Q NE s) :
  Wp X.S X.A (handleBy (.ref ea) X.env (.ExceptHandler (some (.Name J jp)) n' su' hpos::rest)) Q NE s :=
 wpAny_handleBy_cons (vQ Y hmJ hJ hnJ hgJ k) (by intro q;cases q)
def tC {ea:Addr} (Y:Cau X κ M h δ C nA ea s) (hmJ:X.S.mg J=some (.ref CJ)) (hJ:PySem.W.exmOne X.S.K (.ref C) (.ref CJ)=some true) (hnJ:aY J=true) (hgJ:Gl X J) (hi:X.N[i]?=some n) (hk:X.env.scope.names.lookup n=some .local)
  (hsu:∀ {κ1 M1 s1 oe x},Own X κ κ1->Le M M1->Mem X.S κ1 M1 h s1->Fra X κ1 M1 (δ.set i none)->(∃ o m,κ1 X.env.locals=some (false,o)/\jG o m/\m n=some (.ref ea))->M1.Z ea=some oe->oe.cls=.ref C->(X.S.hm=false->Hk (X.A.mark (some (.ref ea))) M1)->oe.data=.fields x->(∀ j,nA=some j->∃ D oD,oe.dict=some D/\M1.Z D=some oD/\AtO D oD j) ->
   Wp X.S (X.A.mark (some (.ref ea))) (execs (b0::su) X.env) (fun fl s2=>∃ κ2 M2 δ2,Own X κ κ2/\Le M M2/\Mem X.S κ2 M2 h2 s2/\Fra X κ2 M2 δ2/\∀ {κ3 s3},Own X κ κ3->Mem X.S κ3 M2 h2 s3->Fra X κ3 M2 (δ2.set i none)->Q fl s3) NE s1) :
  Wp X.S X.A (handleBy (.ref ea) X.env (.ExceptHandler (some (.Name J jp)) (some n) (b0::su) hpos::rest)) Q NE s:=by
 refine wpAny_handleBy_cons (vQ Y hmJ hJ hnJ hgJ ?_) (by intro q;cases q);obtain ⟨R,F,⟨l,B,t,hA,fl,pr⟩,dd,x,x0,xh,xn⟩:=Y;have FL:=F.frl hA;refine codeAny_handlers_suite_as ?_;refine wpAny_mono (Kp.any ErP.freed (lU (.ref ea) none) x0 (lands_againW (Q:=fun _ s6=>∃ h6,s6={ s with heap:=h6 }/\Heap.FlyingW B (X.env::l) ea (.ref C) (.ref t) h6/\s.heap.UpToSlots h6) fl fun h6 fl6 up6=>⟨h6,rfl,fl6,up6⟩)) (fun _ s6 z=>?_) fun _ _ z=>z;obtain ⟨⟨h6,rfl,fl6,up6⟩,oe,he6,x1,x2,ws,x3,x4⟩:=z;have R6:=aS0 R FL pr h6 fl6.1 up6;have nS:ea∉frs (X.env::l):=fun m=>by
  obtain ⟨o,k1,k2⟩:=FL.at m;obtain ⟨_,⟨sl,k3⟩,_⟩:=R6.k _ _ _ k1;have k3:h6.get? ea=_:=k3;have he6:h6.get? ea=some oe:=he6;rw [he6] at k3;cases k3;exact k2 _ x3
 have fe:aU κ M ea:=Classical.byContradiction fun nf=>by
  obtain ⟨u,hu⟩:=R.there nf;have:=pr ea u hu nS nf;rw [fl.2.1] at this;cases this
 have R7:=R6.frz fe he6;have l7:Le M (M.add ea oe):=.add fe.1;refine aR9 (F.go l7) R7 hk fun s7 o m o' k1 d d' R8 sb=>?_;have hk1:X.S.hm=false->Hk (X.A.mark (some (.ref ea))) (M.add ea oe):=fun h0=>.inr ⟨ea,oe,ws,by first | rfl | simp [Around.mark],gY,x3,by rw [x4,xh h0]⟩;refine wpAny_mono (hsu xN l7 R8 ((F.go l7).at1 hi hk k1 d d' fun w z=>nomatch z) ⟨o',_,dY,d',by simp⟩ gY x1 hk1 x3 fun j ej=>?_) (fun f8 s8 ⟨κ2,M2,δ2,o2,l2,R9,F9,q9⟩=>?_) fun _ _ z=>z.elim
 ·obtain ⟨D,oD,q1,q2,q3⟩:=xn j ej;exact ⟨D,oD,x2.trans q1,l7.z _ _ q2,q3⟩
 ·cases f8<;>exact cB7 F9 R9 hi hk fun s9 κ9 o9 R10 F10=>q9 (o2.trans o9) R10 F10
end
end DL

namespace DL
open PySem PySem.Spec PyProof.Rows L2 CI
section
variable {X:Cx} {κ:Kp} {M:Mp} {h h':aA} {s:Shared} {δ:DSt} {x n c:Str} {C CJ ea:Addr} {oe:Obj} {A:Around} {E:Value->Shared->Prop} {i:Nat} {u cu:Value} {b:Bool} {p p1 pc pos:Pos}
def Qs (X:Cx) (κ:Kp) (M:Mp) (h:aA) (b:Bool) (u:Value) (s:Shared):Prop:=u=.bool b/\∃ M',Le M M'/\Mem X.S κ M' h s
theorem Qs.go {M':Mp} (l:Le M M') (q:Qs X κ M' h b u s):Qs X κ M h b u s:=let ⟨e,M2,l2,R⟩:=q;⟨e,M2,l.trans l2,R⟩
def zS {Q:Value->Shared->Prop} (F:Fra X κ M δ) (R:Mem X.S κ M h s) (hg:Gl X x) (hm:X.S.mg x=none) (hv:bootBuiltins x=some u) (hn:aY x=true) (q:Q u s):Wp X.S A (eval (.Name x pos) X.env) Q E s:=by
 unfold aY at hn;simp only [Bool.and_eq_true,Bool.not_eq_true'] at hn;obtain ⟨mb,h1,h2⟩:=F.ok.mod.blt;exact Calls.Name_function_global F.ok.kind hg (Calls.loadGlobal_builtin (by rw [F.ok.glob];exact F.ok.mod.glob.keeps R.bk) hm (by rw [F.ok.blt];exact h1.keeps R.bk) ((h2 x (fun z=>by rw [z] at hn;exact absurd hn.2.2 (by decide))).trans hv) q) hn.1
def xO (F:Fra X κ M δ) (R:Mem X.S κ M h s) (U:Lk X κ n (.ref ea)) (zo:M.Z ea=some oe) (hcl:oe.cls=.ref C) (Z:XCls X.S.K C) (hi:Gl X "isinstance") (mi:X.S.mg "isinstance"=none) (hk:X.env.scope.names.lookup n=some .local) (hn:aY n=true) (hc:Gl X c) (nc:aY c=true) (mc:X.S.mg c=some (.ref CJ)) (e:PySem.W.kitOne X.S.K (.ref C) (.ref CJ)=some b) :
  Wp X.S A (eval (.Call (.Name "isinstance" p) [.Name n p1,.Name c pc] [] pos) X.env) (Qs X κ M h b) E s:=by
 refine wpAny_Call_Name_kw (zS (u:=.builtin "isinstance") F R hi mi (by decide +kernel) (by decide +kernel) ?_);refine PyProof.Rows.callWith_builtin1 ?_ (bS (.Name n p1) rfl) (cL pos [.Name c pc] rfl);rw [bS (.Name n p1) rfl];show Wp _ _ (spliced ((false,eval (.Name n p1) X.env)::backTo pos (starEach [.Name c pc] X.env))) _ _ s;refine Calls.spliced_cons (qY F R U hk hn ?_);rw [bS (X:=X) (es:=[]) (.Name c pc) rfl];show Wp _ _ (spliced ((false,eval (.Name c pc) X.env)::[])) _ _ s;refine Calls.spliced_cons (vP F R hc mc nc (Calls.spliced_nil ?_));exact PySem.W.kia_one (aR1 PySem.F.excAttr_ValueError.ga Z hcl) (F.kin.keeps R.bk) (R.z _ _ zo) e (fun z=>nomatch z) fun tk=>⟨rfl,M,.refl,R.tok tk⟩
theorem aS2 {a:Expr} (k:Wp X.S A (eval a X.env) (Qs X κ M h b) E s):Wp X.S A (eval (.UnaryOp .Not a pos) X.env) (Qs X κ M h !b) E s :=
 UnaryOp_ (wpAny_mono k (fun u s1 ⟨e,q⟩=>by subst e;exact not_of (wpAny_truthy_bool ⟨rfl,q⟩)) fun _ _ z=>z)
theorem aS3 {M0:Mp}:∀ (l:List (Expr×Bool)) {M:Mp} {s:Shared},l≠[]->Le M0 M->Mem X.S κ M h s->(∀ q∈l,∀ M s,Le M0 M->Mem X.S κ M h s->Wp X.S A (eval q.1 X.env) (Qs X κ M h q.2) E s)->Wp X.S A (eval (.BoolOp .And (l.map (·.1)) pos) X.env) (Qs X κ M h (l.all (·.2))) E s
 | [],_,_,hl,_,_,_=>(hl rfl).elim
 | [(a,b)],M,s,_,l0,R,k=>by
  have:=k _ List.mem_cons_self M s l0 R;simp only [List.map_cons,List.map_nil,List.all_cons,List.all_nil,Bool.and_true];exact BoolOp_one this
 | (a,b)::(a2,b2)::r,M,s,_,l0,R,k=>by
  refine BoolOp_and (wpAny_mono (k _ List.mem_cons_self M s l0 R) (fun u s1 ⟨e,M1,l1,R1⟩=>?_) fun _ _ z=>z);subst e;cases b with
  | false=>exact wpAny_truthy_bool ⟨by simp,M1,l1,R1⟩
  | true =>
   have:=aS3 ((a2,b2)::r) (by simp) (l0.trans l1) R1 fun q hq=>k q (List.mem_cons_of_mem _ hq);exact wpAny_truthy_bool (wpAny_mono this (fun _ _ q=>by simpa using q.go l1) fun _ _ z=>z)
def bG6 {j:Int} {D:Addr} {oD:Obj} {vs:Array Value} {Q:Value->Shared->Prop} (F:Fra X κ M δ) (R:Mem X.S κ M h s) (U:Lk X κ n (.ref ea)) (zo:M.Z ea=some oe) (hcl:oe.cls=.ref C) (hv:oe.data=.fields vs) (hd:oe.dict=some D) (zD:M.Z D=some oD) (ha:AtO D oD j) (Z:XCls X.S.K C) (Y:ECls X.S.K C CJ) (hk:X.env.scope.names.lookup n=some .local) (hn:aY n=true)
  (q:∀ t k,Q (.int j t) { s with toks:=k }):Wp X.S A (eval (.Attribute (.Name n p1) "at" pos) X.env) Q E s:=by
 obtain ⟨t,hD⟩:=ha;refine Attribute_any_ (qY F R U hk hn ?_) (by rw [arm_eval_Attribute,mZ rfl]);have ho:=R.z _ _ zo;have hN:=hD s.heap (R.z _ _ zD);have kn:=F.kin.keeps R.bk;obtain ⟨hh,g,d,tk,os⟩:=s;exact bB2 PySem.F.excAttr_ValueError.ga Z Y kn ho hcl hv hd hN (by simp) rfl (q t _)
end
section
variable {X:Cx} {t:Stmt} {r:List Stmt} {f1 f2:XS}
theorem aS4 (h1:SS X t f1) (h2:SSs X r f2):SSs X (t::r) fun δ h=>(f1 δ h).bind fun p=>(match p.1 with
  | .nx δ'=>f2 δ' p.2
  | f=>some (f,p.2)):=by
 intro κ M δ h s fl h' R F e;obtain ⟨⟨g1,h3⟩,e1,e⟩:=bind_some e;refine wpAny_execs_cons (thn (h1 R F e1) fun f s1 ⟨κ1,M1,o1,l1,R1,q⟩=>?_);cases g1 with
 | nx δ1 =>
  cases f<;>first | exact q.elim | skip
  exact thn (h2 R1 q e) fun _ _ p=>p.go o1 l1
 | rt w=>cases e;cases f<;>first | exact q.elim | exact ⟨κ1,M1,o1,l1,R1,q⟩
 | bk w=>cases e;cases f<;>first | exact q.elim | exact ⟨κ1,M1,o1,l1,R1,q⟩
 | ct w=>cases e;cases f<;>first | exact q.elim | exact ⟨κ1,M1,o1,l1,R1,q⟩
end
end DL

namespace K45
open PySem PySem.Spec PyProof.Rows L2 DL CI SJ
noncomputable def fR:Stmt:=.Pass ⟨0,0,0,0⟩
def top (k:Nat):Stmt:=body.getD k fR
abbrev sL:Stmt:=top 43
noncomputable def cI:Stmt->Expr
 | .If c _ _ _=>c
 | _=>.Constant .none 0 ⟨0,0,0,0⟩
noncomputable def fT:Stmt->Expr
 | .For t _ _ _ _=>t
 | _=>.Constant .none 0 ⟨0,0,0,0⟩
noncomputable def fI:Stmt->Expr
 | .For _ i _ _ _=>i
 | _=>.Constant .none 0 ⟨0,0,0,0⟩
noncomputable def fB:Stmt->List Stmt
 | .For _ _ b _ _=>b
 | _=>[]
def sI:Stmt:=match top 34 with
 | .ClassDef _ _ _ b _ _ _ _ _ _ _=>b.getD 0 fR
 | _=>fR
def sLk (k:Nat):Stmt:=(aN sL).getD k fR
def bL:∃ p1 p2 p3 p4 p5 p6 k1 q4 q5 q6 q7 q8 q9 r4 r5 r6 r7 r8 r9,aN sL=[
 .If (cI (sLk 0)) [.Raise (some (.Call (.Name "NoHistory" p1) [.UnaryOp .USub (.Constant (.int 1) k1 p2) p3] [] p4)) none p5] [] p6,
 .For (fT (sLk 1)) (fI (sLk 1)) [.If (cI ((fB (sLk 1)).getD 0 fR)) [.Raise (some (.Call (.Name "NoHistory" q4) [.Name "number" q5] [] q6)) none q7] [] q8] [] q9,
 .For (fT (sLk 2)) (fI (sLk 2)) [.If (cI ((fB (sLk 2)).getD 0 fR)) [.Raise (some (.Call (.Name "NoHistory" r4) [.Name "number" r5] [] r6)) none r7] [] r8] [] r9]:=⟨_,_,_,_,_,_,_,_,_,_,_,_,_,_,_,_,_,_,_,rfl⟩
abbrev stA (b:Bool) (d:Nat) (x:Str) (s:Stmt):Sta:=(TT b).sta (fnT (TT b) fun y=>aE (TT b) d y) (obT (TT b) (fun y=>callW (TT b) d y) (fun y=>callI (TT b) d y) fun y=>callM (TT b) d y) x s
def r0 (b:Bool) (d:Nat) (δ:DSt) (h:aA):(evs 59).T (stA b d "look_over" sL) (cI (sLk 0)) δ h=xb (YNt (xb (xb (aB 0) (YIs "tuple")) YD)) (YOb (xC1 CmpOp.Gt (YK1 bJ (aB 0)) (YJ 60))) δ h:=by kernel_rfl
def r1 (b:Bool) (d:Nat) (δ:DSt) (h:aA):(evs 59).T (stA b d "look_over" sL) (cI ((fB (sLk 1)).getD 0 fR)) δ h=YNt (xb (YF1 b d "is_deed" (aB 2)) YD) δ h:=by kernel_rfl
def r1b (b:Bool) (d:Nat) (δ:DSt) (h:aA):xSs (evs 59) (stA b d "look_over" sL) (fB (sLk 1)) δ h=dN b d δ h:=by kernel_rfl
def r2 (b:Bool) (d:Nat) (δ:DSt) (h:aA):(evs 59).T (stA b d "look_over" sL) (cI ((fB (sLk 2)).getD 0 fR)) δ h=YNt (xb (YK1 gC (aO (xb (bB (xb (aB 0) (YSl (aD none) (xb (aB 1) YU)))) (YCp (YG 0) (aD true) (YF2 b d "go_together" (aB 1) (aB 0)) [none,some 3])))) YD) δ h:=by kernel_rfl
def r2b (b:Bool) (d:Nat) (δ:DSt) (h:aA):xSs (evs 59) (stA b d "look_over" sL) (fB (sLk 2)) δ h=dJ b d δ h:=by kernel_rfl
def rI1 (b:Bool) (d:Nat):gG (evs 59) (stA b d "look_over" sL) (fT (sLk 1)) (fI (sLk 1))=xb (aB 0) (fun (u:W) (x:DSt) (h:aA)=>iX u h):=by kernel_rfl
def rI2 (b:Bool) (d:Nat):gG (evs 59) (stA b d "look_over" sL) (fT (sLk 2)) (fI (sLk 2))=xb (aB 0) (fun (u:W) (x:DSt) (h:aA)=>iX u h):=by kernel_rfl
def rG1 (b:Bool) (d:Nat):(evs 59).G (stA b d "look_over" sL) (fT (sLk 1))=aR [YG 1,YG 2]:=by kernel_rfl
def rG2 (b:Bool) (d:Nat):(evs 59).G (stA b d "look_over" sL) (fT (sLk 2))=aR [YG 1,YG 3]:=by kernel_rfl
def gtB (x y:Dd):Bool:=!(x.tms.any fun t=>decide (t∈y.tms))&&(!decide (x.hand=y.hand)||(x.below y.beg||y.below x.beg))
def cB8 {α:Type} (p:α->Bool) (xs:List α) (h:aA):tN [.d (.list (xs.map fun t=>PyData.bool (p t)))] h=some (.d (.bool (xs.any p)),h):=by
 have e:∀ xs:List α,cX (xs.map fun t=>PyData.bool (p t))=some (xs.map p):=fun xs=>by
  induction xs with
  | nil=>rfl
  | cons x r ih=>rw [List.map_cons,cX,ih];rfl
 have:tN [.d (.list (xs.map fun t=>PyData.bool (p t)))] h=(cX (xs.map fun t=>PyData.bool (p t))).map fun bs=>(.d (.bool (bs.any id)),h):=rfl;rw [this,e];simp [Function.comp_def]
def cB9 {α:Type} (p:α->Bool) (xs:List α) (h:aA):gC [.d (.list (xs.map fun t=>PyData.bool (p t)))] h=some (.d (.bool (xs.all p)),h):=by
 have e:∀ xs:List α,cX (xs.map fun t=>PyData.bool (p t))=some (xs.map p):=fun xs=>by
  induction xs with
  | nil=>rfl
  | cons x r ih=>rw [List.map_cons,cX,ih];rfl
 rw [bF3,e];simp [Function.comp_def]
variable {bm:Bool} (d:Nat) (h:aA)
def cC0 (x y:Dd):aE (TT bm) (d+3) "go_together" [.d x.dat,.d y.dat] h=some (.bool (gtB x y),h):=by
 have t1:=fun x=>pD (bm:=bm) (d+1) h x;have b1:=fun n=>cS (bm:=bm) (d+1) h x n;have b2:=fun n=>cS (bm:=bm) (d+1) h y n;have y0:∀ k,xIx (.d y.dat) (.d (.int 0)) k=some (.d (.int y.hand),k):=fun k=>by simp [Dd.dat]
 have x0:∀ k,xIx (.d x.dat) (.d (.int 0)) k=some (.d (.int x.hand),k):=fun k=>by simp [Dd.dat]
 have y1:∀ k,xIx (.d y.dat) (.d (.int 1)) k=some (.d (.int y.beg),k):=fun k=>by simp [Dd.dat]
 have x1:∀ k,xIx (.d x.dat) (.d (.int 1)) k=some (.d (.int x.beg),k):=fun k=>by simp [Dd.dat]
 have tx:=t1 x;have ty:=t1 y;unfold gtB;generalize x.dat=dx at *;generalize y.dat=dy at *;simp [jI,tx];rw [cmM PyData.int (fun t=>.bool (decide (t∈y.tms))) (fun δ=>∃ u,δ=[u,some (.d dy)]) _ _ ⟨_,rfl⟩ fun t' hm δ hδ=>?_]
 ·simp only [bds,cB8];cases x.tms.any fun t=>decide (t∈y.tms) with
  | true=>simp
  | false =>
   have ee:((x.hand:Int)=y.hand) ↔ x.hand=y.hand:=by omega
   by_cases e:x.hand=y.hand
   ·cases e1:x.below y.beg<;>simp [x0,y0,x1,y1,e,b1,b2,e1]
   ·have e':¬ ((x.hand:Int)=y.hand):=by omega
    simp [x0,y0,e',e]
 ·obtain ⟨u,rfl⟩:=hδ;refine ⟨_,rfl,⟨_,rfl⟩,?_⟩;simp [ty,zB]
end K45

namespace K45
open PySem PySem.Spec PyProof.Rows L2 DL CI SJ
def bG7:InitB sI "JudgeError" where
 fn:=by kernel_rfl
 ps:=by kernel_rfl
 l1:=by kernel_rfl
 l2:=by kernel_rfl
 lJ:=by kernel_rfl
 nJ:=by decide +kernel
 bd:=⟨_,_,_,_,_,_,_,_,_,_,_,_,_,_,_,rfl,by decide +kernel,fun env=>⟨_,rfl⟩⟩
structure Er (S:Sx) (C J fI P:Addr):Prop where
 O:OwnI "NoHistory" C fI S.mg S.base
 Z:InitC S C J "JudgeError"
 XC:XCls S.K C
 mJ:S.mg "JudgeError"=some (.ref J)
 mP:S.mg "NoPromise"=some (.ref P)
 OP:OwnCls "NoPromise" P sZ "ValueError.__new__" S.mg S.base
 XP:XCls S.K P
 eH:PySem.W.exmOne S.K (.ref C) (.ref C)=some true
 ePH:PySem.W.exmOne S.K (.ref P) (.ref C)=some false
 eP:PySem.W.exmOne S.K (.ref P) (.ref P)=some true
 kJ:PySem.W.kitOne S.K (.ref C) (.ref J)=some true
 kP:PySem.W.kitOne S.K (.ref C) (.ref P)=some false
 kPJ:PySem.W.kitOne S.K (.ref P) (.ref J)=some true
 fn:∃ n q fd,Fun S.K n q (sI:Stmt) fI fd/\eO S.K fd ["self","at"]
def kR {S:Sx} {st:Stmt} {q:Str} {L f:Addr} {cd:Value} {A:Around} {κ:Kp} {M:Mp} {δ:DSt} (F:Fra (cxF S st q L f cd A) κ M δ):∃ l,(cxF S st q L f cd A).A.frames=some ((cxF S st q L f cd A).env::l):=by
 obtain ⟨l,e,_⟩:=F.frs;have e:(A.deeper (cxF S st q L f cd A).env).frames=some l:=e;cases h:A.frames with
 | none=>simp [Around.deeper,h] at e
 | some l'=>exact ⟨l',show (A.deeper (cxF S st q L f cd A).env).frames=_ by simp [Around.deeper,h]⟩
end K45

namespace K45
open PySem PySem.Spec PyProof.Rows L2 DL CI SJ
noncomputable def bB5:PyData->Bool
 | .list _=>true
 | .tuple xs=>decide (60 < xs.length)
 | _=>false
set_option genInjectivity true in
inductive BadH:Int->PyData->Prop
 | form {x:PyData} (hx:bB5 x=true):BadH (-1) x
 | deed {hs:List Dd} (ok:∀ x∈hs,x.ok) (l:hs.length < 60):BadH hs.length (.tuple (hs.map Dd.dat++[.none]))
 | two {hs:List Dd} {n j:Nat} (ok:∀ x∈hs,x.ok) (l:hs.length<=60) (hn:n < hs.length) (hj:j < n) (bad:gtB (gD hs n) (gD hs j)=false) (fst:∀ i j,i < n->j < i->gtB (gD hs i) (gD hs j)=true):BadH n (.tuple (hs.map Dd.dat))
def nC {X:Cx} {κ:Kp} {M:Mp} {h h1:aA} {s:Shared} {δ δ1:DSt} {v:Evs} {st:Sta} {d:Nat} {t:Stmt} {r:List Stmt} {Q:Flow->Shared->Prop} {E:Value->Shared->Prop} (S:Snd v) (G:Good X st d) (R:Mem X.S κ M h s) (F:Fra X κ M δ) (e1:v.S st t δ h=some (.nx δ1,h1))
  (rb:∀ {κ1 M1 s1},Own X κ κ1->Le M M1->Mem X.S κ1 M1 h1 s1->Fra X κ1 M1 δ1->Wp X.S X.A (execs r X.env) Q E s1):Wp X.S X.A (execs (t::r) X.env) Q E s:=by
 refine wpAny_execs_cons (wpAny_mono (S.S G t R F e1) (fun f s1 ⟨κ1,M1,o1,l1,R1,q⟩=>?_) fun _ _ z=>z.elim);cases f with
 | next=>exact rb o1 l1 R1 q
 | _=>exact q.elim
theorem aS5 {X:Cx} {a c:List Stmt} {f:XS} (e:a=c) (t:SSs X a f):SSs X c f:=e ▸ t
def vR {bm:Bool} (d:Nat) (h:aA):aE (TT bm) (d+10) "is_deed" [.d .none] h=some (.bool false,h):=by
 have e1:=bV (bm:=bm) (d+8) .none h 5 rfl;simp [lQ,e1,show fW PyData.none 5=false from rfl]
theorem tF {g:XG} {tb:XS} {all:List PyData} {P:DSt->Prop} {h:aA} (I:Nat->DSt->Prop) (n:Nat) (hn:n < all.length) (step:∀ i (hi:i < n) δ,I i δ->∃ δ1,g (.d (all[i]'(by omega))) δ h=some (δ1,h)/\∃ δ2,tb δ1 h=some (.nx δ2,h)/\I (i+1) δ2) (last:∀ δ,I n δ->∃ δ1,g (.d all[n]) δ h=some (δ1,h)/\P δ1) :
  ∀ (m i:Nat),m+i=n->∀ δ,I i δ->bB4 g tb none all P h (all.drop i) δ
 | 0,i,e,δ,hi=>by
  have e:i=n:=by omega
  subst e;rw [List.drop_eq_getElem_cons hn];obtain ⟨δ1,e1,p⟩:=last δ hi;exact ⟨rfl,δ1,e1,.inl p⟩
 | m+1,i,e,δ,hi=>by
  rw [List.drop_eq_getElem_cons (show i < all.length by omega)];obtain ⟨δ1,e1,δ2,e2,i2⟩:=step i (by omega) δ hi;exact ⟨rfl,δ1,e1,.inr ⟨δ2,e2,tF I n hn step last m (i+1) (by omega) δ2 i2⟩⟩
def tG (xs:List PyData) (i:Nat) (hi:i < (bX xs).length):(bX xs)[i]=.tuple [.int i,xs.getD i .none]/\(bX xs).length=xs.length:=by
 have e:bX xs=(List.range xs.length).map fun i=>.tuple [.int i,xs.getD i .none]:=by
  unfold bX;rw [kH];refine List.map_congr_left fun i hi=>?_;have hi:=List.mem_range.mp hi;simp [List.getD,hi]
 constructor
 ·simp [e]
 ·rw [e];simp
variable {bm:Bool} (d:Nat) (h:aA)
def cC1 {w:PyData} {hs:List Dd} {i:Nat} (hw:w=.tuple (hs.map Dd.dat)) (hi:i < hs.length) (x2:Option W):(YNt (xb (YK1 gC (aO (xb (bB (xb (aB 0) (YSl (aD none) (xb (aB 1) YU)))) (YCp (YG 0) (aD true) (YF2 bm (d+10) "go_together" (aB 1) (aB 0)) [none,some 3])))) YD)) [some (.d w),some (.d (.int i)),x2,some (.d (gD hs i).dat)] h=some (!((hs.take i).all fun y=>gtB (gD hs i) y),h):=by
 have cu:xSl (.d w) none (some (i:Int)) h=some (.d (.tuple ((hs.take i).map Dd.dat)),h):=by
  have:=sJ (hs.map Dd.dat) (m:=i) (by simp;omega);rw [hw,List.map_take];show some (W.d (.tuple (cut (hs.map Dd.dat) none (some (i:Int)))),h)=_;rw [this]
 generalize hs.take i=qs at *;generalize gD hs i=x at *;have cm:aV (YG 0) (aD true) (xb (Y2 (aB 1) (aB 0)) (YF bm (d+10) "go_together")) none (qs.map Dd.dat) (qs.map Dd.dat) [none,some (.d x.dat)] h []=some (qs.map fun y=>.bool (gtB x y),h):=by
  refine cmM Dd.dat (fun y=>.bool (gtB x y)) (fun δ=>∃ u,δ=[u,some (.d x.dat)]) _ _ ⟨_,rfl⟩ fun y hy δ hδ=>?_;obtain ⟨u,rfl⟩:=hδ;refine ⟨_,rfl,⟨_,rfl⟩,?_⟩;have:=cC0 (bm:=bm) (d+7) h x y;simp [this]
 simp only [iA,kF,lL,lH,lN,lO,lP,oW,oX,oY,lF,lG,oR,oV,mS,oS,oT,oU,bdi] at cm;have bc:=cB9 (fun y=>gtB x y) qs;simp [cu,cm,bc]
def cP0 (n:Int) (ws:List W) (_:aA):Prop:=∃ w,ws=[.d w]/\BadH n w
variable {S:Sx} {C J gI P:Addr} {b:Bool} {d:Nat} (TO:TopOk (TT b) S) (XE:Er S C J gI P)
include TO XE
def vS {n:Int} {f:Addr} {fd:FuncData} (F:Fun S.K "look_over" "look_over" sL f fd):FnR S (d+12) f fd (parsOf sL) C (some n) (cP0 n):=by
 refine iH F (by kernel_rfl) (fun ws h ⟨w,e,_⟩=>by subst e;kernel_rfl) fun {A κ M h s L cd ws E} hr hp R Fr hps hE=>?_;obtain ⟨w,rfl,hb⟩:=hp;obtain ⟨l,hA⟩:=kR Fr;have G:=cZ (st:=sL) (q:="look_over") (L:=L) (f:=f) (cd:=cd) (x:="look_over") TO (eB TO (d+11)) hr (fun _ z=>nomatch z);obtain ⟨p1,p2,p3,p4,p5,p6,k1,q4,q5,q6,q7,q8,q9,r4,r5,r6,r7,r8,r9,eb⟩:=bL;obtain ⟨ni,qi,fdi,Fi,bi⟩:=XE.fn;have gH:Gl (cxF S sL "look_over" L f cd A) "NoHistory":=show Env.kindOf _ _=_ by kernel_rfl
 have b1:fB (sLk 1)=[.If (cI ((fB (sLk 1)).getD 0 fR)) [.Raise (some (.Call (.Name "NoHistory" q4) [.Name "number" q5] [] q6)) none q7] [] q8]:=by
  show fB ((aN sL).getD 1 fR)=_;rw [eb];rfl
 have b2:fB (sLk 2)=[.If (cI ((fB (sLk 2)).getD 0 fR)) [.Raise (some (.Call (.Name "NoHistory" r4) [.Name "number" r5] [] r6)) none r7] [] r8]:=by
  show fB ((aN sL).getD 2 fR)=_;rw [eb];rfl
 have t1:=jH (aM 59) G (fB (sLk 1));have t2:=jH (aM 59) G (fB (sLk 2));have s1:gF (fI (sLk 1))=false:=by kernel_rfl
 have s2:gF (fI (sLk 2))=false:=by kernel_rfl
 have hd:cH (aZ sL) [.d w]=[some (.d w),none,none,none]:=by kernel_rfl
 rw [hd] at Fr;have ea:∀ (m:Int) (x2 x3:Option W) (q:Pos),aX (evs 59) (stA b (d+11) "look_over" sL) [.Name "number" q] [some (.d w),some (.d (.int m)),x2,x3] h=some ([.d (.int m)],h):=fun m x2 x3 q=>by kernel_rfl
 -- raise NoHistory(number)
 have raise:∀ {m:Int} {x2 x3:Option W} {κ1:Kp} {M1:Mp} {s1:Shared} {p q r t:Pos},-1<=m/\m<=100->Mem S κ1 M1 h s1->Fra (cxF S sL "look_over" L f cd A) κ1 M1 [some (.d w),some (.d (.int m)),x2,x3]->Wp S (cxF S sL "look_over" L f cd A).A (execs [.Raise (some (.Call (.Name "NoHistory" p) [.Name "number" q] [] r)) none t] (cxF S sL "look_over" L f cd A).env) (fun _ _=>False) (Rz (cxF S sL "look_over" L f cd A) κ1 M1 h C (some m)) s1:=fun {m x2 x3 κ1 M1 s1 p q r t} hm R1 F1 =>
  bG (rA (k:=d+9) XE.O XE.Z Fi bG7 bi G.rm (bU (aM 59) G _) (by decide) gH hA rfl R1 F1 (ea m x2 x3 q) hm)
 rw [eb]
 -- the first condition
 have first:∀ xs:List PyData,w=.tuple xs->xs.length<=60->(evs 60).S (stA b (d+11) "look_over" sL) (.If (cI (sLk 0)) [.Raise (some (.Call (.Name "NoHistory" p1) [.UnaryOp .USub (.Constant (.int 1) k1 p2) p3] [] p4)) none p5] [] p6) [some (.d w),none,none,none] h=some (.nx [some (.d w),none,none,none],h):=fun xs e hl=>by
  show ((evs 59).T (stA b (d+11) "look_over" sL) (cI (sLk 0)) [some (.d w),none,none,none] h).bind _=_;have n60:¬ (60:Int) < xs.length:=by omega
  rw [r0,e];simp [isi,fZ,n60];rfl
 cases hb with
 | form hx =>
  have c0:(evs 59).T (stA b (d+11) "look_over" sL) (cI (sLk 0)) [some (.d w),none,none,none] h=some (true,h):=by
   rw [r0];cases w with
   | list xs=>simp [isi,fZ]
   | tuple xs =>
    have:(60:Int) < xs.length:=by simp only [bB5,decide_eq_true_eq] at hx;omega
    simp [isi,fZ,this]
   | _=>cases hx
  refine wpAny_mono (bG (zR (aM 59) G R Fr c0 fun R1 F1=>bG (rA (k:=d+9) XE.O XE.Z Fi bG7 bi G.rm (bU (aM 59) G _) (by decide) gH hA rfl R1 F1 (show aX (evs 59) (stA b (d+11) "look_over" sL) [.UnaryOp .USub (.Constant (.int 1) k1 p2) p3] [some (.d w),none,none,none] h=some ([.d (.int (-1))],h) by kernel_rfl) (by omega)))) (fun _ _ z=>z) hE
 | deed ok hl =>
  rename_i hs;obtain ⟨xs,hxs⟩:∃ xs,xs=hs.map Dd.dat++[PyData.none]:=⟨_,rfl⟩;rw [<- hxs] at Fr raise first
  have lx:xs.length=hs.length+1:=by rw [hxs];simp
  refine nC (aM 60) G R Fr (first _ rfl (by omega)) fun o1 l1 R1 F1=>?_;have le:(bX xs).length=xs.length:=by have:=tG xs;exact (this 0 (by rw [show (bX xs).length=xs.length from by unfold bX;rw [kH];simp];omega)).2
  refine bG (aR8 (n:=some (hs.length:Int)) (P:=fun δ=>∃ x3,δ=[some (.d (.tuple xs)),some (.d (.int hs.length)),some (.d .none),x3]) G.rm.hd hps (lA (aM 59) G _ _) ((aM 59).G G _) (aS5 b1 t1) (hX s1 _) R1 F1 (show gG (evs 59) _ _ _ _ h=some ((bX xs,none),h) by rw [rI1];rfl) ?_ (fun ex s' z=>hE ex s' ((z.own o1).go l1)) fun {κ2 M2 s2 δ2} R2 F2 hP=>?_)
  ·have:=tF (g:=(evs 59).G (stA b (d+11) "look_over" sL) (fT (sLk 1))) (tb:=xSs (evs 59) (stA b (d+11) "look_over" sL) (fB (sLk 1))) (all:=bX xs) (P:=fun δ=>∃ x3,δ=[some (.d (.tuple xs)),some (.d (.int hs.length)),some (.d .none),x3]) (h:=h) (fun i δ=>∃ x1 x2 x3,δ=[some (.d (.tuple xs)),x1,x2,x3]) hs.length (by rw [le];omega) (fun i hi δ hδ=>?_) (fun δ hδ=>?_) hs.length 0 rfl [some (.d (.tuple xs)),none,none,none] ⟨none,none,none,rfl⟩
   ·exact this
   ·obtain ⟨x1,x2,x3,rfl⟩:=hδ;have cd:=lR (bm:=b) (d+1) h (gD hs i) (ok _ (lT hi));have ex:xs.getD i .none=(gD hs i).dat:=by rw [hxs];unfold List.getD;rw [List.getElem?_append_left (by simpa using hi)];simp [gD,List.getD,hi]
    refine ⟨[some (.d (.tuple xs)),some (.d (.int i)),some (.d (gD hs i).dat),x3],?_,[some (.d (.tuple xs)),some (.d (.int i)),some (.d (gD hs i).dat),x3],?_,_,_,_,rfl⟩
    ·rw [(tG xs i _).1,ex,rG1];simp [aR,cW]
    ·rw [r1b];simp [cd]
   ·obtain ⟨x1,x2,x3,rfl⟩:=hδ;have ex:xs.getD hs.length .none=.none:=by rw [hxs];simp [List.getD]
    refine ⟨[some (.d (.tuple xs)),some (.d (.int hs.length)),some (.d .none),x3],?_,_,rfl⟩;rw [(tG xs _ _).1,ex,rG1];simp [aR,cW]
  ·obtain ⟨x3,rfl⟩:=hP;have cd:=vR (bm:=b) (d+1) h;refine bG (zR (aM 59) G R2 F2 (b:=true) ?_ fun R3 F3=>raise (by omega) R3 F3);rw [r1];simp [cd]
 | two ok hl hn hj bad fst =>
  rename_i hs n j;obtain ⟨ht,eht⟩:∃ ht,ht=PyData.tuple (hs.map Dd.dat):=⟨_,rfl⟩;rw [<- eht] at Fr raise first hd
  have xe:iX (.d ht) h=some (((List.range hs.length).map (nmD hs),none),h):=by rw [eht,rX,sO]
  refine nC (aM 60) G R Fr (first _ eht (by simpa using hl)) fun o1 l1 R1 F1=>?_;have p1:∃ δ',(evs 60).S (stA b (d+11) "look_over" sL) (.For (fT (sLk 1)) (fI (sLk 1)) [.If (cI ((fB (sLk 1)).getD 0 fR)) [.Raise (some (.Call (.Name "NoHistory" q4) [.Name "number" q5] [] q6)) none q7] [] q8] [] q9) [some (.d ht),none,none,none] h=some (.nx δ',h)/\∃ x1 x2 x3,δ'=[some (.d ht),x1,x2,x3]:=by
   rw [<- b1];show ∃ δ',(if gF (fI (sLk 1))=true then fun _ _=>none else fun δ h=>(gG (evs 59) (stA b (d+11) "look_over" sL) (fT (sLk 1)) (fI (sLk 1)) δ h).bind fun p=>bQ ((evs 59).G (stA b (d+11) "look_over" sL) (fT (sLk 1))) (xSs (evs 59) (stA b (d+11) "look_over" sL) (fB (sLk 1))) p.1.2 p.1.1 p.1.1 δ p.2:XS) [some (.d ht),none,none,none] h=_/\_;rw [if_neg (by rw [s1];decide)];have xi:gG (evs 59) (stA b (d+11) "look_over" sL) (fT (sLk 1)) (fI (sLk 1)) [some (.d ht),none,none,none] h=some (((List.range hs.length).map (nmD hs),none),h):=by rw [rI1];exact xe
   rw [xi,rG1];have:∃ δ' h',bQ (aR [YG 1,YG 2]) (xSs (evs 59) (stA b (d+11) "look_over" sL) (fB (sLk 1))) none ((List.range hs.length).map (nmD hs)) ((List.range hs.length).map (nmD hs)) [some (.d ht),none,none,none] h=some (.nx δ',h')/\((∃ x1 x2 x3,δ'=[some (.d ht),x1,x2,x3])/\h'=h):=by
    refine lE (fun δ H=>(∃ x1 x2 x3,δ=[some (.d ht),x1,x2,x3])/\H=h) _ ?_ _ _ ⟨⟨_,_,_,rfl⟩,rfl⟩;rintro x hx δ H ⟨⟨x1,x2,x3,rfl⟩,rfl⟩;obtain ⟨i,hi,rfl⟩:=List.mem_map.mp hx;have hi:=List.mem_range.mp hi;have cd:=lR (bm:=b) (d+1) H (gD hs i) (ok _ (lT hi));refine ⟨[some (.d ht),some (.d (.int i)),some (.d (gD hs i).dat),x3],H,by simp [nmD,aR,cW],[some (.d ht),some (.d (.int i)),some (.d (gD hs i).dat),x3],H,?_,⟨_,_,_,rfl⟩,rfl⟩;rw [r1b];simp [cd]
   obtain ⟨δ',_,e,q,rfl⟩:=this;exact ⟨δ',e,q⟩
  obtain ⟨_,e1,x1,x2,x3,rfl⟩:=p1;refine nC (aM 60) G R1 F1 e1 fun o2 l2 R2 F2=>?_;have cnd:∀ (i:Nat) (hi:i < hs.length) (x2:Option W),(YNt (xb (YK1 gC (aO (xb (bB (xb (aB 0) (YSl (aD none) (xb (aB 1) YU)))) (YCp (YG 0) (aD true) (YF2 b (d+11) "go_together" (aB 1) (aB 0)) [none,some 3])))) YD)) [some (.d ht),some (.d (.int i)),x2,some (.d (gD hs i).dat)] h=some (!((hs.take i).all fun y=>gtB (gD hs i) y),h):=fun i hi x2=>cC1 (d+1) h eht hi x2;refine bG (aR8 (n:=some (n:Int)) (P:=fun δ=>∃ x2,δ=[some (.d ht),some (.d (.int n)),x2,some (.d (gD hs n).dat)]) G.rm.hd hps (lA (aM 59) G _ _) ((aM 59).G G _) (aS5 b2 t2) (hX s2 _) R2 F2 (show gG (evs 59) _ _ _ _ h=some (((List.range hs.length).map (nmD hs),none),h) by rw [rI2];exact xe) ?_ (fun ex s' z=>hE ex s' ((z.own (o1.trans o2)).go (l1.trans l2))) fun {κ2 M2 s2 δ2} R3 F3 hP=>?_)
  ·have:=tF (g:=(evs 59).G (stA b (d+11) "look_over" sL) (fT (sLk 2))) (tb:=xSs (evs 59) (stA b (d+11) "look_over" sL) (fB (sLk 2))) (all:=(List.range hs.length).map (nmD hs)) (P:=fun δ=>∃ x2,δ=[some (.d ht),some (.d (.int n)),x2,some (.d (gD hs n).dat)]) (h:=h) (fun i δ=>∃ x1 x2 x3,δ=[some (.d ht),x1,x2,x3]) n (by simpa using hn) (fun i hi δ hδ=>?_) (fun δ hδ=>?_) n 0 rfl [some (.d ht),x1,x2,x3] ⟨_,_,_,rfl⟩
   ·exact this
   ·obtain ⟨x1,x2,x3,rfl⟩:=hδ;have al:((hs.take i).all fun y=>gtB (gD hs i) y)=true:=List.all_eq_true.mpr fun y hy=>by
     obtain ⟨k,hk,rfl⟩:=List.getElem_of_mem hy;rw [List.length_take] at hk;rw [List.getElem_take];have:=fst i k hi (by omega)
     rwa [jP (show k < hs.length by omega)]
    refine ⟨[some (.d ht),some (.d (.int i)),x2,some (.d (gD hs i).dat)],?_,[some (.d ht),some (.d (.int i)),x2,some (.d (gD hs i).dat)],?_,_,_,_,rfl⟩
    ·rw [rG2];simp [nmD,aR,cW]
    ·rw [r2b];have:=cnd i (by omega) x2;rw [al] at this;show YP (YP (YNt _ _ h) _) YE=_;rw [this];rfl
   ·obtain ⟨x1,x2,x3,rfl⟩:=hδ;refine ⟨[some (.d ht),some (.d (.int n)),x2,some (.d (gD hs n).dat)],?_,_,rfl⟩;rw [rG2];simp [nmD,aR,cW]
  ·obtain ⟨x2,rfl⟩:=hP;have al:((hs.take n).all fun y=>gtB (gD hs n) y)=false:=List.all_eq_false.mpr ⟨gD hs j,by
    rw [<- jP (show j < hs.length by omega)];exact List.mem_take_iff_getElem.mpr ⟨j,by omega,rfl⟩,by rw [bad];decide⟩
   refine bG (zR (aM 59) G R3 F3 (b:=true) ?_ fun R4 F4=>raise (by omega) R4 F4);rw [r2];have:=cnd n hn x2;rw [al] at this;exact this
end K45

namespace K45
open PySem PySem.Spec PyProof.Rows L2 DL CI SJ
def bB6 {X:Cx} {κ:Kp} {M:Mp} {s:Shared} {δ:DSt} {st:Sta} {d:Nat} {elt tg iter:Expr} {sc:Scope} {pos:Pos} {Qv:Value->Shared->Prop} {E:Value->Shared->Prop} (G:Good X st d) (hc:jD st.N sc st.S=true) (hs:gF iter=false) (F:Fra X κ M δ) (ri:Wp X.S X.A (eval iter X.env) (fun _ _=>False) E s) :
  Wp X.S X.A (eval (.ListComp elt [⟨tg,iter,[],0⟩] sc pos) X.env) Qv E s:=by
 have SC:CompSc X.N (iY sc) (fH st.N sc) X.env.scope sc:=by rw [G.S,G.N];exact jX hc
 obtain ⟨cl,ecl,hcl1,hcl2⟩:=fM (sc:=sc) (env:=X.env) fun y hy hf=>F.ok.has y.1 (SC.free y hy hf);rw [eval_ListComp];refine wpAny_comprehension_free (use:=none) rfl (hX hs _) ecl SC.kind SC.loc ?_;exact wpAny_mono ri (fun _ _ z=>z.elim) fun _ _ z=>z
set_option genInjectivity true in
inductive BadP:PyData->Prop
 | a:BadP (.str "")
 | b:BadP (.str "Real")
 | c:BadP (.str "rows")
 | d:BadP (.str "real ")
 | e:BadP .none
 | f:BadP (.int 0)
 | g:BadP (.tuple [.str "real"])
abbrev sK:Stmt:=top 50
abbrev sF:Stmt:=top 53
def bK:∃ p1 p3 p4 p5 p6 kd,aN sK=[.If (cI ((aN sK).getD 0 fR)) [.Raise (some (.Call (.Name "NoPromise" p1) [.Constant (.str "this is no promise") kd p3] [] p4)) none p5] [] p6]:=⟨_,_,_,_,_,_,rfl⟩
def bF:∃ p1 p2 p3 p4 q1 q2 q3 q4 r,aN sF=.Expr (.Call (.Name "look_over" p1) [.Name "history" p2] [] p3) p4::.Expr (.Call (.Name "check_promise" q1) [.Name "promise" q2] [] q3) q4::r:=⟨_,_,_,_,_,_,_,_,_,rfl⟩
def bP:∃ elt tg sc p1 p2 p3 p4 p5 p6,aN (top 51)=[.Return (some (.ListComp elt [⟨tg,.Call (.Name "frames_of" p1) [.Name "history" p2,.Name "promise" p3] [] p4,[],0⟩] sc p5)) p6]/\∀ fn ob,jD (Top.sta T fn ob "problems_of" (top 51)).N sc (Top.sta T fn ob "problems_of" (top 51)).S=true:=⟨_,_,_,_,_,_,_,_,_,rfl,fun fn ob=>by kernel_rfl⟩
def bDe:∃ elt tg sc p1 p2 p3 p4 p5 p6,aN (top 52)=[.Return (some (.ListComp elt [⟨tg,.Call (.Name "frames_of" p1) [.Name "history" p2,.Name "promise" p3] [] p4,[],0⟩] sc p5)) p6]/\∀ fn ob,jD (Top.sta T fn ob "deeds_of" (top 52)).N sc (Top.sta T fn ob "deeds_of" (top 52)).S=true:=⟨_,_,_,_,_,_,_,_,_,rfl,fun fn ob=>by kernel_rfl⟩
def dLo (b:Bool):(TT b).defs "look_over"=some sL:=by kernel_rfl
theorem dK:T.defs "check_promise"=some sK:=by kernel_rfl
theorem dF:T.defs "frames_of"=some sF:=by kernel_rfl
def dP:T.defs "problems_of"=some (top 51):=by kernel_rfl
def dD:T.defs "deeds_of"=some (top 52):=by kernel_rfl
def cP1 (ws:List W) (_:aA):Prop:=∃ w,ws=[.d w]/\BadP w
def bB7 (n:Int) (ws:List W) (_:aA):Prop:=∃ w u,ws=[.d w,.d u]/\BadH n w
def bB8 (ws:List W) (_:aA):Prop:=∃ hs w,ws=[.d (.tuple (hs.map Dd.dat)),.d w]/\HOk hs/\BadP w
theorem cC2 {n:Int} (ws:List W) (h:aA) (p:bB7 n ws h):∃ w u,ws=[.d w,.d u]:=let ⟨w,u,e,_⟩:=p;⟨w,u,e⟩
theorem cC3 (ws:List W) (h:aA) (p:bB8 ws h):∃ w u,ws=[.d w,.d u]:=let ⟨_,w,e,_⟩:=p;⟨_,w,e⟩
variable {S:Sx} {C J gI P:Addr} {d:Nat} (TO:TopOk T S) (XE:Er S C J gI P)
include TO XE
def aS6 {f:Addr} {fd:FuncData} {k:Nat} (F:Fun S.K "check_promise" "check_promise" sK f fd):FnR S (k+1) f fd (parsOf sK) P none cP1:=by
 refine iH F (by kernel_rfl) (fun ws h ⟨w,e,_⟩=>by subst e;kernel_rfl) fun {A κ M h s L cd ws E} hr hp R Fr hps hE=>?_;obtain ⟨w,rfl,hb⟩:=hp;obtain ⟨l,hA⟩:=kR Fr;have G:=cZ (st:=sK) (q:="check_promise") (L:=L) (f:=f) (cd:=cd) (x:="check_promise") TO (eB TO k) hr (fun _ z=>nomatch z);obtain ⟨p1,p3,p4,p5,p6,kd,eb⟩:=bK;have hd:cH (aZ sK) [.d w]=[some (.d w)]:=by kernel_rfl
 rw [hd] at Fr;have c0:(evs 59).T (stA false k "check_promise" sK) (cI ((aN sK).getD 0 fR)) [some (.d w)] h=some (true,h):=by
  cases hb<;>kernel_rfl
 have gP:Gl (cxF S sK "check_promise" L f cd A) "NoPromise":=show Env.kindOf _ _=_ by kernel_rfl
 have h0:S.hm=false:=TO.hm.symm;rw [eb];exact wpAny_mono (bG (zR (aM 59) G R Fr c0 fun R1 F1=>bG (aR5 (ws:=[.d (.str "this is no promise")]) XE.OP PySem.F.excBase_ValueError (bU (aM 59) G _) (G.rm.hd h0) (by decide) gP hA (by kernel_rfl) R1 F1 (by kernel_rfl) (by decide)))) (fun _ _ z=>z) hE
def aS7 {n:Int} {f:Addr} {fd:FuncData} (F:Fun S.K "frames_of" "frames_of" sF f fd):FnR S (d+13) f fd (parsOf sF) C (some n) (bB7 n):=by
 refine iH F (by kernel_rfl) (fun ws h ⟨w,u,e,_⟩=>by subst e;kernel_rfl) fun {A κ M h s L cd ws E} hr hp R Fr hps hE=>?_;obtain ⟨w,u,rfl,hb⟩:=hp;obtain ⟨l,hA⟩:=kR Fr;have G:=cZ (st:=sF) (q:="frames_of") (L:=L) (f:=f) (cd:=cd) (x:="frames_of") TO (eB TO (d+12)) hr (fun _ z=>nomatch z);obtain ⟨p1,p2,p3,p4,q1,q2,q3,q4,r,eb⟩:=bF;obtain ⟨fc,fdc,Fc,mc,bc⟩:=TO.defs _ _ (dLo false);have hd:cH (aZ sF) [.d w,.d u]=[some (.d w),some (.d u)]:=by kernel_rfl
 rw [hd] at Fr;have gH:Gl (cxF S sF "frames_of" L f cd A) "look_over":=show Env.kindOf _ _=_ by kernel_rfl
 rw [eb];exact wpAny_mono (bG (kO Fr (cQ rfl _ _ _) (wpAny_mono (iU (vS (d:=d) TO XE Fc) G.rm mc Fc.kp bc (bU (aM 59) G _) (by decide) gH hA (by kernel_rfl) R Fr (show _=some ([.d w],h) by kernel_rfl) ⟨w,rfl,hb⟩) (fun _ _ z=>z) fun ex s' z=>z.rz Fr))) (fun _ _ z=>z) hE
def zT {f:Addr} {fd:FuncData} (F:Fun S.K "frames_of" "frames_of" sF f fd):FnR S (d+13) f fd (parsOf sF) P none bB8:=by
 refine iH F (by kernel_rfl) (fun ws h ⟨hs,w,e,_⟩=>by subst e;kernel_rfl) fun {A κ M h s L cd ws E} hr hp R Fr hps hE=>?_;obtain ⟨hs,w,rfl,ok,hb⟩:=hp;obtain ⟨l,hA⟩:=kR Fr;have G:=cZ (st:=sF) (q:="frames_of") (L:=L) (f:=f) (cd:=cd) (x:="frames_of") TO (eB TO (d+12)) hr (fun _ z=>nomatch z);obtain ⟨p1,p2,p3,p4,q1,q2,q3,q4,r,eb⟩:=bF;obtain ⟨fc,fdc,Fc,mc,bc⟩:=TO.defs _ _ dK;obtain ⟨ht,eht⟩:∃ ht,ht=PyData.tuple (hs.map Dd.dat):=⟨_,rfl⟩;have lo:∀ h,aE T (d+12) "look_over" [.d ht] h=some (.none,h):=fun h=>by rw [eht];exact mH (d+1) h ok
 rw [<- eht] at Fr;have hd:cH (aZ sF) [.d ht,.d w]=[some (.d ht),some (.d w)]:=by kernel_rfl
 rw [hd] at Fr;have gH:Gl (cxF S sF "frames_of" L f cd A) "check_promise":=show Env.kindOf _ _=_ by kernel_rfl
 have e1:(evs 60).S (stA false (d+12) "frames_of" sF) (.Expr (.Call (.Name "look_over" p1) [.Name "history" p2] [] p3) p4) [some (.d ht),some (.d w)] h=some (.nx [some (.d ht),some (.d w)],h):=by
  have e:(evs 60).S (stA false (d+12) "frames_of" sF) (.Expr (.Call (.Name "look_over" p1) [.Name "history" p2] [] p3) p4) [some (.d ht),some (.d w)] h=(YF1 false (d+12) "look_over" (aB 0) [some (.d ht),some (.d w)] h).bind fun p=>some (.nx [some (.d ht),some (.d w)],p.2):=by kernel_rfl
  rw [e];simp [lo]
 rw [eb];refine nC (aM 60) G R Fr e1 fun o1 l1 R1 F1=>?_;exact wpAny_mono (bG (kO F1 (cQ rfl _ _ _) (wpAny_mono (iU (aS6 TO XE (k:=d+11) Fc) G.rm mc Fc.kp bc (bU (aM 59) G _) (by decide) gH hA (by kernel_rfl) R1 F1 (show _=some ([.d w],h) by kernel_rfl) ⟨w,rfl,hb⟩) (fun _ _ z=>z) fun ex s' z=>z.rz F1))) (fun _ _ z=>z) fun ex s' z=>hE ex s' ((z.own o1).go l1)
def tI {Cx:Addr} {nA:Option Int} {pre:List W->aA->Prop} {x:Str} {st:Stmt} (hx:T.defs x=some st) (hq:T.qn x=none) (hfb:fnB st=true) (hps:parsOf st=[("history":Str),"promise"]) (pl:∀ ws h,pre ws h->∃ w u,ws=[.d w,.d u])
  (hb:∃ elt tg sc p1 p2 p3 p4 p5 p6,aN st=[.Return (some (.ListComp elt [⟨tg,.Call (.Name "frames_of" p1) [.Name "history" p2,.Name "promise" p3] [] p4,[],0⟩] sc p5)) p6]/\∀ fn ob,jD (Top.sta T fn ob x st).N sc (Top.sta T fn ob x st).S=true) (hg:(defScope st).names.lookup ("frames_of":Str)=some .globalImplicit)
  (hv:∀ k (w u:PyData) (h:aA) (p2 p3:Pos),aX (evs 59) (stA false k x st) [.Name "history" p2,.Name "promise" p3] (cH (aZ st) [.d w,.d u]) h=some ([.d w,.d u],h))
  (FF:∀ f fd,Fun S.K "frames_of" "frames_of" sF f fd->FnR S (d+13) f fd (parsOf sF) Cx nA pre) {f:Addr} {fd:FuncData} (F:Fun S.K x x st f fd):FnR S (d+14) f fd (parsOf st) Cx nA pre:=by
 refine iH F hfb (fun ws h hp=>by obtain ⟨w,u,rfl⟩:=pl _ _ hp;rw [hps];rfl) fun {A κ M h s L cd ws E} hr hp R Fr hpas hE=>?_;obtain ⟨w,u,rfl⟩:=pl _ _ hp;obtain ⟨l,hA⟩:=kR Fr;have G:=cZ (st:=st) (q:=x) (L:=L) (f:=f) (cd:=cd) (x:=x) TO (eB TO (d+13)) hr (fun _ z=>by rw [hq] at z;cases z);obtain ⟨elt,tg,sc,p1,p2,p3,p4,p5,p6,eb,hc⟩:=hb;obtain ⟨fc,fdc,Fc,mc,bc⟩:=TO.defs _ _ dF;rw [eb];exact wpAny_mono (bG (bQ5 (bB6 G (hc _ _) rfl Fr (wpAny_mono (iU (FF fc fdc Fc) G.rm mc Fc.kp bc (bU (aM 59) G _) (by decide) hg hA rfl R Fr (hv _ w u h p2 p3) hp) (fun _ _ z=>z) fun ex s' z=>z.rz Fr)))) (fun _ _ z=>z) hE
def bQ6 {n:Int} {f:Addr} {fd:FuncData} (F:Fun S.K "problems_of" "problems_of" (top 51) f fd):FnR S (d+14) f fd (parsOf (top 51)) C (some n) (bB7 n) :=
 tI TO dP rfl (by kernel_rfl) (by kernel_rfl) cC2 bP (by kernel_rfl) (fun k w u h p2 p3=>by kernel_rfl) (fun f fd F=>aS7 (d:=d) TO XE F) F
def bB9 {f:Addr} {fd:FuncData} (F:Fun S.K "problems_of" "problems_of" (top 51) f fd):FnR S (d+14) f fd (parsOf (top 51)) P none bB8 :=
 tI TO dP rfl (by kernel_rfl) (by kernel_rfl) cC3 bP (by kernel_rfl) (fun k w u h p2 p3=>by kernel_rfl) (fun f fd F=>zT (d:=d) TO XE F) F
def bQ7 {n:Int} {f:Addr} {fd:FuncData} (F:Fun S.K "deeds_of" "deeds_of" (top 52) f fd):FnR S (d+14) f fd (parsOf (top 52)) C (some n) (bB7 n) :=
 tI TO dD rfl (by kernel_rfl) (by kernel_rfl) cC2 bDe (by kernel_rfl) (fun k w u h p2 p3=>by kernel_rfl) (fun f fd F=>aS7 (d:=d) TO XE F) F
def bC0 {f:Addr} {fd:FuncData} (F:Fun S.K "deeds_of" "deeds_of" (top 52) f fd):FnR S (d+14) f fd (parsOf (top 52)) P none bB8 :=
 tI TO dD rfl (by kernel_rfl) (by kernel_rfl) cC3 bDe (by kernel_rfl) (fun k w u h p2 p3=>by kernel_rfl) (fun f fd F=>zT (d:=d) TO XE F) F
end K45

namespace K45
open PySem PySem.Spec PyProof.Rows L2 DL CI SJ
abbrev sA:Stmt:=top 92
def bA:∃ p1 p2 p3 p4 p5 p6 p7 p8 p9 q1 q2 q3 kd,aN sA=[.Try [.Expr (.Call (.Name "look_over" p1) [.Name "_law_history_here" p2] [] p3) p4] [.ExceptHandler (some (.Name "NoHistory" p5)) (some "e") [.Return (some (.Attribute (.Name "e" p6) "at" p7)) p8] p9] [] [] q1,.Return (some (.Constant .none kd q2)) q3]:=⟨_,_,_,_,_,_,_,_,_,_,_,_,_,rfl⟩
def atB (n:Int) (w:PyData):XS:=fun δ h=>match δ with
 | [some (.d x),_]=>if peq x w=true then some (.rt (.d (.int n)),h) else none
 | _=>none
def bQ8 {n:Int} {w:PyData} {δ:DSt} {h h':aA} {fl:Fl} (e:atB n w δ h=some (fl,h')):(∃ y,δ=[some (.d w),y])/\fl=.rt (.d (.int n))/\h'=h:=by
 unfold atB at e;split at e
 ·rename_i x y;obtain ⟨q,e⟩:=aG e;cases e;exact ⟨⟨y,by rw [nX q]⟩,rfl,rfl⟩
 ·cases e
variable {S:Sx} {C J gI P:Addr} {b:Bool} {d:Nat} (TO:TopOk (TT b) S) (XE:Er S C J gI P)
include TO XE
def cC4 {n:Int} {w:PyData} (hb:BadH n w) {f:Addr} {fd:FuncData} (F:Fun S.K "_law_at" "_law_at" sA f fd):FnS S (d+13) f fd (parsOf sA) (toW (kD sA (atB n w))):=by
 refine wV F fun {A L} hr=>?_;intro κ M δ h s fl h' R Fr e;obtain ⟨⟨y,rfl⟩,rfl,rfl⟩:=bQ8 e;obtain ⟨l,hA⟩:=kR Fr;have G:=cZ (st:=sA) (q:="_law_at") (L:=L) (f:=f) (cd:=fd.code) (x:="_law_at") TO (eB TO (d+12)) hr (fun _ z=>nomatch z);obtain ⟨p1,p2,p3,p4,p5,p6,p7,p8,p9,q1,q2,q4,kd,eb⟩:=bA;obtain ⟨fc,fdc,Fc,mc,bc⟩:=TO.defs _ _ (dLo b);have gL:Gl (cxF S sA "_law_at" L f fd.code A) "look_over":=show Env.kindOf _ _=_ by kernel_rfl
 have gH:Gl (cxF S sA "_law_at" L f fd.code A) "NoHistory":=show Env.kindOf _ _=_ by kernel_rfl
 have hi:(cxF S sA "_law_at" L f fd.code A).N[1]?=some ("e":Str):=show (aZ sA)[1]?=some ("e":Str) by kernel_rfl
 have hk:(cxF S sA "_law_at" L f fd.code A).env.scope.names.lookup ("e":Str)=some .local:=show (defScope sA).names.lookup _=_ by kernel_rfl
 rw [eb];refine wpAny_execs_cons (tA (L:=L) Fr (bG (kO Fr (cQ rfl _ _ _) (iU (vS (d:=d) TO XE Fc) G.rm mc Fc.kp bc (bU (aM 59) G _) (by decide) gL hA (by kernel_rfl) R Fr (show _=some ([.d w],h') by kernel_rfl) ⟨w,rfl,hb⟩))) rfl fun {M1 s1 ea} l1 Y=>?_);refine tC Y XE.O.bound XE.eH (by decide) gH hi hk (h2:=h') fun {κ1 M2 s2 oe vs} o1 l2 R2 F2 lk zo hcl hk1 hv hat=>?_;obtain ⟨D,oD,q1,q2,q3⟩:=hat n rfl;refine wpAny_execs_cons (wpAny_Return_some (bG6 F2 R2 lk zo hcl hv q1 q2 q3 XE.XC XE.Z.Y hk (by decide +kernel) fun t k=>?_));exact ⟨κ1,M2,_,o1,l2,R2.tok k,F2,fun {κ3 s3} o3 R3 F3=>⟨κ3,M2,o3,l1.trans l2,R3,show RepW S M2 (.d (.int n)) _ from wi.mpr ⟨t,rfl⟩⟩⟩
end K45

namespace DL
open PySem PySem.Spec PyProof.Rows L2 CI
section
variable {X:Cx} {κ:Kp} {M:Mp} {h h' h1:aA} {s:Shared} {δ δ1:DSt} {x n:Str} {C CJ ea:Addr} {oe:Obj} {A':Around} {E:Value->Shared->Prop} {u0:Value} {b:Bool} {p1 p2 p3 pos:Pos} {v:Evs} {st':Sta} {d:Nat} {t:Stmt} {r:List Stmt} {Q:Flow->Shared->Prop}
def Mem.un {S:Sx} (R:Mem (Sh S true) κ M h s):Mem S κ M h s:=by
 have:=Mem.sh (S:=Sh S true) (b:=S.hm) R;exact this
def Fra.un (F':Fra (X.sh true A') κ M δ) (hk:Hk X.A M) (hf:A'.frames=X.A.frames):Fra X κ M δ:=by
 have:=Fra.sh (X:=X.sh true A') (b:=X.S.hm) F' hk hf.symm;exact this
def bQ9 {M0:Mp} (S:Snd v) (G':Good (X.sh true A') st' d) (hf:A'.frames=X.A.frames) (hk:Hk A' M) (R:Mem X.S κ M h s) (F:Fra X κ M δ) (e:v.S st' t δ h=some (.nx δ1,h1))
  (q:∀ {κ1 M1 s1},Own X κ κ1->Le M M1->Mem X.S κ1 M1 h1 s1->Fra X κ1 M1 δ1->Wp X.S A' (execs r X.env) Q NE s1):Wp X.S A' (execs (t::r) X.env) Q NE s:=by
 refine wpAny_execs_cons (wpAny_mono (S.S G' t R.sh (F.sh hk hf) e) (fun f s1 ⟨κ1,M1,o1,l1,R1,q1⟩=>?_) fun _ _ z=>z.elim);cases f with
 | next=>exact q o1 l1 R1.un (Fra.un q1 (F.hk.go l1) hf)
 | _=>exact q1.elim
def bR0 {A:Around} {a:Expr} {j:Nat} {px:Pos} (F:Fra X κ M δ) (hi:X.N[j]?=some x) (hk:X.env.scope.names.lookup x=some .local) (hx:n≠x) (hs:swapsWith a (some (.Name x px)) pos.line X.env=pure false) (U:Lk X κ n u0) (ka:Wp X.S A (eval a X.env) (Qs X κ M h b) E s)
  (q:∀ {κ1 M1 s1},Own X κ κ1->Le M M1->Mem X.S κ1 M1 h s1->Fra X κ1 M1 (δ.set j (some (.d (.bool b))))->Lk X κ1 n u0->Wp X.S A (execs r X.env) Q E s1):Wp X.S A (execs (.Assign [.Name x px] a pos::r) X.env) Q E s:=by
 refine wpAny_execs_cons (wpAny_Assign_Name (wpAny_mono ka (fun u s1 ⟨e,M1,l1,R⟩=>?_) fun _ _ z=>z) hs);subst e;refine aR9 (F.go l1) R hk fun s2 o m o' h1 d d' R2 sb=>q xN l1 R2 ((F.go l1).at1 hi hk h1 d d' fun w z=>⟨_,rfl,by cases z;exact wb.mpr rfl⟩) ?_;obtain ⟨o1,m1,k1,k2,k3⟩:=U;rw [h1] at k1;cases k1;have em:m1=m:=by
  obtain ⟨es,ep,e1,_,e3⟩:=k2;obtain ⟨es',ep',e1',_,e3'⟩:=d;rw [e1] at e1';cases e1';exact funext fun y=>(e3 y).symm.trans (e3' y)
 subst em;exact ⟨o',_,dY,d',by simp [hx,k3]⟩
def bC1 {c:Expr} {f:XR W} {j:Int} {D:Addr} {oD:Obj} {vs:Array Value} (hf:A'.frames=X.A.frames) (hk':Hk A' M) (rm:Room (Sh X.S true) d A') (hc:SE (X.sh true A') c f) (e:f δ h=some (.d (.int j),h)) (F:Fra X κ M δ) (R:Mem X.S κ M h s) (U:Lk X κ n (.ref ea)) (zo:M.Z ea=some oe) (hcl:oe.cls=.ref C) (hv:oe.data=.fields vs) (hd:oe.dict=some D) (zD:M.Z D=some oD) (ha:AtO D oD j) (Z:XCls X.S.K C) (Y:ECls X.S.K C CJ) (hk:X.env.scope.names.lookup n=some .local) (hn:aY n=true) (hb:behindInMarks .Eq c=false) :
  Wp X.S A' (eval (.Compare (.Attribute (.Name n p1) "at" p2) [.Eq] [c] p3) X.env) (Qs X κ M h true) NE s:=by
 refine wpAny_Compare1 (bG6 F R U zo hcl hv hd zD ha Z Y hk hn fun t k=>?_) hb;refine thn (hc (R.tok k).sh (F.sh hk' hf) e) fun v s2 ⟨M2,l2,R2,r2⟩=>?_;obtain ⟨q1,q2⟩:=gN (S:=Sh X.S true) (A:=A') (E:=NE) (op:=.Eq) (p:=(true,h)) rm R2 (x:=.d (.int j)) (wi.mpr ⟨t,rfl⟩) r2 (by simp [dZ,xEq,ref,aK,PyData.eqv]);exact thn q2 fun u s3 ⟨M3,l3,R3,r3⟩=>⟨wb.mp r3,M3,l2.trans l3,R3.un⟩
def bR1 {j:Nat} {w:W} {Q:Value->Shared->Prop} (F:Fra X κ M δ) (R:Mem X.S κ M h s) (hi:X.N[j]?=some x) (e:δ[j]?=some (some w)) (hv:Vis X.env.scope x) (hn:aY x=true) (q:∀ u,RepW X.S M w u->Q u s):Wp X.S A' (eval (.Name x pos) X.env) Q E s:=by
 unfold aY at hn;simp only [Bool.and_eq_true,Bool.not_eq_true'] at hn;obtain ⟨m,hns,hl⟩:=F.ns R;obtain ⟨u,r,l⟩:=hl j x w hi e hv;rcases l with ⟨hk,hm⟩ | ⟨hk,c,o,hc,ho,hd⟩
 ·exact wpAny_Name (wpAny_loadName_local F.ok.kind hk hns hm (q u r)) hn.1
 ·have hcell:s.heap.IsCell c (some u):=⟨o,(R.k _ _ _ ho).1 rfl,hd⟩;rcases hk with hk | hk
  ·exact wpAny_Name (wpAny_loadName_cell F.ok.kind hk hc hcell (q u r)) hn.1
  ·exact wpAny_Name (wpAny_loadName_free F.ok.kind hk hc hcell (q u r) hn.2.1) hn.1
def bR2 {a:Expr} {j i:Nat} {xs:List PyData} {z:PyData} {px apos ep:Pos} (F:Fra X κ M δ) (R:Mem X.S κ M h s) (hi:X.N[j]?=some x) (e:δ[j]?=some (some (.c i))) (hv:Vis X.env.scope x) (hn:aY x=true) (ei:h[i]?=some (.l xs)) (hz:xs.length < sizeLine) (hl:(apos.endLine==pos.line)=true) (hns:aI a=true)
  (hs:swapsWith (.Call (.Attribute (.Name x px) "append" apos) [a] [] pos) none ep.line X.env=pure false) (ka:Wp X.S A' (eval a X.env) (fun u s1=>∃ M1,Le M M1/\Mem X.S κ M1 h s1/\Rep X.S M1.Z z u) NE s)
  (q:∀ {M1 s1},Le M M1->Mem X.S κ M1 (h.set i (.l (xs++[z]))) s1->Wp X.S A' (execs r X.env) Q NE s1):Wp X.S A' (execs (.Expr (.Call (.Attribute (.Name x px) "append" apos) [a] [] pos) ep::r) X.env) Q NE s:=by
 refine wpAny_execs_cons (wpAny_Expr_any ?_ (quiet F) hs);have hst:[a].all aI=true:=by simp [hns]
 refine wpAny_Call_method_late (mZ rfl _ _) (aJ2 hst (show 1 < 29 by decide) _ _) hl rfl (bR1 F R hi e hv hn fun u ru=>?_);obtain ⟨p,ep',rfl⟩:=ru;obtain ⟨us,n,ho,_⟩:=R.cel i p _ ep' ei;refine ⟨"list",_,PySem.F.plainAttrs_list,PySem.F.slot_list_append,PySem.F.type_list_append,(cD ho).isList.typeIs,fun c ec=>by cases ec;exact ⟨_,ho,rfl⟩,?_⟩;rw [bS a hns];refine Calls.callWith_builtin (by rfl) (Calls.evalArgs_plain ?_);show Wp _ _ (spliced ((false,eval a X.env)::backTo pos (starEach [] X.env))) _ _ s;refine Calls.spliced_cons (thn ka fun u s1 ⟨M1,l1,R1,r1⟩=>Calls.spliced_nil ?_);exact thn (aJ0 R1 (l1.at ep') ei hz r1) fun _ s2 ⟨M2,l2,R2,_⟩=>q (l1.trans l2) R2
end
end DL

namespace K45
open PySem PySem.Spec PyProof.Rows L2 DL CI SJ
abbrev sR:Stmt:=top 93
def sRk (k:Nat):Stmt:=(aN sR).getD k fR
def tR:Stmt:=(fB (sRk 1)).getD 0 fR
noncomputable def tB:Stmt->List Stmt
 | .Try b _ _ _ _=>b
 | _=>[]
noncomputable def tH:Stmt->List ExceptHandler
 | .Try _ h _ _ _=>h
 | _=>[]
noncomputable def hB:ExceptHandler->List Stmt
 | .ExceptHandler _ _ b _=>b
def cR:Expr:=cI ((tB tR).getD 0 fR)
def aH:Stmt:=match (tH tR)[0]? with
 | some h=>(hB h).getD 1 fR
 | none=>fR
def aP:Stmt:=match (tH tR)[1]? with
 | some h=>(hB h).getD 0 fR
 | none=>fR
def bR:∃ q,aN sR=[sRk 0,.For (fT (sRk 1)) (fI (sRk 1)) [tR] [] q,sRk 2]:=⟨_,rfl⟩
def bT:∃ i1 i2 i3 i4 i5 i6 i7 i8 i9 j1 j2 j3 j4 j5 j6 j7 j8 k1 k2 k3 k4 k5 k6 k7 k8 k9 l1 l2 l3 l4 l5 l6 n7 n8 s1,tR=.Try [.If cR [.Expr (.Call (.Name "problems_of" i1) [.Name "_law_history_here" i2,.Name "_law_promise" i3] [] i4) i5] [.Expr (.Call (.Name "deeds_of" i6) [.Name "_law_history_here" i7,.Name "_law_promise" i8] [] i9) j1] j2,s1]
   [.ExceptHandler (some (.Name "NoHistory" j3)) (some "e") [
     .Assign [.Name "_law_right" j4] (.BoolOp .And [.Call (.Name "isinstance" j5) [.Name "e" j6,.Name "JudgeError" j7] [] j8,.UnaryOp .Not (.Call (.Name "isinstance" k1) [.Name "e" k2,.Name "NoPromise" k3] [] k4) k5,.Compare (.Attribute (.Name "e" k6) "at" k7) [.Eq] [.Call (.Name "_law_at" k8) [.Name "_law_history_here" k9] [] l1] l2] l3) l4,
     aH] l5,
    .ExceptHandler (some (.Name "NoPromise" l6)) (some "e") [aP] n7]
   [] [] n8:=⟨_,_,_,_,_,_,_,_,_,_,_,_,_,_,_,_,_,_,_,_,_,_,_,_,_,_,_,_,_,_,_,_,_,_,_,rfl⟩
def bAP:∃ l7 l8 m1 m2 m3 m4 m5 m6 m7 m8 m9 n1 n2 n3 n4 n5 n6,aP=.Expr (.Call (.Attribute (.Name "_law_kinds" l7) "append" l8) [.Subscript (.List [.Constant (.str "promise") m1 m2,.Constant (.str "wrong") m3 m4] m5) (.Call (.Name "int" m6) [.UnaryOp .Not (.Call (.Name "isinstance" m7) [.Name "e" m8,.Name "JudgeError" m9] [] n1) n2] [] n3) n4] [] n5) n6/\(l8.endLine==n5.line)=true:=⟨_,_,_,_,_,_,_,_,_,_,_,_,_,_,_,_,_,rfl,rfl⟩
def dA (b:Bool):(TT b).defs "_law_at"=some sA:=by kernel_rfl
def trF (k:Bool) (w u:PyData) (wd:Str):XS:=fun δ h=>match δ with
 | [some (.d x),some (.d y),some (.c j),some (.d (.int a)),_,r]=>if (peq x w&&(peq y u&&(a==0||a==1)))=true then (match h[j]? with
   | some (.l xs)=>if xs.length < 100 then some (.nx [some (.d x),some (.d y),some (.c j),some (.d (.int a)),none,if k=true then some (.d (.bool true)) else r],h.set j (.l (xs++[.str wd]))) else none
   | _=>none) else none
 | _=>none
def aS8 {k:Bool} {w u:PyData} {wd:Str} {δ:DSt} {h h':aA} {fl:Fl} (e:trF k w u wd δ h=some (fl,h')):∃ j a y r xs,δ=[some (.d w),some (.d u),some (.c j),some (.d (.int a)),y,r]/\(a=0\/a=1)/\h[j]?=some (.l xs)/\xs.length < 100 /\
  fl=.nx [some (.d w),some (.d u),some (.c j),some (.d (.int a)),none,if k=true then some (.d (.bool true)) else r]/\h'=h.set j (.l (xs++[.str wd])):=by
 unfold trF at e;split at e
 ·rename_i x y j a z r;obtain ⟨q,e⟩:=aG e;simp only [Bool.and_eq_true,Bool.or_eq_true,beq_iff_eq] at q;split at e
  ·rename_i xs ej;obtain ⟨hl,e⟩:=aG e;cases e;refine ⟨j,a,z,r,xs,?_,q.2.2,ej,hl,?_,rfl⟩<;>rw [nX q.1,nX q.2.1]
  ·cases e
 ·cases e
def rC (b:Bool) (d:Nat) (δ:DSt) (h:aA):(evs 59).T (stA b d "_law_refused" sR) cR δ h=xC1 CmpOp.Eq (aB 3) (YJ 0) δ h:=by kernel_rfl
def rAH (d:Nat) (δ:DSt) (h:aA):(evs 60).S (stA true d "_law_refused" sR) aH δ h=YP (xb (aB 2) (YA (Y1 (xb (aO (xPl (Y2 (YS "wrong") (YS "history")))) (YXx (YK1 wD (aB 5)))))) δ h) (YNx δ):=by kernel_rfl
def Er.sh {S:Sx} {C J gI P:Addr} {b:Bool} (XE:Er S C J gI P):Er (Sh S b) C J gI P :=
 ⟨XE.O,⟨XE.Z.FB,XE.Z.Y,XE.Z.mJ,XE.Z.ga,XE.Z.rd,XE.Z.fc⟩,XE.XC,XE.mJ,XE.mP,XE.OP,XE.XP,XE.eH,XE.ePH,XE.eP,XE.kJ,XE.kP,XE.kPJ,XE.fn⟩
variable {S:Sx} {C J gI P:Addr} {d:Nat} (TO:TopOk T S) (XE:Er S C J gI P)
include TO XE
def vT {f:Addr} {cd:Value} {A:Around} {L:Addr} {κ:Kp} {M:Mp} {h:aA} {s:Shared} {w u:PyData} {a:Int} {j:Nat} {y r:Option W} {Cx:Addr} {nA:Option Int} {pre:List W->aA->Prop} {i1 i2 i3 i4 i5 i6 i7 i8 i9 j1 j2:Pos} {s1:Stmt} (hr:Room S (d+15) A) (ha:a=0\/a=1)
  (hP:∀ f fd,Fun S.K "problems_of" "problems_of" (top 51) f fd->FnR S (d+14) f fd (parsOf (top 51)) Cx nA pre) (hD:∀ f fd,Fun S.K "deeds_of" "deeds_of" (top 52) f fd->FnR S (d+14) f fd (parsOf (top 52)) Cx nA pre) (hp:pre [.d w,.d u] h)
  (R:Mem S κ M h s) (F:Fra (cxF S sR "_law_refused" L f cd A) κ M [some (.d w),some (.d u),some (.c j),some (.d (.int a)),y,r]) :
  Wp S (cxF S sR "_law_refused" L f cd A).A (execs [.If cR [.Expr (.Call (.Name "problems_of" i1) [.Name "_law_history_here" i2,.Name "_law_promise" i3] [] i4) i5] [.Expr (.Call (.Name "deeds_of" i6) [.Name "_law_history_here" i7,.Name "_law_promise" i8] [] i9) j1] j2,s1] (cxF S sR "_law_refused" L f cd A).env) (fun _ _=>False) (Rt (cxF S sR "_law_refused" L f cd A) κ M h Cx nA) s:=by
 obtain ⟨l,hA⟩:=kR F;have G:=cZ (st:=sR) (q:="_law_refused") (L:=L) (f:=f) (cd:=cd) (x:="_law_refused") TO (eB TO (d+14)) hr (fun _ z=>nomatch z);obtain ⟨fP,fdP,FP,mP,bP⟩:=TO.defs _ _ dP;obtain ⟨fD,fdD,FD,mD,bD⟩:=TO.defs _ _ dD;have gP:Gl (cxF S sR "_law_refused" L f cd A) "problems_of":=show Env.kindOf _ _=_ by kernel_rfl
 have gD:Gl (cxF S sR "_law_refused" L f cd A) "deeds_of":=show Env.kindOf _ _=_ by kernel_rfl
 rcases ha with rfl | rfl
 ·refine bG (bG5 (h1:=h) (aM 59) G R F (b:=true) (by rw [rC];simp [xEq,ref,PyData.eqv]) fun R1 F1=>?_);exact bG (kO F1 (cQ rfl _ _ _) (iU (hP _ _ FP) G.rm mP FP.kp bP (bU (aM 59) G _) (by decide) gP hA (by kernel_rfl) R1 F1 (show _=some ([.d w,.d u],h) by kernel_rfl) hp))
 ·refine bG (bG5 (h1:=h) (aM 59) G R F (b:=false) (by rw [rC];simp [xEq,ref,PyData.eqv]) fun R1 F1=>?_);exact bG (kO F1 (cQ rfl _ _ _) (iU (hD _ _ FD) G.rm mD FD.kp bD (bU (aM 59) G _) (by decide) gD hA (by kernel_rfl) R1 F1 (show _=some ([.d w,.d u],h) by kernel_rfl) hp))
end K45

namespace K45
open PySem PySem.Spec PyProof.Rows L2 DL CI SJ
def bR3 {n:Int} {w:PyData} (hw:peq w w=true) (h:aA):kD sA (atB n w) [.d w] h=some (.int n,h):=by
 unfold kD;rw [if_pos ⟨by kernel_rfl,by kernel_rfl⟩];have hd:cH (aZ sA) [.d w]=[some (.d w),none]:=by kernel_rfl
 rw [hd];simp [atB,hw]
def bR4 (d:Nat) (k9:Pos):aX (evs 59) (stA true d "_law_refused" sR) [.Name "_law_history_here" k9]=Y1 (aB 0):=by kernel_rfl
variable {S:Sx} {C J gI P:Addr} {d:Nat} (TO:TopOk T S) (XE:Er S C J gI P)
include TO
def aS9 {f L:Addr} {cd:Value} {A:Around} {x:Value} (hr:Room S (d+15) A):Good ((cxF S sR "_law_refused" L f cd A).sh true ((cxF S sR "_law_refused" L f cd A).A.mark (some x))) (stA true (d+14) "_law_refused" sR) (d+14) :=
 cZ (S:=Sh S true) (A:=A.mark (some x)) (st:=sR) (q:="_law_refused") (L:=L) (f:=f) (cd:=cd) (x:="_law_refused") (t:=TT true) (TopOk.sh TO) (eB (TopOk.sh TO) (d+14)) ⟨fun z=>(nomatch z),hr.dp,hr.un⟩ (fun _ z=>nomatch z)
include XE
def aT1 {n:Int} {w u:PyData} (hb:BadH n w) (hw:peq w w=true) {f L:Addr} {cd:Value} {A:Around} (hr:Room S (d+15) A):SS (cxF S sR "_law_refused" L f cd A) tR (trF true w u "history"):=by
 intro κ M δ h s fl h' R Fr e;obtain ⟨j,a,y,r,xs,rfl,ha,ej,hl,rfl,rfl⟩:=aS8 e;obtain ⟨l,hA⟩:=kR Fr;have h0:S.hm=false:=TO.hm.symm;obtain ⟨i1,i2,i3,i4,i5,i6,i7,i8,i9,j1,j2,j3,j4,j5,j6,j7,j8,k1,k2,k3,k4,k5,k6,k7,k8,k9,l1,l2,l3,l4,l5,l6,n7,n8,s1,eT⟩:=bT;have gH:Gl (cxF S sR "_law_refused" L f cd A) "NoHistory":=show Env.kindOf _ _=_ by kernel_rfl
 have gJ:Gl (cxF S sR "_law_refused" L f cd A) "JudgeError":=show Env.kindOf _ _=_ by kernel_rfl
 have gP:Gl (cxF S sR "_law_refused" L f cd A) "NoPromise":=show Env.kindOf _ _=_ by kernel_rfl
 have gi:Gl (cxF S sR "_law_refused" L f cd A) "isinstance":=show Env.kindOf _ _=_ by kernel_rfl
 have hi:(cxF S sR "_law_refused" L f cd A).N[4]?=some ("e":Str):=show (aZ sR)[4]?=some ("e":Str) by kernel_rfl
 have hk:(cxF S sR "_law_refused" L f cd A).env.scope.names.lookup ("e":Str)=some .local:=show (defScope sR).names.lookup _=_ by kernel_rfl
 have hir:(cxF S sR "_law_refused" L f cd A).N[5]?=some ("_law_right":Str):=show (aZ sR)[5]?=some ("_law_right":Str) by kernel_rfl
 have hkr:(cxF S sR "_law_refused" L f cd A).env.scope.names.lookup ("_law_right":Str)=some .local:=show (defScope sR).names.lookup _=_ by kernel_rfl
 have mi:S.mg "isinstance"=none:=TO.bl _ (by kernel_rfl);obtain ⟨fc,fdc,Fc,mc,bc⟩:=TO.defs _ _ (dA false);rw [eT];refine tA (L:=L) Fr (vT TO hr ha (fun f fd F=>bQ6 (d:=d) TO XE F) (fun f fd F=>bQ7 (d:=d) TO XE F) ⟨w,u,rfl,hb⟩ R Fr) rfl fun {M1 s1' ea} lM1 Y=>?_;refine tC Y XE.O.bound XE.eH (by decide) gH hi hk (h2:=h.set j (.l (xs++[.str "history"]))) fun {κ1 M2 s2 oe vs} o1 lM2 R2 F2 lk zo hcl hk1 hv hat=>?_;obtain ⟨D,oD,q1,q2,q3⟩:=hat n rfl;have hk2:=hk1 h0;have G':=aS9 (d:=d) TO (f:=f) (L:=L) (cd:=cd) (x:=.ref ea) hr;have FA:FnG (Sh S true) (d+14) "_law_at" (toW (kD sA (atB n w))):=.inr ⟨fc,fdc,_,mc,Fc.kp,bc,(cC4 (d:=d) (b:=true) (TopOk.sh TO) XE.sh hb Fc).mono (by omega)⟩;have ex:∀ δ:DSt,δ[0]?=some (some (.d w))->xb (aX (evs 59) (stA true (d+14) "_law_refused" sR) [.Name "_law_history_here" k9]) (fun ws=>fun _ h=>toW (kD sA (atB n w)) ws h) δ h=some (.d (.int n),h):=fun δ e=>by rw [bR4];simp [xb,aB,e,bR3 hw]
 refine bR0 (h:=h) (M:=M2) (j:=5) (b:=true) F2 hir hkr (by decide) (cQ rfl _ _ _) lk ?_ fun {κ3 M3 s3} o3 lM3 R3 F3 U3=>?_
 ·refine aS3 (M0:=M2) [(_,true),(_,true),(_,true)] (by simp) .refl R2 fun q hq M s lM RM=>?_;simp only [List.mem_cons,List.mem_singleton,List.not_mem_nil,or_false] at hq;rcases hq with rfl | rfl | rfl
  ·exact xO (F2.go lM) RM lk (lM.z _ _ zo) hcl XE.XC gi mi hk (by decide +kernel) gJ (by decide +kernel) XE.mJ XE.kJ
  ·exact aS2 (b:=false) (xO (F2.go lM) RM lk (lM.z _ _ zo) hcl XE.XC gi mi hk (by decide +kernel) gP (by decide +kernel) XE.mP XE.kP)
  ·exact bC1 rfl (hk2.go lM) G'.rm (aJ1 (aM 59) G' (by kernel_rfl) FA) (ex _ (by simp)) (F2.go lM) RM lk (lM.z _ _ zo) hcl hv q1 (lM.z _ _ q2) q3 XE.XC XE.Z.Y hk (by decide +kernel) rfl
 ·refine bQ9 (M0:=M3) (δ1:=[some (.d w),some (.d u),some (.c j),some (.d (.int a)),none,some (.d (.bool true))]) (h1:=h.set j (.l (xs++[.str "history"]))) (aM 60) G' rfl (hk2.go lM3) R3 F3 ?_ fun {κ4 M4 s4} o4 lM4 R4 F4=>?_
  ·rw [rAH];simp [xb,aB,wD,aO,xPl,gM,xIx,ref,atI,tT,jT,ej,show xs.length < sizeLine by unfold sizeLine;omega,show 2<=sizeLine by decide,show ixN 2 1=some 1 by rfl]
  ·exact wpAny_execs_nil ⟨κ4,M4,_,o1.trans (o3.trans o4),lM2.trans (lM3.trans lM4),R4,F4,fun {κ5 s5} o5 R5 F5=>⟨κ5,M4,o5,lM1.trans (lM2.trans (lM3.trans lM4)),R5,F5⟩⟩
end K45

namespace DL
open PySem PySem.Spec PyProof.Rows L2 CI
section
variable {X:Cx} {κ:Kp} {M:Mp} {h:aA} {s:Shared} {δ:DSt} {A':Around} {b:Bool} {p pos:Pos} {d:Nat} {a sl:Expr}
def Qi (X:Cx) (κ:Kp) (M:Mp) (h:aA) (i:Int) (u:Value) (s:Shared):Prop:=(∃ t,u=.int i t)/\∃ M',Le M M'/\Mem X.S κ M' h s
def bR5 (F:Fra X κ M δ) (R:Mem X.S κ M h s) (hg:Gl X "int") (mi:X.S.mg "int"=none) (hst:aI a=true) (k:Wp X.S A' (eval a X.env) (Qs X κ M h b) NE s):Wp X.S A' (eval (.Call (.Name "int" p) [a] [] pos) X.env) (Qi X κ M h (if b=true then 1 else 0)) NE s:=by
 refine wpAny_Call_Name_kw (zS (u:=.type "int") F R hg mi (by decide +kernel) (by decide +kernel) ?_);refine PyProof.Rows.callWith_type1 ?_ (bS a hst) rfl;rw [bS a hst];show Wp _ _ (spliced ((false,eval a X.env)::backTo pos (starEach [] X.env))) _ _ s;refine Calls.spliced_cons (thn k fun u s1 ⟨e,M1,l1,R1⟩=>Calls.spliced_nil ?_);subst e;exact call_int_bool ⟨⟨_,rfl⟩,M1,l1,R1.tok _⟩
def bC2 {f:XR W} {w0:W} {i:Int} {z:PyData} (hf:A'.frames=X.A.frames) (hk':Hk A' M) (rm:Room (Sh X.S true) d A') (ha:SE (X.sh true A') a f) (e:f δ h=some (w0,h)) (ez:xIx w0 (.d (.int i)) h=some (.d z,h)) (F:Fra X κ M δ) (R:Mem X.S κ M h s) (hs:tS sl=false)
  (k:∀ {M1 s1},Le M M1->Mem X.S κ M1 h s1->Wp X.S A' (eval sl X.env) (Qi X κ M1 h i) NE s1):Wp X.S A' (eval (.Subscript a sl pos) X.env) (fun u s1=>∃ M1,Le M M1/\Mem X.S κ M1 h s1/\Rep X.S M1.Z z u) NE s :=
 Subscript_ (thn (ha R.sh (F.sh hk' hf) e) fun u s1 ⟨M1,l1,R1,r1⟩=>thn (k l1 R1.un) fun v s2 ⟨⟨t,ev⟩,M2,l2,R2⟩ =>
  thn (bE0 (S:=Sh X.S true) rm R2.sh (r1.go l2) (wi.mpr ⟨t,ev⟩) ez (rU hs)) fun u3 s3 ⟨M3,l3,R3,r3⟩=>⟨M3,l1.trans (l2.trans l3),R3.un,by
   have r3:Rep (Sh X.S true) M3.Z z u3:=r3;have:=Rep.sh (S:=Sh X.S true) (b:=X.S.hm) r3;exact this⟩)
end
end DL

namespace K45
open PySem PySem.Spec PyProof.Rows L2 DL CI SJ
variable {S:Sx} {C J gI P:Addr} {d:Nat} (TO:TopOk T S) (XE:Er S C J gI P)
include TO XE
def aT2 {hs:List Dd} {w u:PyData} (ew:w=.tuple (hs.map Dd.dat)) (ok:HOk hs) (hb:BadP u) {f L:Addr} {cd:Value} {A:Around} (hr:Room S (d+15) A):SS (cxF S sR "_law_refused" L f cd A) tR (trF false w u "promise"):=by
 intro κ M δ h s fl h' R Fr e;obtain ⟨j,a,y,r,xs,rfl,ha,ej,hl,rfl,rfl⟩:=aS8 e;obtain ⟨l,hA⟩:=kR Fr;have h0:S.hm=false:=TO.hm.symm;obtain ⟨i1,i2,i3,i4,i5,i6,i7,i8,i9,j1,j2,j3,j4,j5,j6,j7,j8,k1,k2,k3,k4,k5,k6,k7,k8,k9,l1,l2,l3,l4,l5,l6,n7,n8,s1,eT⟩:=bT;obtain ⟨y7,y8,m1,m2,m3,m4,m5,m6,m7,m8,m9,n1,n2,n3,n4,n5,n6,eP,eL⟩:=bAP;have gH:Gl (cxF S sR "_law_refused" L f cd A) "NoHistory":=show Env.kindOf _ _=_ by kernel_rfl
 have gJ:Gl (cxF S sR "_law_refused" L f cd A) "JudgeError":=show Env.kindOf _ _=_ by kernel_rfl
 have gP:Gl (cxF S sR "_law_refused" L f cd A) "NoPromise":=show Env.kindOf _ _=_ by kernel_rfl
 have gi:Gl (cxF S sR "_law_refused" L f cd A) "isinstance":=show Env.kindOf _ _=_ by kernel_rfl
 have gn:Gl (cxF S sR "_law_refused" L f cd A) "int":=show Env.kindOf _ _=_ by kernel_rfl
 have hi:(cxF S sR "_law_refused" L f cd A).N[4]?=some ("e":Str):=show (aZ sR)[4]?=some ("e":Str) by kernel_rfl
 have hk:(cxF S sR "_law_refused" L f cd A).env.scope.names.lookup ("e":Str)=some .local:=show (defScope sR).names.lookup _=_ by kernel_rfl
 have hik:(cxF S sR "_law_refused" L f cd A).N[2]?=some ("_law_kinds":Str):=show (aZ sR)[2]?=some ("_law_kinds":Str) by kernel_rfl
 have hkk:Vis (cxF S sR "_law_refused" L f cd A).env.scope ("_law_kinds":Str):=.inl (show (defScope sR).names.lookup _=_ by kernel_rfl);have mi:S.mg "isinstance"=none:=TO.bl _ (by kernel_rfl);have mn:S.mg "int"=none:=TO.bl _ (by kernel_rfl);rw [eT];refine tA (L:=L) Fr (vT TO hr ha (fun f fd F=>bB9 (d:=d) TO XE F) (fun f fd F=>bC0 (d:=d) TO XE F) ⟨hs,u,by rw [ew],ok,hb⟩ R Fr) rfl fun {M1 s1' ea} lM1 Y=>?_;refine aS1 Y XE.O.bound XE.ePH (by decide) gH ?_;refine tC Y XE.mP XE.eP (by decide) gP hi hk (h2:=h.set j (.l (xs++[.str "promise"]))) fun {κ1 M2 s2 oe vs} o1 lM2 R2 F2 lk zo hcl hk1 hv hat=>?_;have hk2:=hk1 h0;have G':=aS9 (d:=d) TO (f:=f) (L:=L) (cd:=cd) (x:=.ref ea) hr;rw [eP];refine bR2 (z:=.str "promise") F2 R2 hik (e:=rfl) hkk (by decide +kernel) ej (Nat.lt_trans hl (by decide)) eL rfl (cQ rfl _ _ _) ?_ fun {M3 s3} lM3 R3=>?_
 ·refine bC2 (d:=d+14) (i:=0) (w0:=.d (.list [.str "promise",.str "wrong"])) rfl hk2 G'.rm ((aM 59).E G' _) (by kernel_rfl) (by kernel_rfl) F2 R2 rfl fun {M4 s4} lM4 R4=>?_;have F4:=F2.go lM4;exact bR5 (b:=false) F4 R4 gn mn rfl (aS2 (b:=true) (xO F4 R4 lk (lM4.z _ _ zo) hcl XE.XP gi mi hk (by decide +kernel) gJ (by decide +kernel) XE.mJ XE.kPJ))
 ·exact wpAny_execs_nil ⟨κ1,M3,_,o1,lM2.trans lM3,R3,F2.go lM3,fun {κ5 s5} o5 R5 F5=>⟨κ5,M3,o5,lM1.trans (lM2.trans lM3),R5,F5⟩⟩
end K45

namespace K45
open PySem PySem.Spec PyProof.Rows L2 DL CI SJ
def sqR (f1 f2:XS):XS:=fun δ h=>(f1 δ h).bind fun p=>(match p.1 with
  | .nx δ'=>f2 δ' p.2
  | f=>some (f,p.2))
def xP {X:Cx} {t:Stmt} {r:List Stmt} {f1 f2:XS} (h1:SS X t f1) (h2:SSs X r f2):SSs X (t::r) (sqR f1 f2):=aS4 h1 h2
def bfR (d:Nat) (tb:XS):XS:=sqR ((evs 60).S (stA false d "_law_refused" sR) (sRk 0)) (sqR (fun δ h=>(gG (evs 59) (stA false d "_law_refused" sR) (fT (sRk 1)) (fI (sRk 1)) δ h).bind fun p=>bQ ((evs 59).G (stA false d "_law_refused" sR) (fT (sRk 1))) (sqR tb fun δ h=>some (.nx δ,h)) p.1.2 p.1.1 p.1.1 δ p.2) (xSs (evs 60) (stA false d "_law_refused" sR) [sRk 2]))
theorem dR:T.defs "_law_refused"=some sR:=by kernel_rfl
def aT3 {S:Sx} {d:Nat} {tb:XS} (TO:TopOk T S) {f:Addr} {fd:FuncData} (F:Fun S.K "_law_refused" "_law_refused" sR f fd) (hT:∀ {A:Around} {L:Addr},Room S (d+15) A->SS (cxF S sR "_law_refused" L f fd.code A) tR tb):FnS S (d+15) f fd (parsOf sR) (toW (kD sR (bfR (d+14) tb))):=by
 refine wV F fun {A L} hr=>?_;have G:=cZ (st:=sR) (q:="_law_refused") (L:=L) (f:=f) (cd:=fd.code) (x:="_law_refused") TO (eB TO (d+14)) hr (fun _ z=>nomatch z);obtain ⟨q,eb⟩:=bR;rw [eb];exact xP ((aM 60).S G _) (xP (bE6 G.rm.hd (lA (aM 59) G _ _) ((aM 59).G G _) (xP (hT hr) (jH (aM 59) G [])) (hX (by kernel_rfl) _)) (jH (aM 60) G [sRk 2]))
def rb0 (d:Nat) (a b:Option W) (h:aA):(evs 60).S (stA false d "_law_refused" sR) (sRk 0) [a,b,none,none,none,none] h=some (.nx [a,b,some (.c h.length),none,none,none],h++[.l []]):=by kernel_rfl
def rb1 (d:Nat) (δ:DSt) (h:aA):gG (evs 59) (stA false d "_law_refused" sR) (fT (sRk 1)) (fI (sRk 1)) δ h=some (([.int 0,.int 1],none),h):=by kernel_rfl
def rb2 (d:Nat):(evs 59).G (stA false d "_law_refused" sR) (fT (sRk 1))=YG 3:=by kernel_rfl
def rb3 (d:Nat) (a b x y z:Option W) (w:W) (h:aA):xSs (evs 60) (stA false d "_law_refused" sR) [sRk 2] [a,b,some w,x,y,z] h=some (.rt w,h):=by kernel_rfl
def zU (d:Nat) {k:Bool} {w u:PyData} {wd:Str} (hw:peq w w=true) (hu:peq u u=true) (h:aA):kD sR (bfR d (trF k w u wd)) [.d w,.d u] h=some (.list [.str wd,.str wd],h):=by
 unfold kD;rw [if_pos ⟨by kernel_rfl,by kernel_rfl⟩];have hd:cH (aZ sR) [.d w,.d u]=[some (.d w),some (.d u),none,none,none,none]:=by kernel_rfl
 rw [hd];unfold bfR sqR;rw [rb0];simp only [bdi,bds,rb1,rb2];have fin:ends h (Fl.rt (W.c (List.length h)),h++[Cell.l [PyData.str wd,PyData.str wd]])=some (PyData.list [PyData.str wd,PyData.str wd],h):=by
  unfold ends;rw [if_pos (lC _ rfl (dC h))];simp
 cases k<;>simp [bQ,CI.condB,trF,hw,hu,rb3,fin]
end K45

namespace CI
open PySem PySem.Spec PyProof.Rows L2 DL
def fnL (t:Top) (d:Nat) (y:Str) (m:XF):Str->Option XF:=fun z=>if z=y then some m else fnT t (fun y=>aE t d y) z
def mL (t:Top) (d:Nat) (y:Str) (m:XF) (x:Str):XF:=match t.defs x with
 | some s=>tX t (fnL t d y m) (obT t (fun y=>callW t d y) (fun y=>callI t d y) fun y=>callM t d y) x s
 | none=>fun _ _=>none
def bC3 {S:Sx} {t:Top} {x y:Str} {s:Stmt} {m:XF} {f:Addr} {fd:FuncData} {k:Nat} (T:TopOk t S) (hs:t.defs x=some s) (F:Fun S.K x x s f fd) (hm:FnG S k y (toW m)) (hq:autoParam (t.qn x=none) ZR):FnS S (k+1) f fd (parsOf s) (toW (mL t k y m x)):=by
 have e:mL t k y m x=tX t (fnL t k y m) (obT t (fun y=>callW t k y) (fun y=>callI t k y) fun y=>callM t k y) x s:=by
  unfold mL;rw [hs]
 rw [e];have B:TabOk S k (fnT t fun y=>aE t k y) (obT t (fun y=>callW t k y) (fun y=>callI t k y) fun y=>callM t k y):=eB T k;refine bE9 (fun q' e=>by rw [hq] at e;cases e) T F ⟨fun z m' e=>?_,B.fnW,B.cls,B.om,B.fo⟩;unfold fnL at e;split at e
 ·rename_i hz;cases e;rw [hz];exact hm
 ·exact B.fn z m' e
end CI

namespace K45
open PySem PySem.Spec PyProof.Rows L2 DL CI SJ
def YLr (m:XF) (a b:XR W):XR W:=xb (Y2 a b) fun ws _ h=>(m ws h).bind fun p=>some (.d p.1,p.2)
@[simp] theorem cT4 (m:XF) (a b:XR W):YLr m a b=xb (Y2 a b) fun ws _ h=>(m ws h).bind fun p=>some (.d p.1,p.2):=rfl
@[simp] def pL (m:XF) (d:Nat) (x:DSt) (x_1:aA):Option (Fl×aA) :=
 YP (YP (xb (xC1 CmpOp.NotEq (YLr m (aB 11) (aB 3)) (aO (xPl (Y2 (YS "history") (YS "history"))))) (YOb (xC1 CmpOp.NotEq (YLr m (aB 11) (aB 8)) (aO (xPl (Y2 (YS "history") (YS "history")))))) x x_1) (YT2 false x)) YE
@[simp] def pM (m:XF) (d:Nat) (x:DSt) (x_1:aA):Option (Fl×aA) :=
 YP (YP (xb (Y2 (aB 2) (aB 3)) ((YF false d "_law_due")) x x_1) fun p=>YP (aR [YG 4,YG 5] p.1 x p.2) fun (q:DSt×aA)=>some (Fl.nx (q.1),q.2)) (YQ fun δ' p =>
 YP (aQ 6 (xb (Y2 (aB 2) (aB 3)) fun (ws:List W) (x:DSt) (h:aA)=>callW T d (Str.ofString "problems_of") ws h) δ' p.2) (YQ fun δ' p =>
 YP (aQ 7 (xb (Y2 (aB 2) (aB 3)) fun (ws:List W) (x:DSt) (h:aA)=>callW T d (Str.ofString "deeds_of") ws h) δ' p.2) (YQ fun δ' p =>
 YP
 (YP
 (xb (xC1 CmpOp.NotEq (aB 6) (aO (xPl (Y1 (xb (xPl (Y2 (YZ) (aB 4))) YT)))))
 (fun c =>
 if c=true then aD true
 else
 xb (xC1 CmpOp.NotEq (aB 7) (aO (xPl (Y1 (aB 5))))) fun c =>
 if c=true then aD true
 else
 xb
 (xb (xb (Y1 (aB 4)) (YF false d "is_problem")) YD)
 fun (b:Bool)=>aD !b)
 δ' p.2)
 (YT2 false δ'))
 (YQ fun δ' p =>
 YP (YP (xb (aB 6) (fun (w:W) (_:DSt) (h:aA)=>aH2 w h) δ' p.2) fun p=>some (Fl.nx δ',p.2)) (YQ fun δ' p =>
 YP (YP (xb (aB 7) ((YA (Y1 (xb (xPl (aD [])) YT)))) δ' p.2) fun p=>some (Fl.nx δ',p.2)) (YQ fun δ' p =>
 YP
 (YP (xb (xC1 CmpOp.NotEq (xb (Y2 (aB 2) (aB 3)) fun (ws:List W) (x:DSt) (h:aA)=>callW T d (Str.ofString "problems_of") ws h) (aO (xPl (Y1 (xb (xPl (Y2 (YZ) (aB 4))) YT))))) (fun c=>if c=true then aD true else xC1 CmpOp.NotEq (xb (Y2 (aB 2) (aB 3)) fun (ws:List W) (x:DSt) (h:aA)=>callW T d (Str.ofString "deeds_of") ws h) (aO (xPl (Y1 (aB 5))))) δ' p.2) (YT2 false δ'))
 YE))))))
def cC5 (m:XF) (d:Nat) (w0:W) (h:aA):mL T d "_law_refused" m "law" [w0] h =
 YP (YP (aQ 1 (xb (aO (xPl (Y4 (YJ 4) (YJ 8) (YJ 20) (YJ 60)))) (YXx (xb (YF2 false d "_law_cell_at" (aB 0) (YJ 1)) (YB .Mod 4)))) [some w0,none,none,none,none,none,none,none,none,none,none,none] h) (YQ fun δ' p=>YP (aQ 2 (xb (Y4 (aB 0) (YJ 2) (aB 1) (xb (YJ 1) (YOx .Add (xb (xb (YF2 false d "_law_cell_at" (aB 0) (YJ 1)) (YB .FloorDiv 4)) (YB .Mod 6))))) (YF false d "_law_history")) δ' p.2) (YQ fun δ' p=>YP (YP (xC1 CmpOp.Eq (aB 1) (YJ 60) δ' p.2) (YIf δ' fun p=>YP (aQ 2 (xb (Y3 (aB 0) (YJ 45) (xb (YJ 1) (YOx .Add (xb (xb (YF2 false d "_law_cell_at" (aB 0) (YJ 1)) (YB .FloorDiv 4)) (YB .Mod 6))))) (YF false d "_law_dense")) δ' p.2) YE)) (YQ fun δ' p=>YP (aQ 2 (YF2 false d "_law_far" (aB 2) (YF2 false d "_law_drawn" (YF2 false d "_law_cell_at" (aB 0) (YJ 1)) (YJ 50))) δ' p.2) (YQ fun δ' p=>YP (YP (xC1 CmpOp.NotEq (aD (W.d (PyData.tuple (List.reverse [PyData.str (Str.ofString "kept"),PyData.str (Str.ofString "thing"),PyData.str (Str.ofString "hand"),PyData.str (Str.ofString "stand"),PyData.str (Str.ofString "snap"),PyData.str (Str.ofString "any"),PyData.str (Str.ofString "row"),PyData.str (Str.ofString "real")])))) (YTp (xb (YS "real") fun w=>xb (Y7 (YS "row") (YS "any") (YS "snap") (YS "stand") (YS "hand") (YS "thing") (YS "kept")) (YC w))) δ' p.2) (YT2 false δ')) (YQ fun δ' p=>YP (YP (bB (aO (xPl (Y3 (YS "real") (YS "row") (YS "any")))) δ' p.2) (YFr (YG 3) (pM m d) δ')) (YQ fun δ' p=>YP (aQ 8 (xb (aO (xPl (Y7 (YS "") (YS "Real") (YS "rows") (YS "real ") YZ (YJ 0) (YTp (Y1 (YS "real")))))) (YXx (xb (xb (YF2 false d "_law_cell_at" (aB 0) (YJ 1)) (YB .FloorDiv 24)) (YB .Mod 7)))) δ' p.2) (YQ fun δ' p=>YP (YP (xC1 CmpOp.NotEq (YLr m (aB 2) (aB 8)) (aO (xPl (Y2 (YS "promise") (YS "promise")))) δ' p.2) (YT2 false δ')) (YQ fun δ' p=>YP (aQ 9 (YTp (Y2 (YTp (Y5 (YJ 4) (xb (YJ 10) (YB .Pow 6)) (xb (xb (YJ 10) (YB .Pow 6)) (YB .Add 1)) (YTp (Y2 (YS "read") (YJ 0))) (YTp (Y2 (YS "got") (YJ 0))))) (YTp (Y5 (YJ 5) (xb (xb (YJ 10) (YB .Pow 6)) (YB .Add 1)) (xb (xb (YJ 10) (YB .Pow 6)) (YB .Add 2)) (YTp (Y2 (YS "read") (YJ 0))) (YTp (Y2 (YS "got") (YJ 0))))))) δ' p.2) (YQ fun δ' p=>YP (aQ 10 (YTp (Y2 (YTp (Y5 (YJ 4) (xb (YJ 10) (YB .Pow 6)) (xb (xb (YJ 10) (YB .Pow 6)) (YB .Add 3)) (YTp (Y2 (YS "read") (YJ 0))) (YTp (Y2 (YS "got") (YJ 0))))) (YTp (Y5 (YJ 4) (xb (xb (YJ 10) (YB .Pow 6)) (YB .Add 1)) (xb (xb (YJ 10) (YB .Pow 6)) (YB .Add 2)) (YTp (Y2 (YS "read") (YJ 0))) (YTp (Y2 (YS "got") (YJ 0))))))) δ' p.2) (YQ fun δ' p=>YP (aQ 3 (xb (aD (W.d (PyData.tuple (List.reverse [PyData.str (Str.ofString "kept"),PyData.str (Str.ofString "thing"),PyData.str (Str.ofString "hand"),PyData.str (Str.ofString "stand"),PyData.str (Str.ofString "snap"),PyData.str (Str.ofString "any"),PyData.str (Str.ofString "row"),PyData.str (Str.ofString "real")])))) (YXx (xb (xb (YF2 false d "_law_cell_at" (aB 0) (YJ 1)) (YB .FloorDiv 168)) (YB .Mod 8)))) δ' p.2) (YQ fun δ' p=>YP (YP (bB (aO (xPl (Y4 (xb (xb (aB 2) (YSl (aD none) (xb (YJ 6) YU))) (YOx .Add (aB 9))) (xb (xb (aB 2) (YSl (aD none) (xb (YJ 6) YU))) (YOx .Add (aB 10))) (aO (xb (Y1 (aB 2)) fun (ws:List W) (x:DSt) (h:aA)=>match ws with|[w]=>(match ref h w with|some (PyData.list xs)=>some (xs,h)|some (PyData.tuple xs)=>some (xs,h)|x=>none)|x=>none)) (xb (aB 2) (YOx .Add (YTp (Y1 YZ))))))) δ' p.2) (YFr (YG 11) (pL m d) δ')) (YQ fun δ' p=>YRt (aD (W.d (PyData.bool true)) δ' p.2)))))))))))))) (ends h):=by kernel_rfl

end K45

namespace K45
open PySem PySem.Spec PyProof.Rows L2 DL CI SJ
mutual
theorem lV:∀ (n:Nat) (d:PyData),aK n d=true->CI.peq d d=true/\PyData.eqv d d=true
 | _,.none,_=>⟨rfl,by simp [PyData.eqv]⟩
 | _,.bool b,_=>⟨by simp [CI.peq],by simp [PyData.eqv]⟩
 | _,.int i,_=>⟨by simp [CI.peq],by simp [PyData.eqv]⟩
 | _,.str x,_=>⟨by simp [CI.peq],by simp [PyData.eqv]⟩
 | 0,.list _,h=>nomatch h
 | 0,.tuple _,h=>nomatch h
 | n+1,.list xs,h=>by
  have:=peqs_pl n xs h;exact ⟨by simpa [CI.peq] using this.1,by simpa [PyData.eqv] using this.2⟩
 | n+1,.tuple xs,h=>by
  have:=peqs_pl n xs h;exact ⟨by simpa [CI.peq] using this.1,by simpa [PyData.eqv] using this.2⟩
 | n,.dict _,h=>by cases n<;>cases h
theorem peqs_pl:∀ (n:Nat) (d:List PyData),plainsB n d=true->CI.peqs d d=true/\PyData.eqvAll d d=true
 | _,[],_=>⟨rfl,by simp [PyData.eqvAll]⟩
 | n,x::xs,h=>by
  rw [uM,Bool.and_eq_true] at h;have a:=lV n x h.1;have b:=peqs_pl n xs h.2;exact ⟨by simp [CI.peqs,a.1,b.1],by simp [PyData.eqvAll,a.2,b.2]⟩
end
theorem iV:∀ {n:Nat} {xs:List PyData},(∀ x∈xs,aK n x=true)->plainsB n xs=true
 | _,[],_=>aX9 _
 | n,x::xs,h=>by rw [uM,h x List.mem_cons_self,iV fun y hy=>h y (List.mem_cons_of_mem _ hy)];rfl
def nF (c:SJ.Call) (n:Nat):aK (n+3) c.dat=true:=by
 cases c with
 | one o=>exact aP7 o (n+2)
 | span lo hi=>simp [Call.dat]
 | deal cs=>simp [Call.dat,zN]
def bG8 (t:Option SJ.Ans) (n:Nat):aK (n+3) (tD t)=true:=by
 cases t with
 | none=>simp [tD]
 | some a =>
  cases a with
  | one a=>exact xK a (n+2)
  | all ns=>simp [tD,Ans.dat,nB]
  | each as=>simp [tD,Ans.dat,sP]
def cC6 (x:It) (n:Nat):aK (n+4) x.dat=true:=by simp [It.dat,nF,bG8]
def cC7 {hs:List Dd} (ok:HOk hs) (p:Pm) (n:Nat):aK (n+6) (pbD hs p)=true:=by
 have a:plainsB (n+4) ((tk hs).map fun i=>(itO hs i).dat)=true:=iV fun x hx=>by
  obtain ⟨e,_,rfl⟩:=List.mem_map.mp hx;exact cC6 _ n
 have b:plainsB (n+4) (dX hs p (tk hs))=true:=iV fun x hx=>by
  obtain ⟨x,y,_,_,_,rfl⟩:=zP (fun i hi=>ok.ok _ (lT (mI hi))) hx;simp [p2]
 simp only [pbD];simp [aE1,a,b]
def cC8 (hs:List Dd) (n:Nat):aK (n+2) (nsD hs)=true:=by
 simp only [nsD,oO];exact iV fun y hy=>by
  obtain ⟨k,_,rfl⟩:=List.mem_map.mp hy;simp [nI]
def bG9 (x:Dd) (n:Nat):aK (n+5) x.dat=true:=by
 obtain ⟨a,b,c,e⟩:=x;cases e with
 | none=>simp [Dd.dat,Dd.endD,Dd.ansD,nF]
 | some p =>
  obtain ⟨t,o⟩:=p;cases o with
  | none=>simp [Dd.dat,Dd.endD,Dd.ansD,anD,aD4,nF]
  | some a =>
   have:aK (n+4) a.dat=true:=by
    have:=bG8 (some a) (n+1)
    simpa [tD] using this
   simp [Dd.dat,Dd.endD,Dd.ansD,anD,nF,this]
def xQ (hs:List Dd) (n:Nat):plainsB (n+5) (hs.map Dd.dat)=true:=iV fun x hx=>by
 obtain ⟨y,_,rfl⟩:=List.mem_map.mp hx;exact bG9 y n
def bC4 {hs:List Dd} (ok:∀ x∈hs,x.ok) (l:hs.length<=60):∀ (n j:Nat),n < hs.length->j < n->gtB (gD hs n) (gD hs j)=false->∃ m,BadH m (.tuple (hs.map Dd.dat)):=by
 intro n;induction n using Nat.strongRecOn with
 | ind n ih =>
  intro j hn hj bad
  by_cases q:∃ i j,i < n/\j < i/\gtB (gD hs i) (gD hs j)=false
  ·obtain ⟨i,k,hi,hk,b⟩:=q;exact ih i hi k (by omega) hk b
  ·exact ⟨_,.two ok l hn hj bad fun i k hi hk=>Classical.byContradiction fun z=>q ⟨i,k,hi,hk,by simpa using z⟩⟩
def Bad (w:PyData):Prop:=peq w w=true/\∃ n,BadH n w
def aT4 {hs:List Dd}:Bad (.list (hs.map Dd.dat)):=⟨(lV 64 _ (show aK 64 (.list _)=true by rw [show (64:Nat)=63+1 from rfl];simp [xQ hs 58])).1,_,.form rfl⟩
def aT5 {hs:List Dd} (ok:HOk hs):Bad (.tuple (hs.map Dd.dat++[.none])):=by
 refine ⟨(lV 64 _ ?_).1,?_⟩
 ·have:plainsB 63 (hs.map Dd.dat++[.none])=true:=iV fun x hx=>by
   rcases List.mem_append.mp hx with hx | hx
   ·obtain ⟨y,_,rfl⟩:=List.mem_map.mp hx;exact bG9 y 58
   ·rw [List.mem_singleton.mp hx];rfl
  exact this
 ·by_cases l:hs.length < 60
  ·exact ⟨_,.deed ok.ok l⟩
  ·exact ⟨-1,.form (by simp [bB5];omega)⟩
def vU {hs:List Dd} (ok:HOk hs) {a b:Dd} (ha:a.ok) (hb:b.ok) (ng:gtB b a=false):Bad (.tuple ((hs.take 6).map Dd.dat++[a.dat,b.dat])):=by
 have e:(hs.take 6).map Dd.dat++[a.dat,b.dat]=(hs.take 6++[a,b]).map Dd.dat:=by simp
 rw [e];refine ⟨(lV 64 _ (show aK 64 (.tuple _)=true by rw [show (64:Nat)=63+1 from rfl];simp only [oO];exact xQ _ 58)).1,?_⟩;have lt:(hs.take 6).length<=6:=by rw [List.length_take];omega
 refine bC4 (fun x hx=>?_) (by simp;omega) ((hs.take 6).length+1) (hs.take 6).length (by simp) (by omega) ?_
 ·rcases List.mem_append.mp hx with hx | hx
  ·exact ok.ok x (List.mem_of_mem_take hx)
  ·simp at hx;rcases hx with rfl | rfl<;>assumption
 ·have e1:gD (hs.take 6++[a,b]) ((hs.take 6).length+1)=b:=by simp [gD,List.getD]
  have e2:gD (hs.take 6++[a,b]) (hs.take 6).length=a:=by simp [gD,List.getD]
  rw [e1,e2,ng]
def nr1:Dd:=⟨4,1000000,.one (.read 0),some (1000001,some (.one (.got 0)))⟩
def nr2:Dd:=⟨5,1000001,.one (.read 0),some (1000002,some (.one (.got 0)))⟩
def tw1:Dd:=⟨4,1000000,.one (.read 0),some (1000003,some (.one (.got 0)))⟩
def tw2:Dd:=⟨4,1000001,.one (.read 0),some (1000002,some (.one (.got 0)))⟩
def zV {q b t:Nat} (hq:q<=5) (ht:b < t):(⟨q,b,.one (.read 0),some (t,some (.one (.got 0)))⟩:Dd).ok:=by
 refine ⟨hq,show (0:Nat) < 8 by decide,fun p e=>?_⟩;cases e;exact ⟨ht,fun a e=>by cases e;exact True.intro⟩
def aT6 {hs:List Dd} (ok:HOk hs):Bad (.tuple ((hs.take 6).map Dd.dat++[nr1.dat,nr2.dat])):=vU ok (zV (by decide) (by decide)) (zV (by decide) (by decide)) (by decide)
def aE9 {hs:List Dd} (ok:HOk hs):Bad (.tuple ((hs.take 6).map Dd.dat++[tw1.dat,tw2.dat])):=vU ok (zV (by decide) (by decide)) (zV (by decide) (by decide)) (by decide)
def bH0 {H:aA} {j:Nat} {xs:List PyData} (e:H[j]?=some (.l xs)) (p:plainsB 63 xs=true):xEq (.c j) (.d (.list xs)) H=some true:=by
 have:xEq (.c j) (.d (.list xs)) H=if (aK 64 (.list xs)&&aK 64 (.list xs))=true then some (PyData.eqv (.list xs) (.list xs)) else none:=by
  simp only [xEq,ref,e]
 have q:aK 64 (.list xs)=true:=p;rw [this,q,(lV 64 _ q).2];rfl
def RT (x:Option (Fl×aA)):Prop:=∃ L,x=some (.rt (.d (.bool true)),.t tE::L)
def cP2 {x:Option (Fl×aA)} (e:RT x):x.bind (ends [.t []])=some (.bool true,[.t tE]):=by
 obtain ⟨L,rfl⟩:=e;have ok:okP [.t []] (.t tE::L):=fun i c hi e'=>by
  have:i=0:=by simpa using hi
  subst this;simp at e';subst e';exact .inl (fun _ z=>nomatch z)
 rw [CI.bs,rY,if_pos ok];rfl
def bC5 (c:Int):∃ m:Nat,m<=60/\atI [PyData.int 4,.int 8,.int 20,.int 60] (c%4)=some (.int m):=by
 have:c%4=0\/c%4=1\/c%4=2\/c%4=3:=by omega
 rcases this with z | z | z | z<;>rw [z]
 ·exact ⟨4,by decide,by simp⟩
 ·exact ⟨8,by decide,by simp⟩
 ·exact ⟨20,by decide,by simp⟩
 ·exact ⟨60,by decide,by simp⟩
end K45

namespace K45
open PySem PySem.Spec PyProof.Rows L2 DL CI SJ
noncomputable def hhD:PyData:=.list [.str (Str.ofString "history"),.str (Str.ofString "history")]
noncomputable def ppD:PyData:=.list [.str (Str.ofString "promise"),.str (Str.ofString "promise")]
def GdP (w u:PyData):Prop:=(∃ hs,w=.tuple (hs.map Dd.dat)/\HOk hs)/\BadP u
open Classical in
def jB:XF:=fun ws h=>match ws with
 | [.d w,.d u]=>if Bad w/\peq u u=true then some (hhD,h) else if GdP w u then some (ppD,h) else none
 | _=>none
def aT7 {u:PyData} (h:BadP u):peq u u=true:=by cases h<;>decide
def bR6 {hs:List Dd}:peq (.tuple (hs.map Dd.dat)) (.tuple (hs.map Dd.dat))=true:=(lV 64 _ (show aK 64 (.tuple _)=true by rw [show (64:Nat)=63+1 from rfl];simp only [oO];exact xQ _ 58)).1
theorem bC6 {S:Sx} {k:Nat} {f:Addr} {fd:FuncData} {ps:List Str} {m:XFW} (e:∀ ws h r,m ws h=some r->∃ m',FnS S k f fd ps m'/\m' ws h=some r):FnS S k f fd ps m :=
 ⟨fun ws h r q=>let ⟨m',F,q'⟩:=e ws h r q;F.len ws h r q',fun hr hk fo md hz R b r q=>let ⟨m',F,q'⟩:=e _ _ _ q;F.run hr hk fo md hz R b r q'⟩
def bR7 {S:Sx} {C J gI P:Addr} {d:Nat} (TO:TopOk T S) (XE:Er S C J gI P) {f:Addr} {fd:FuncData} (F:Fun S.K "_law_refused" "_law_refused" sR f fd):FnS S (d+15) f fd (parsOf sR) (toW jB):=by
 refine bC6 fun ws h r e=>?_;obtain ⟨⟨z,h2⟩,e1,e⟩:=bind_some e;cases e;unfold jB at e1;split at e1
 ·rename_i w u;split at e1
  ·rename_i q;cases e1;obtain ⟨⟨hw,n,hb⟩,hu⟩:=q;refine ⟨_,aT3 (tb:=trF true w u "history") TO F fun {A L} hr=>aT1 TO XE hb hw hr,?_⟩;have v:=zU (d+14) (k:=true) (wd:="history") hw hu h;show (kD sR (bfR (d+14) (trF true w u "history")) [.d w,.d u] h).bind _=_;rw [v];rfl
  ·split at e1
   ·rename_i q;cases e1;obtain ⟨⟨hs,ew,ok⟩,hb⟩:=q;have hw:peq w w=true:=by rw [ew];exact bR6
    refine ⟨_,aT3 (tb:=trF false w u "promise") TO F fun {A L} hr=>aT2 TO XE ew ok hb hr,?_⟩;have v:=zU (d+14) (k:=false) (wd:="promise") hw (aT7 hb) h;show (kD sR (bfR (d+14) (trF false w u "promise")) [.d w,.d u] h).bind _=_;rw [v];rfl
   ·cases e1
 ·cases e1
def bC7 {w u:PyData} (hw:Bad w) (hu:peq u u=true) (h:aA):jB [.d w,.d u] h=some (hhD,h):=by
 unfold jB;simp [hw,hu]
def bC8 {hs:List Dd} (ok:HOk hs):¬ Bad (.tuple (hs.map Dd.dat)):=by
 rintro ⟨_,n,hb⟩;generalize ew:PyData.tuple (hs.map Dd.dat)=w at hb;cases hb with
 | form hx =>
  subst ew;simp only [bB5,List.length_map,decide_eq_true_eq] at hx;have:=ok.len;omega
 | deed ok' l =>
  rename_i gs;injection ew with ew
  have:PyData.none∈hs.map Dd.dat:=by rw [ew];simp
  obtain ⟨y,_,e⟩:=List.mem_map.mp this;cases e
 | two ok' l hn hj bad fst =>
  rename_i gs n j;injection ew with ew
  have le:hs.length=gs.length:=by have:=congrArg List.length ew;simpa using this
  have at':∀ i,i < gs.length->(gD hs i).dat=(gD gs i).dat:=fun i hi=>by
   have:=congrArg (fun l:List PyData=>l[i]?) ew;simp only [List.getElem?_map,List.getElem?_eq_getElem (show i < hs.length by omega),List.getElem?_eq_getElem hi,Option.map_some] at this;rw [jP,jP] at this;exact Option.some.inj this
  have t:=jJ (bm:=false) 0 [] (xJ ok.pw (show n < hs.length by omega) (show j < hs.length by omega) (by omega));rw [at' n hn,at' j (by omega),cC0 (bm:=false) 0 [],bad] at t;cases t
def cP3 {hs:List Dd} (ok:HOk hs) {u:PyData} (hu:BadP u) (h:aA):jB [.d (.tuple (hs.map Dd.dat)),.d u] h=some (ppD,h):=by
 unfold jB;have:GdP (.tuple (hs.map Dd.dat)) u:=⟨⟨hs,rfl,ok⟩,hu⟩;simp [bC8 ok,this]
end K45

namespace K45
open PySem PySem.Spec PyProof.Rows L2 DL CI SJ
def dT (sd:PyData) (m:Nat) (hd:PyData) (x3 x4 x5 x6 x7 x8 x9 x10 x11:Option W):DSt:=[some (.d sd),some (.d (.int m)),some (.d hd),x3,x4,x5,x6,x7,x8,x9,x10,x11]
def cP4 (d:Nat) {hs:List Dd} (ok:HOk hs) (p:Pm) {K:aA} (hK:K[0]?=some (.t tE)):callW T (d+13) "problems_of" [.d (.tuple (hs.map Dd.dat)),.d p.dat] K=some (.c K.length,K++[.l [pnD hs p]]):=by
 have:=pI d ok p hK (.inr rfl)
 rwa [dW hK] at this
def cC9 (d:Nat) {hs:List Dd} (ok:HOk hs) (p:Pm) {K:aA} (hK:K[0]?=some (.t tE)):callW T (d+13) "deeds_of" [.d (.tuple (hs.map Dd.dat)),.d p.dat] K=some (.c K.length,K++[.l [nsD hs]]):=by
 have:=bA8 d ok p hK (.inr rfl)
 rwa [dW hK] at this
def xR (d:Nat) (m:XF) {hs:List Dd} (ok:HOk hs) (p:Pm) (sd hd:PyData) (ehd:hd=.tuple (hs.map Dd.dat)) (n:Nat) (x4 x5 x6 x7:Option W) {H:aA} {ts:List (Pos×Str)} (ht:H[0]?=some (.t ts)) (hts:vH ts) :
  ∃ δ2 h2,pM m (d+15) (dT sd n hd (some (.d p.dat)) x4 x5 x6 x7 none none none none) H=some (.nx δ2,h2)/\((∃ y4 y5 y6 y7,δ2=dT sd n hd (some (.d p.dat)) y4 y5 y6 y7 none none none none)/\h2[0]?=some (.t tE)):=by
 have hl:=(List.getElem?_eq_some_iff.mp ht).1;have cd:=cB5 (d+14) H ok p;have w1:=pI (d+2) ok p ht hts;obtain ⟨K,hK⟩:∃ K,K=H.set 0 (.t tE):=⟨_,rfl⟩;have k0:K[0]?=some (.t tE):=by rw [hK];exact List.getElem?_set_self hl
 have lK:H.length=K.length:=by rw [hK];simp
 have lp:0 < K.length:=by omega
 have ap:∀ L:aA,(K++L)[0]?=some (.t tE):=fun L=>by rw [List.getElem?_append_left lp];exact k0
 rw [<- hK,lK] at w1;have w2:=cC9 (d+2) ok p (ap [.l [pnD hs p]]);have w3:=cP4 (d+2) ok p (ap [.l [],.l [nsD hs,.tuple []]]);have w4:=cC9 (d+2) ok p (ap [.l [],.l [nsD hs,.tuple []],.l [pnD hs p]]);have ip:=fun h=>sY (d+3) h ok p;have pP:plainsB 63 [pnD hs p]=true:=by simp [pnD,cC7 ok p 56]
 have pN:plainsB 63 [nsD hs]=true:=by simp [cC8 hs 61]
 have ep:pnD hs p=.tuple [.none,pbD hs p]:=rfl;rw [<- ehd] at cd w1 w2 w3 w4;have cd:aE T (d+15) (Str.ofString "_law_due") [.d hd,.d p.dat] H=some (.tuple [pbD hs p,nsD hs],H):=cd;have w1:callW T (d+15) (Str.ofString "problems_of") [.d hd,.d p.dat] H=some (.c K.length,K++[.l [pnD hs p]]):=w1;have w2:callW T (d+15) (Str.ofString "deeds_of") [.d hd,.d p.dat] (K++[.l [pnD hs p]])=some (.c (K.length+1),K++[.l [pnD hs p],.l [nsD hs]]):=by rw [w2];simp
 have w3:callW T (d+15) (Str.ofString "problems_of") [.d hd,.d p.dat] (K++[.l [],.l [nsD hs,.tuple []]])=some (.c (K.length+2),K++[.l [],.l [nsD hs,.tuple []],.l [pnD hs p]]):=by rw [w3];simp
 have w4:callW T (d+15) (Str.ofString "deeds_of") [.d hd,.d p.dat] (K++[.l [],.l [nsD hs,.tuple []],.l [pnD hs p]])=some (.c (K.length+3),K++[.l [],.l [nsD hs,.tuple []],.l [pnD hs p],.l [nsD hs]]):=by rw [w4];simp
 have q1:=fun {H:aA} {j:Nat} (e:H[j]?=some (.l [pnD hs p]))=>bH0 e pP;have q2:=fun {H:aA} {j:Nat} (e:H[j]?=some (.l [nsD hs]))=>bH0 e pN;clear pP pN;generalize nsD hs=N at *;rw [ep] at *;generalize pbD hs p=B at *;generalize p.dat=pd at *;have a1:=q1 (H:=K++[.l [.tuple [.none,B]],.l [N]]) (j:=K.length) (by simp);have a2:=q2 (H:=K++[.l [.tuple [.none,B]],.l [N]]) (j:=K.length+1) (by simp);have a3:=q1 (H:=K++[.l [],.l [N,.tuple []],.l [.tuple [.none,B]]]) (j:=K.length+2) (by simp);have a4:=q2 (H:=K++[.l [],.l [N,.tuple []],.l [.tuple [.none,B]],.l [N]]) (j:=K.length+3) (by simp);refine sys (dT sd n hd (some (.d pd)) (some (.d B)) (some (.d N)) x6 x7 none none none none) H (by simp [dT,cd,aR,cW]) ?_;refine sys (dT sd n hd (some (.d pd)) (some (.d B)) (some (.d N)) (some (.c K.length)) x7 none none none none) (K++[.l [.tuple [.none,B]]]) (by simp [dT,w1]) ?_;refine sys (dT sd n hd (some (.d pd)) (some (.d B)) (some (.d N)) (some (.c K.length)) (some (.c (K.length+1))) none none none none) (K++[.l [.tuple [.none,B]],.l [N]]) (by simp [dT,w2]) ?_;have ip:aE T (d+15) (Str.ofString "is_problem") [.d B] (K++[.l [.tuple [.none,B]],.l [N]])=some (.bool true,K++[.l [.tuple [.none,B]],.l [N]]):=ip _;refine sys (dT sd n hd (some (.d pd)) (some (.d B)) (some (.d N)) (some (.c K.length)) (some (.c (K.length+1))) none none none none) (K++[.l [.tuple [.none,B]],.l [N]]) (by simp [dT,szl,a1,a2,ip]) ?_;refine sys (dT sd n hd (some (.d pd)) (some (.d B)) (some (.d N)) (some (.c K.length)) (some (.c (K.length+1))) none none none none) (K++[.l [],.l [N]]) (by simp [dT,aH2]) ?_;refine sys (dT sd n hd (some (.d pd)) (some (.d B)) (some (.d N)) (some (.c K.length)) (some (.c (K.length+1))) none none none none) (K++[.l [],.l [N,.tuple []]]) (by simp [dT,jT,szl]) ?_;refine ⟨dT sd n hd (some (.d pd)) (some (.d B)) (some (.d N)) (some (.c K.length)) (some (.c (K.length+1))) none none none none,K++[.l [],.l [N,.tuple []],.l [.tuple [.none,B]],.l [N]],?_,⟨_,_,_,_,rfl⟩,ap _⟩;simp [dT,szl,w3,w4,a3,a4]
end K45

namespace K45
open PySem PySem.Spec PyProof.Rows L2 DL CI SJ
def cP5 (xs:List PyData):cut xs none (some 6)=xs.take 6:=by
 have e1:HT.sIx xs.length 0 none=0:=by simp [HT.sIx]
 have e2:HT.sIx xs.length xs.length (some 6)=min 6 xs.length:=by
  unfold HT.sIx;simp only [];rw [if_neg (by omega)];omega
 rw [cut,e1,e2,List.drop_zero];simp
def cD0:List PyData:=[.str (Str.ofString "real"),.str (Str.ofString "row"),.str (Str.ofString "any"),.str (Str.ofString "snap"),.str (Str.ofString "stand"),.str (Str.ofString "hand"),.str (Str.ofString "thing"),.str (Str.ofString "kept")]
noncomputable def cD1:List PyData:=[.str (Str.ofString ""),.str (Str.ofString "Real"),.str (Str.ofString "rows"),.str (Str.ofString "real "),.none,.int 0,.tuple [.str (Str.ofString "real")]]
def bR8 (c:Int):∃ s:Str,atI cD0 (c%8)=some (.str s):=by
 have:c%8=0\/c%8=1\/c%8=2\/c%8=3\/c%8=4\/c%8=5\/c%8=6\/c%8=7:=by omega
 rcases this with z | z | z | z | z | z | z | z<;>rw [z]<;>exact ⟨_,rfl⟩
def bR9 (c:Int):∃ u,atI cD1 (c%7)=some u/\BadP u:=by
 have:c%7=0\/c%7=1\/c%7=2\/c%7=3\/c%7=4\/c%7=5\/c%7=6:=by omega
 rcases this with z | z | z | z | z | z | z<;>rw [z]
 ·exact ⟨_,rfl,.a⟩
 ·exact ⟨_,rfl,.b⟩
 ·exact ⟨_,rfl,.c⟩
 ·exact ⟨_,rfl,.d⟩
 ·exact ⟨_,rfl,.e⟩
 ·exact ⟨_,rfl,.f⟩
 ·exact ⟨_,rfl,.g⟩
noncomputable def dd2 (a b:PyData):PyData:=.tuple [a,b]
def bS0:PyData.tuple [.tuple [.int 4,.int 1000000,.int 1000001,.tuple [.str (Str.ofString "read"),.int 0],.tuple [.str (Str.ofString "got"),.int 0]],.tuple [.int 5,.int 1000001,.int 1000002,.tuple [.str (Str.ofString "read"),.int 0],.tuple [.str (Str.ofString "got"),.int 0]]]=dd2 nr1.dat nr2.dat:=rfl
def bS1:PyData.tuple [.tuple [.int 4,.int 1000000,.int 1000003,.tuple [.str (Str.ofString "read"),.int 0],.tuple [.str (Str.ofString "got"),.int 0]],.tuple [.int 4,.int 1000001,.int 1000002,.tuple [.str (Str.ofString "read"),.int 0],.tuple [.str (Str.ofString "got"),.int 0]]]=dd2 tw1.dat tw2.dat:=rfl
def fx0 {g:XG} {tb:XS} (all:List PyData) (δ:DSt) (h:aA):bQ g tb none all [] δ h=some (.nx δ,h):=rfl
def fx1 {g:XG} {tb:XS} {all r:List PyData} {x:PyData} {δ δ1 δ2:DSt} {h h1 h2:aA} {R:Option (Fl×aA)} (e1:g (.d x) δ h=some (δ1,h1)) (e2:tb δ1 h1=some (.nx δ2,h2)) (k:bQ g tb none all r δ2 h2=R):bQ g tb none all (x::r) δ h=R:=by
 rw [bQ,cN,if_pos rfl,e1];simp only [CI.bs,e2];exact k
def bS2 (S:List Int) (d:Nat):mL T (d+15) "_law_refused" jB "law" [.d (.list (S.map .int))] [.t []]=some (.bool true,[.t tE]):=by
 have e4:cP 4=true:=by decide
 have e24:cP 24=true:=by decide
 have e168:cP 168=true:=by decide
 have p6:lY 10 6=true:=by decide
 have c1:∀ h,aE T (d+15) (Str.ofString "_law_cell_at") [.d (.list (S.map .int)),.d (.int 1)] h=some (.int (clS S 1),h):=fun h=>aN8 (d+14) h S 1;have dw:=iS (d+14) [.t []] (clS S 1) 50;obtain ⟨m,hm,am⟩:=bC5 (clS S 1);obtain ⟨hn,h0,h6,eh⟩:∃ n:Nat,0 < n/\n<=6/\1+clS S 1 / 4%6=(n:Int):=⟨(1+clS S 1 / 4%6).toNat,by omega,by omega,by omega⟩;obtain ⟨hs1,ok1,sm1,g1⟩:=aD7 (d+10) [.t []] S (f:=2) (by decide) hm h0 h6;obtain ⟨hs2,ok2,sm2,g2⟩:=aZ7 (d+10) [.t []] S (am:=45) (by decide) h0 h6;have g1:aE T (d+15) (Str.ofString "_law_history") [.d (.list (S.map .int)),.d (.int 2),.d (.int m),.d (.int hn)] [.t []]=some (.tuple (hs1.map Dd.dat),[.t []]):=g1;have g2:aE T (d+15) (Str.ofString "_law_dense") [.d (.list (S.map .int)),.d (.int 45),.d (.int hn)] [.t []]=some (.tuple (hs2.map Dd.dat),[.t []]):=g2;obtain ⟨sd,esd⟩:∃ sd,sd=PyData.list (S.map .int):=⟨_,rfl⟩;rw [<- esd] at c1 g1 g2;rw [<- esd,cC5];refine cP2 ?_;refine syP [some (.d sd),some (.d (.int m)),none,none,none,none,none,none,none,none,none,none] [.t []] (by simp [c1,am,szl]) ?_;refine syP (dT sd m (.tuple (hs1.map Dd.dat)) none none none none none none none none none) [.t []] (by simp [c1,e4,eh,g1,dT]) ?_;obtain ⟨hs3,ok3,sm3,e3⟩:∃ hs3,HOk hs3/\Sm hs3/\hs3=if m=60 then hs2 else hs1:=⟨_,by split;exact ok2;exact ok1,by split;exact sm2;exact sm1,rfl⟩
 refine syP (dT sd m (.tuple (hs3.map Dd.dat)) none none none none none none none none none) [.t []] (by
  by_cases z:m=60
  ·subst z;simp [c1,e4,eh,g2,dT,e3]
  ·have z':¬ ((m:Int)=60):=by omega
   simp [dT,e3,z,z']) ?_
 have cf:=cB2 (d+14) [.t []] ok3 sm3 (dwF (clS S 1) 50);have ok:=ok3.far (bP9 (dwF (clS S 1) 50));generalize hs3.map (fD (frF (dwF (clS S 1) 50)))=hs at cf ok;refine syP (dT sd m (.tuple (hs.map Dd.dat)) none none none none none none none none none) [.t []] (by simp [dT,c1,dw,cf]) ?_;obtain ⟨hd,ehd⟩:∃ hd,hd=PyData.tuple (hs.map Dd.dat):=⟨_,rfl⟩;rw [<- ehd];refine syP (dT sd m hd none none none none none none none none none) [.t []] (by simp [dT,szl,xEq,ref,PyData.eqv,PyData.eqvAll]) ?_;obtain ⟨_,H1,lp1,⟨a4,a5,a6,a7,rfl⟩,t1⟩:=xR d jB ok .real sd hd ehd m none none none none (H:=[.t []]) rfl (.inl rfl);obtain ⟨_,H2,lp2,⟨b4,b5,b6,b7,rfl⟩,t2⟩:=xR d jB ok .row sd hd ehd m a4 a5 a6 a7 t1 (.inr rfl);obtain ⟨_,H3,lp3,⟨y4,y5,y6,y7,rfl⟩,t3⟩:=xR d jB ok .any sd hd ehd m b4 b5 b6 b7 t2 (.inr rfl);have lp:=fx1 (all:=[Pm.real.dat,Pm.row.dat,Pm.any.dat]) (r:=[Pm.row.dat,Pm.any.dat]) (g:=YG 3) (δ:=dT sd m hd none none none none none none none none none) (x:=Pm.real.dat) rfl lp1 (fx1 (x:=Pm.row.dat) rfl lp2 (fx1 (x:=Pm.any.dat) rfl lp3 (fx0 _ _ _)));clear lp1 lp2 lp3;refine syP (dT sd m hd (some (.d Pm.any.dat)) y4 y5 y6 y7 none none none none) H3 (ypS (([Pm.real.dat,Pm.row.dat,Pm.any.dat],none),[.t []]) (by simp [dT,szl,Pm.dat,Pm.nm]) lp) ?_;obtain ⟨u,au,bu⟩:=bR9 (clS S 1 / 24);obtain ⟨pm,ap⟩:=bR8 (clS S 1 / 168);simp only [cD1] at au;simp only [cD0] at ap;have rp:=fun H=>cP3 ok bu H;have r1:=fun (v:PyData) (hv:peq v v=true) H=>bC7 (aT6 ok) hv H;have r2:=fun (v:PyData) (hv:peq v v=true) H=>bC7 (aE9 ok) hv H;have r3:=fun (v:PyData) (hv:peq v v=true) H=>bC7 (aT4 (hs:=hs)) hv H;have r4:=fun (v:PyData) (hv:peq v v=true) H=>bC7 (aT5 ok) hv H;have hu:=aT7 bu;have hp:peq (.str pm) (.str pm)=true:=by simp [peq]
 have eh3:xEq (.d hhD) (.d (.list [.str (Str.ofString "history"),.str (Str.ofString "history")])) H3=some true:=by simp [hhD,xEq,ref,PyData.eqv,PyData.eqvAll]
 have ep3:xEq (.d ppD) (.d (.list [.str (Str.ofString "promise"),.str (Str.ofString "promise")])) H3=some true:=by simp [ppD,xEq,ref,PyData.eqv,PyData.eqvAll]
 obtain ⟨x3,ex3⟩:∃ x3,x3=some (W.d Pm.any.dat):=⟨_,rfl⟩;rw [<- ex3];rw [<- ehd] at rp;refine syP (dT sd m hd x3 y4 y5 y6 y7 (some (.d u)) none none none) H3 (by simp [dT,szl,c1,e24,au]) ?_;refine syP (dT sd m hd x3 y4 y5 y6 y7 (some (.d u)) none none none) H3 (by simp [dT,szl,rp,ep3]) ?_;refine syP (dT sd m hd x3 y4 y5 y6 y7 (some (.d u)) (some (.d (dd2 nr1.dat nr2.dat))) none none) H3 (by rw [<- bS0];simp [dT,szl,p6]) ?_;refine syP (dT sd m hd x3 y4 y5 y6 y7 (some (.d u)) (some (.d (dd2 nr1.dat nr2.dat))) (some (.d (dd2 tw1.dat tw2.dat))) none) H3 (by rw [<- bS1];simp [dT,szl,p6]) ?_;refine syP (dT sd m hd (some (.d (.str pm))) y4 y5 y6 y7 (some (.d u)) (some (.d (dd2 nr1.dat nr2.dat))) (some (.d (dd2 tw1.dat tw2.dat))) none) H3 (by simp [dT,szl,c1,e168,ap]) ?_;obtain ⟨q6,e6⟩:∃ q6,q6=(hs.take 6).map Dd.dat:=⟨_,rfl⟩;have l6:q6.length<=6:=by rw [e6,List.length_map,List.length_take];omega
 rw [<- e6] at r1 r2;obtain ⟨qs,eqs⟩:∃ qs,qs=hs.map Dd.dat:=⟨_,rfl⟩;have lq:qs.length<=60:=by rw [eqs,List.length_map];exact ok.len
 rw [<- eqs] at r3 r4 ehd;have cq:cut qs none (some 6)=q6:=by rw [cP5,eqs,e6,List.map_take]
 have st:∀ (x:PyData) (y11:Option W),(∀ (v:PyData),peq v v=true->∀ H,jB [.d x,.d v] H=some (hhD,H))->pL jB (d+15) (dT sd m hd (some (.d (.str pm))) y4 y5 y6 y7 (some (.d u)) (some (.d (dd2 nr1.dat nr2.dat))) (some (.d (dd2 tw1.dat tw2.dat))) (some (.d x))) H3=some (.nx (dT sd m hd (some (.d (.str pm))) y4 y5 y6 y7 (some (.d u)) (some (.d (dd2 nr1.dat nr2.dat))) (some (.d (dd2 tw1.dat tw2.dat))) (some (.d x))),H3):=fun x _ rx=>by
  have a:=rx _ hp H3;have b:=rx _ hu H3;simp [dT,szl,a,b,eh3]
 have s1:=st (.tuple (q6++[nr1.dat,nr2.dat])) none r1;have s2:=st (.tuple (q6++[tw1.dat,tw2.dat])) none r2;have s3:=st (.list qs) none r3;have s4:=st (.tuple (qs++[PyData.none])) none r4;clear st r1 r2 r3 r4;generalize nr1.dat=n1 at *;generalize nr2.dat=n2 at *;generalize tw1.dat=t1' at *;generalize tw2.dat=t2' at *;have lp:=fx1 (all:=[.tuple (q6++[n1,n2]),.tuple (q6++[t1',t2']),.list qs,.tuple (qs++[PyData.none])]) (r:=[.tuple (q6++[t1',t2']),.list qs,.tuple (qs++[PyData.none])]) (g:=YG 11) (h:=H3) (δ:=dT sd m hd (some (.d (.str pm))) y4 y5 y6 y7 (some (.d u)) (some (.d (dd2 n1 n2))) (some (.d (dd2 t1' t2'))) none) rfl s1 (fx1 rfl s2 (fx1 rfl s3 (fx1 rfl s4 (fx0 _ _ _))));clear s1 s2 s3 s4;refine syP (dT sd m hd (some (.d (.str pm))) y4 y5 y6 y7 (some (.d u)) (some (.d (dd2 n1 n2))) (some (.d (dd2 t1' t2'))) (some (.d (.tuple (qs++[PyData.none]))))) H3 (ypS (([.tuple (q6++[n1,n2]),.tuple (q6++[t1',t2']),.list qs,.tuple (qs++[PyData.none])],none),H3) (by
  simp [dT,szl,cq,dd2,ehd,show q6.length<=16777214 by omega,show qs.length<=16777215 by omega]) lp) ?_
 obtain ⟨H4,rfl⟩:∃ L,H3=.t tE::L:=by
  cases H3 with
  | nil=>cases t3
  | cons c L=>exact ⟨L,by simp at t3;rw [t3]⟩
 exact ⟨H4,rfl⟩
end K45

namespace K45
open PySem PySem.Spec PyProof.Rows L2 DL CI
def bS3 {K:PySem.W.Frag} {h:Heap} {x:Str} {C:Addr} {mg:Str->Option Value} {bmB:List Value} {newId:String} (X:K.In h) (hm:mg x=some (.ref C)) (q:PySem.W.excIn K C bmB newId=true):OwnCls x C bmB newId mg h:=by
 refine ⟨hm,?_⟩;unfold PySem.W.excIn at q;split at q
 ·rename_i d0 c0 s0 lk;split at q
  ·rename_i D tl r0 r1 r2 r3 ni r5 em es;obtain ⟨q5,q6⟩:=Bool.and_eq_true_iff.mp q;obtain ⟨q4,q7⟩:=Bool.and_eq_true_iff.mp q5;obtain ⟨q3,q8⟩:=Bool.and_eq_true_iff.mp q4;obtain ⟨q2,q9⟩:=Bool.and_eq_true_iff.mp q3;obtain ⟨q1,q0⟩:=Bool.and_eq_true_iff.mp q2;have e1:D=C:=eq_of_beq q1;have e2:ni=newId:=eq_of_beq q0;subst e1 e2;obtain ⟨v1,v2,v3,v4,v5,v6,v7,v8,v9,v10,v11⟩:=c0;simp only [Bool.not_eq_true'] at q9;dsimp only at em q7 q6 q9;subst em q9;have e3:s0=#[r0,r1,r2,r3,some (.builtin ni),r5]:=by
    obtain ⟨ll⟩:=s0;dsimp only at es;rw [es]
   subst e3;exact ⟨tl,v4,v1,v5,v2,v6,v7,v8,v9,v10,d0,r0,r1,r2,r3,r5,_,X _ _ lk,.of_isNs (PySem.W.isNs_of_in X q7),PySem.W.nsMap_none_of_in X q7 (eq_of_beq q6),PySem.W.tail_of_in X q8⟩
  ·cases q
 ·cases q
def aT8 (K:PySem.W.Frag) (C fI:Addr):Bool:=match K.lookup C with
 | some ⟨.type "type",_,.cls cd,sl⟩=>(match cd.mro,sl.toList with
  | .ref D::bm,[_,_,_,_,some (.builtin n),_]=>(D==C&&(n=="ValueError.__new__"&&(!cd.hasDel&&(PySem.W.tailIn K sZ bm&&PySem.W.nsOkIn K cd.ns))))&&(PySem.W.nsIn K cd.ns "__init__"==some (some (.ref fI)))
  | _,_=>false)
 | _=>false
def bC9 {K:PySem.W.Frag} {h:Heap} {N:Addr} {mg:Str->Option Value} {n:Str} {v:Value} (X:K.In h) (G:h.Ns N mg) (e:PySem.W.nsIn K N n=some (some v)):mg n=some v:=by
 obtain ⟨o,es,ep,ho,hd,_,hf⟩:=G;unfold PySem.W.nsIn at e;split at e
 ·rename_i hk;have q:=X _ _ hk;rw [ho] at q;cases q;cases hd;rw [<- hf];split at e
  ·rename_i he;cases e;simp [nsFind,findBy,<- Array.find?_toList,he]
  ·split at e<;>cases e
 ·cases e
def bD0 {K:PySem.W.Frag} {h:Heap} {x:Str} {C fI:Addr} {oI:Obj} {mg:Str->Option Value} (X:K.In h) (hm:mg x=some (.ref C)) (q:aT8 K C fI=true) (lI:K.lookup fI=some oI) (cI':oI.cls=.type "function"):OwnI x C fI mg h:=by
 refine ⟨hm,?_⟩;unfold aT8 at q;split at q
 ·rename_i d0 c0 s0 lk;split at q
  ·rename_i D tl r0 r1 r2 r3 ni r5 em es;simp only [Bool.and_eq_true,beq_iff_eq,Bool.not_eq_true'] at q;obtain ⟨⟨rfl,rfl,q9,q8,q7⟩,q6⟩:=q;obtain ⟨v1,v2,v3,v4,v5,v6,v7,v8,v9,v10,v11⟩:=c0;dsimp only at em q7 q6 q9;subst em q9;have e3:s0=#[r0,r1,r2,r3,some (.builtin "ValueError.__new__"),r5]:=by
    obtain ⟨ll⟩:=s0;dsimp only at es;rw [es]
   subst e3;exact ⟨tl,v4,v1,v5,v2,v6,v7,v8,v9,v10,d0,r0,r1,r2,r3,r5,_,oI,X _ _ lk,.of_isNs (PySem.W.isNs_of_in X q7),bC9 X (.of_isNs (PySem.W.isNs_of_in X q7)) q6,X _ _ lI,cI',PySem.W.tail_of_in X q8⟩
  ·cases q
 ·cases q
end K45

namespace K45
open PySem PySem.Spec PyProof.Rows L2 DL CI
def aT (k:Nat):Stmt:=PySem.Challenge.pw_storejudge_k45_rows_asked_for.main.body.getD k (.Pass ⟨0,0,0,0⟩)
abbrev s_0:Stmt:=aT 1
abbrev s_1:Stmt:=aT 2
abbrev s_2:Stmt:=aT 3
abbrev s_3:Stmt:=aT 4
abbrev s_4:Stmt:=aT 5
abbrev s_5:Stmt:=aT 12
abbrev s_6:Stmt:=aT 13
abbrev s_7:Stmt:=aT 14
abbrev s_8:Stmt:=aT 15
abbrev s_9:Stmt:=aT 16
abbrev cD2:Stmt:=aT 17
abbrev cD3:Stmt:=aT 18
abbrev cD4:Stmt:=aT 19
abbrev cD5:Stmt:=aT 20
abbrev cD6:Stmt:=aT 21
abbrev cD7:Stmt:=aT 22
abbrev cD8:Stmt:=aT 23
abbrev cD9:Stmt:=aT 24
abbrev cE0:Stmt:=aT 25
abbrev cE1:Stmt:=aT 26
abbrev cE2:Stmt:=aT 27
abbrev cE3:Stmt:=aT 28
abbrev cE4:Stmt:=aT 29
abbrev cE5:Stmt:=aT 30
abbrev cE6:Stmt:=aT 38
abbrev cE7:Stmt:=aT 39
abbrev cE8:Stmt:=aT 40
abbrev cE9:Stmt:=aT 41
abbrev cF0:Stmt:=aT 42
abbrev cF1:Stmt:=aT 43
abbrev bS4:Stmt:=aT 44
abbrev cF2:Stmt:=aT 47
abbrev cF3:Stmt:=aT 50
abbrev cF4:Stmt:=aT 51
abbrev cF5:Stmt:=aT 52
abbrev cF6:Stmt:=aT 53
abbrev cF7:Stmt:=aT 54
abbrev cF8:Stmt:=aT 55
abbrev cF9:Stmt:=aT 56
abbrev cG0:Stmt:=aT 57
abbrev cG1:Stmt:=aT 58
abbrev cG2:Stmt:=aT 59
abbrev cG3:Stmt:=aT 60
abbrev cG4:Stmt:=aT 61
abbrev cG5:Stmt:=aT 62
abbrev bS5:Stmt:=aT 63
abbrev cG6:Stmt:=aT 64
abbrev cG7:Stmt:=aT 65
abbrev cG8:Stmt:=aT 66
abbrev cG9:Stmt:=aT 67
abbrev cH0:Stmt:=aT 68
abbrev cH1:Stmt:=aT 74
abbrev cH2:Stmt:=aT 75
abbrev cH3:Stmt:=aT 76
abbrev cH4:Stmt:=aT 77
abbrev cH5:Stmt:=aT 78
abbrev cH6:Stmt:=aT 79
abbrev cH7:Stmt:=aT 80
abbrev cH8:Stmt:=aT 82
abbrev cH9:Stmt:=aT 83
abbrev cI0:Stmt:=aT 84
abbrev cI1:Stmt:=aT 85
abbrev cI2:Stmt:=aT 86
abbrev cI3:Stmt:=aT 87
abbrev cI4:Stmt:=aT 88
abbrev cI5:Stmt:=aT 89
abbrev cI6:Stmt:=aT 90
abbrev cI7:Stmt:=aT 91
abbrev cI8:Stmt:=aT 92
abbrev cI9:Stmt:=aT 93
abbrev cJ0:Stmt:=aT 94
abbrev cJ1:Stmt:=aT 95
abbrev cJ2:Stmt:=aT 96
abbrev vV:Stmt:=aT 97
def cJ3:gcl body=([(Str.ofString "LAST_KEY",PyData.int 7),(Str.ofString "MOST_PARTS",PyData.int 4),(Str.ofString "CHANGING",PyData.tuple [PyData.str (Str.ofString "write"),PyData.str (Str.ofString "add"),PyData.str (Str.ofString "swap")]),(Str.ofString "REFUSED",PyData.tuple [PyData.str (Str.ofString "refused")]),(Str.ofString "LAST_HAND",PyData.int 5),(Str.ofString "MOST_DEEDS",PyData.int 60),(Str.ofString "FIRST",PyData.tuple [PyData.int 0,PyData.int 0,PyData.int 0,PyData.int 0,PyData.int 0,PyData.int 0,PyData.int 0,PyData.int 0]),(Str.ofString "PROMISES",PyData.tuple [PyData.str (Str.ofString "real"),PyData.str (Str.ofString "row"),PyData.str (Str.ofString "any"),PyData.str (Str.ofString "snap"),PyData.str (Str.ofString "stand"),PyData.str (Str.ofString "hand"),PyData.str (Str.ofString "thing"),PyData.str (Str.ofString "kept")]),(Str.ofString "WORDS",PyData.tuple [PyData.str (Str.ofString "must"),PyData.str (Str.ofString "may"),PyData.str (Str.ofString "out")]),(Str.ofString "MOST_ITEMS",PyData.int 120),(Str.ofString "MOST_PAIRS",PyData.int 4000),(Str.ofString "MOST_TRIPLES",PyData.int 4000)]:List (Str×PyData)):=by kernel_rfl
def cJ4:tkl body=([(Str.ofString "NUMBERS_BEHIND",[(Str.ofString "read",PyData.int 0),(Str.ofString "write",PyData.int 1),(Str.ofString "add",PyData.int 1),(Str.ofString "swap",PyData.int 2)])]:List (Str×List (Str×PyData))):=by kernel_rfl
abbrev DFL:List (Str×Stmt):=[(Str.ofString "is_whole",s_0),(Str.ofString "is_between",s_1),(Str.ofString "is_tuple_of",s_2),(Str.ofString "are_whole",s_3),(Str.ofString "are_rising",s_4),(Str.ofString "is_key",s_5),(Str.ofString "word_of",s_6),(Str.ofString "is_worded",s_7),(Str.ofString "is_single",s_8),(Str.ofString "is_span",s_9),(Str.ofString "is_deal",cD2),(Str.ofString "is_call",cD3),(Str.ofString "is_look",cD4),(Str.ofString "is_value_pair",cD5),(Str.ofString "is_lay",cD6),(Str.ofString "is_step",cD7),(Str.ofString "is_answer",cD8),(Str.ofString "is_own_answer",cD9),(Str.ofString "may_change",cE0),(Str.ofString "keys_of",cE1),(Str.ofString "parts_of",cE2),(Str.ofString "value_left",cE3),(Str.ofString "left_by",cE4),(Str.ofString "part_on",cE5),(Str.ofString "is_time",cE6),(Str.ofString "is_deed",cE7),(Str.ofString "times_of",cE8),(Str.ofString "ended_below",cE9),(Str.ofString "go_together",cF0),(Str.ofString "look_over",cF1),(Str.ofString "really_ahead",bS4),(Str.ofString "is_stand",cF2),(Str.ofString "check_promise",cF3),(Str.ofString "problems_of",cF4),(Str.ofString "deeds_of",cF5),(Str.ofString "frames_of",cF6),(Str.ofString "framed",cF7),(Str.ofString "frame",cF8),(Str.ofString "taking_part",cF9),(Str.ofString "entry",cG0),(Str.ofString "whole_entries",cG1),(Str.ofString "look_entries",cG2),(Str.ofString "hand_entries",cG3),(Str.ofString "key_entries",cG4),(Str.ofString "writes_alone",cG5),(Str.ofString "ahead_by_hand",bS5),(Str.ofString "pairs_where",cG6),(Str.ofString "looks_with_lays",cG7),(Str.ofString "triples_of",cG8),(Str.ofString "change_one_key",cG9),(Str.ofString "keys_changed",cH0),(Str.ofString "is_item",cH1),(Str.ofString "are_items",cH2),(Str.ofString "are_numbers",cH3),(Str.ofString "are_unlike",cH4),(Str.ofString "are_pairs",cH5),(Str.ofString "are_triples",cH6),(Str.ofString "is_problem",cH7),(Str.ofString "_law_cell_at",cH8),(Str.ofString "_law_drawn",cH9),(Str.ofString "_law_plain_call",cI0),(Str.ofString "_law_call",cI1),(Str.ofString "_law_done_plainly",cI2),(Str.ofString "_law_done",cI3),(Str.ofString "_law_bent",cI4),(Str.ofString "_law_moved",cI5),(Str.ofString "_law_history",cI6),(Str.ofString "_law_due",cI7),(Str.ofString "_law_at",cI8),(Str.ofString "_law_refused",cI9),(Str.ofString "_law_free",cJ0),(Str.ofString "_law_dense",cJ1),(Str.ofString "_law_far",cJ2),(Str.ofString "law",vV)]
def cJ5:dfl body=DFL:=by kernel_rfl
theorem bD1:T.defs "law"=some vV:=by kernel_rfl
def cJ6:parsOf vV=([Str.ofString "_law_script"]:List Str):=by kernel_rfl
abbrev T0:Top:=bF1 body (fun _=>[]) cv 100000 60 wf (qn:=qn)
def all_mk {l:PySem.W.OpenLaw} {w:World} {os:OsState} {K:PySem.W.Frag} {h:Heap} {mg:Str->Option Value} {fa:Addr} (X:K.In h) (G:h.Ns mainGlobals mg) (hfa:mg "law"=some (.ref fa))
  (a0:FI K "is_whole" s_0)
  (a1:FI K "is_between" s_1)
  (a2:FI K "is_tuple_of" s_2)
  (a3:FI K "are_whole" s_3)
  (a4:FI K "are_rising" s_4)
  (a5:FI K "is_key" s_5)
  (a6:FI K "word_of" s_6)
  (a7:FI K "is_worded" s_7)
  (a8:FI K "is_single" s_8)
  (a9:FI K "is_span" s_9)
  (a10:FI K "is_deal" cD2)
  (a11:FI K "is_call" cD3)
  (a12:FI K "is_look" cD4)
  (a13:FI K "is_value_pair" cD5)
  (a14:FI K "is_lay" cD6)
  (a15:FI K "is_step" cD7)
  (a16:FI K "is_answer" cD8)
  (a17:FI K "is_own_answer" cD9)
  (a18:FI K "may_change" cE0)
  (a19:FI K "keys_of" cE1)
  (a20:FI K "parts_of" cE2)
  (a21:FI K "value_left" cE3)
  (a22:FI K "left_by" cE4)
  (a23:FI K "part_on" cE5)
  (a24:FI K "is_time" cE6)
  (a25:FI K "is_deed" cE7)
  (a26:FI K "times_of" cE8)
  (a27:FI K "ended_below" cE9)
  (a28:FI K "go_together" cF0)
  (a29:FI K "look_over" cF1)
  (a30:FI K "really_ahead" bS4)
  (a31:FI K "is_stand" cF2)
  (a32:FI K "check_promise" cF3)
  (a33:FI K "problems_of" cF4)
  (a34:FI K "deeds_of" cF5)
  (a35:FI K "frames_of" cF6)
  (a36:FI K "framed" cF7)
  (a37:FI K "frame" cF8)
  (a38:FIT K "taking_part" cF9 301)
  (a39:FI K "entry" cG0)
  (a40:FI K "whole_entries" cG1)
  (a41:FI K "look_entries" cG2)
  (a42:FI K "hand_entries" cG3)
  (a43:FI K "key_entries" cG4)
  (a44:FI K "writes_alone" cG5)
  (a45:FI K "ahead_by_hand" bS5)
  (a46:FI K "pairs_where" cG6)
  (a47:FI K "looks_with_lays" cG7)
  (a48:FI K "triples_of" cG8)
  (a49:FI K "change_one_key" cG9)
  (a50:FI K "keys_changed" cH0)
  (a51:FI K "is_item" cH1)
  (a52:FI K "are_items" cH2)
  (a53:FI K "are_numbers" cH3)
  (a54:FI K "are_unlike" cH4)
  (a55:FI K "are_pairs" cH5)
  (a56:FI K "are_triples" cH6)
  (a57:FI K "is_problem" cH7)
  (a58:FI K "_law_cell_at" cH8)
  (a59:FI K "_law_drawn" cH9)
  (a60:FI K "_law_plain_call" cI0)
  (a61:FI K "_law_call" cI1)
  (a62:FI K "_law_done_plainly" cI2)
  (a63:FI K "_law_done" cI3)
  (a64:FI K "_law_bent" cI4)
  (a65:FI K "_law_moved" cI5)
  (a66:FI K "_law_history" cI6)
  (a67:FI K "_law_due" cI7)
  (a68:FI K "_law_at" cI8)
  (a69:FI K "_law_refused" cI9)
  (a70:FI K "_law_free" cJ0)
  (a71:FI K "_law_dense" cJ1)
  (a72:FI K "_law_far" cJ2)
  (a73:FI K "law" vV)
  {tg0:Tok} (cg0:PySem.W.nsIn K mainGlobals "LAST_KEY"=some (some (.int 7 tg0)))
  {tg1:Tok} (cg1:PySem.W.nsIn K mainGlobals "MOST_PARTS"=some (some (.int 4 tg1)))
  {q2:Addr} {nq2:Nat} {tq2_0 tq2_1 tq2_2:Tok} (aQ2:PySem.W.nsIn K mainGlobals "CHANGING"=some (some (.ref q2))) (lQ2:K.lookup q2=some ⟨.type "tuple",none,.seq #[.str "write" tq2_0,.str "add" tq2_1,.str "swap" tq2_2] nq2,#[]⟩)
  {q3:Addr} {nq3:Nat} {tq3_0:Tok} (aQ3:PySem.W.nsIn K mainGlobals "REFUSED"=some (some (.ref q3))) (lQ3:K.lookup q3=some ⟨.type "tuple",none,.seq #[.str "refused" tq3_0] nq3,#[]⟩)
  {tg4:Tok} (cg4:PySem.W.nsIn K mainGlobals "LAST_HAND"=some (some (.int 5 tg4)))
  {tg5:Tok} (cg5:PySem.W.nsIn K mainGlobals "MOST_DEEDS"=some (some (.int 60 tg5)))
  {q6:Addr} {nq6:Nat} {tq6_0 tq6_1 tq6_2 tq6_3 tq6_4 tq6_5 tq6_6 tq6_7:Tok} (aQ6:PySem.W.nsIn K mainGlobals "FIRST"=some (some (.ref q6))) (lQ6:K.lookup q6=some ⟨.type "tuple",none,.seq #[.int 0 tq6_0,.int 0 tq6_1,.int 0 tq6_2,.int 0 tq6_3,.int 0 tq6_4,.int 0 tq6_5,.int 0 tq6_6,.int 0 tq6_7] nq6,#[]⟩)
  {q7:Addr} {nq7:Nat} {tq7_0 tq7_1 tq7_2 tq7_3 tq7_4 tq7_5 tq7_6 tq7_7:Tok} (aQ7:PySem.W.nsIn K mainGlobals "PROMISES"=some (some (.ref q7))) (lQ7:K.lookup q7=some ⟨.type "tuple",none,.seq #[.str "real" tq7_0,.str "row" tq7_1,.str "any" tq7_2,.str "snap" tq7_3,.str "stand" tq7_4,.str "hand" tq7_5,.str "thing" tq7_6,.str "kept" tq7_7] nq7,#[]⟩)
  {q8:Addr} {nq8:Nat} {tq8_0 tq8_1 tq8_2:Tok} (aQ8:PySem.W.nsIn K mainGlobals "WORDS"=some (some (.ref q8))) (lQ8:K.lookup q8=some ⟨.type "tuple",none,.seq #[.str "must" tq8_0,.str "may" tq8_1,.str "out" tq8_2] nq8,#[]⟩)
  {tg9:Tok} (cg9:PySem.W.nsIn K mainGlobals "MOST_ITEMS"=some (some (.int 120 tg9)))
  {tg10:Tok} (cg10:PySem.W.nsIn K mainGlobals "MOST_PAIRS"=some (some (.int 4000 tg10)))
  {tg11:Tok} (cg11:PySem.W.nsIn K mainGlobals "MOST_TRIPLES"=some (some (.int 4000 tg11)))
  {p0:Addr} {n0:Nat} {hh0_0 hh0_1 hh0_2 hh0_3:Int} {tk0_0 tv0_0 tk0_1 tv0_1 tk0_2 tv0_2 tk0_3 tv0_3:Tok} (aT0:PySem.W.nsIn K mainGlobals "NUMBERS_BEHIND"=some (some (.ref p0))) (lT0:K.lookup p0=some ⟨.type "dict",none,.dict #[⟨hh0_0,.str "read" tk0_0,.int 0 tv0_0⟩,⟨hh0_1,.str "write" tk0_1,.int 1 tv0_1⟩,⟨hh0_2,.str "add" tk0_2,.int 1 tv0_2⟩,⟨hh0_3,.str "swap" tk0_3,.int 2 tv0_3⟩] n0,#[]⟩) (kT0:PySem.W.KeysLit w.params [⟨hh0_0,.str "read" tk0_0,.int 0 tv0_0⟩,⟨hh0_1,.str "write" tk0_1,.int 1 tv0_1⟩,⟨hh0_2,.str "add" tk0_2,.int 1 tv0_2⟩,⟨hh0_3,.str "swap" tk0_3,.int 2 tv0_3⟩]) (sT0:(p0==sysModules)=false)
  {C J P fI:Addr} (aC:PySem.W.nsIn K mainGlobals "NoHistory"=some (some (.ref C))) (aJ:PySem.W.nsIn K mainGlobals "JudgeError"=some (some (.ref J))) (aP:PySem.W.nsIn K mainGlobals "NoPromise"=some (some (.ref P)))
  {oc kV dc pm cd ct:Value} {od an:Option Addr} {sl:Array (Option Value)} (iL:K.lookup fI=some ⟨oc,od,.func (PySem.W.fnOf "__init__" "NoHistory.__init__" (cM sI) (aN sI) (defScope sI) .none kV dc pm an cd ct),sl⟩) (iO:oc=.type "function") (iC:PySem.W.codeIn K cd "NoHistory.__init__"=true) (iK:PySem.W.keepIn K (.ref fI)=true)
  (qI:aT8 K C fI=true) (qP:PySem.W.excIn K P sZ "ValueError.__new__"=true)
  (eH:PySem.W.exmOne K (.ref C) (.ref C)=some true) (eN:PySem.W.exmOne K (.ref P) (.ref C)=some false) (eP:PySem.W.exmOne K (.ref P) (.ref P)=some true)
  (kJ:PySem.W.kitOne K (.ref C) (.ref J)=some true) (kP:PySem.W.kitOne K (.ref C) (.ref P)=some false) (kQ:PySem.W.kitOne K (.ref P) (.ref J)=some true)
  (x1:PySem.W.findIn K (.ref C) "__getattribute__"=some (some (.builtin "BaseException.__getattribute__"))) (x2:PySem.W.findIn K (.ref C) "__getattr__"=some none) (x3:PySem.W.findIn K (.ref C) "__class__"=some (some (.builtin "object.__class__"))) (x4:PySem.W.mroIn K C (.type "BaseException")=some true) (x5:PySem.W.mroIn K C (.type "object")=some true)
  (z1:PySem.W.findIn K (.ref P) "__getattribute__"=some (some (.builtin "BaseException.__getattribute__"))) (z2:PySem.W.findIn K (.ref P) "__getattr__"=some none) (z3:PySem.W.findIn K (.ref P) "__class__"=some (some (.builtin "object.__class__"))) (z4:PySem.W.mroIn K P (.type "BaseException")=some true) (z5:PySem.W.mroIn K P (.type "object")=some true)
  (y1:(PySem.W.clsIn K C).any (fun cd=>cd.hasDict&&cd.mro==.ref C::.ref J::sZ)=true) (y2:PySem.W.findIn K (.ref C) "__setattr__"=some (some (.builtin "object.__setattr__"))) (y3:PySem.W.findIn K (.ref C) "at"=some none)
  (j1:PySem.W.specialIn K (.ref J) "__getattribute__"=some (some (.builtin "type.__getattribute__"))) (j2:PySem.W.readsIn K J (.type "type")=true) (j3:PySem.W.findCls K (.ref J) (.type "type") "__init__"=some (.val (.builtin "ValueError.__init__")))
  (zb:∀ b∈blAll,PySem.W.nsIn K mainGlobals b=some none) :
  ∃ fd:FuncData,(∀ (s:Shared) (v:Value),BindsTo s fd ⟨[v],[]⟩ [("_law_script",v)])/\∀ base:Heap,K.In base->base.Ns mainGlobals mg->base.BuiltinsAt mg 301->FnS ⟨l.prog,w,K,mg,base,os,#[],301,false⟩ 16 fa fd ["_law_script"] (toW (mL T 15 "_law_refused" jB "law")):=by
 have aL:=a73;obtain ⟨f73,od73,an73,sl73,oc73,kV73,dc73,pm73,cd73,ct73,b73,l73,c73,kk73⟩:=aL;have e:=hfa.symm.trans (PySem.W.mg_of X G b73);cases e;have F73:=wX (st:=vV) l73 c73 kk73;refine ⟨PySem.W.fnOf "law" "law" (cM vV) (aN vV) (defScope vV) .none kV73 dc73 pm73 an73 cd73 ct73,fun s v=>.of_eq rfl,fun base XB GB BM=>?_⟩;have aW:=a38.fi;have TO0:TopOk T0 ⟨l.prog,w,K,mg,base,os,#[],301,false⟩:=by
  refine ⟨fun x hx=>?_,fun x z hz=>?_,fun x f hf=>?_,fun x s hs=>?_,fun x C s hs=>?_,fun x C s hs=>?_,fun C f hf=>?_,rfl,fun x q hs=>?_⟩
  ·have hx:blAll.contains x=true:=hx;rw [List.contains_iff_mem] at hx;exact PySem.W.mg_none_of XB GB (zb x hx)
  ·have hm:=bN7 (show bN4 body x=some z from hz);rw [cJ3] at hm;simp only [List.mem_cons,List.not_mem_nil,or_false,Prod.mk.injEq] at hm;rcases hm with ⟨rfl,rfl⟩ | ⟨rfl,rfl⟩ | ⟨rfl,rfl⟩ | ⟨rfl,rfl⟩ | ⟨rfl,rfl⟩ | ⟨rfl,rfl⟩ | ⟨rfl,rfl⟩ | ⟨rfl,rfl⟩ | ⟨rfl,rfl⟩ | ⟨rfl,rfl⟩ | ⟨rfl,rfl⟩ | ⟨rfl,rfl⟩
   ·exact ⟨_,PySem.W.mg_of XB GB cg0,rep_i.mpr ⟨tg0,rfl⟩⟩
   ·exact ⟨_,PySem.W.mg_of XB GB cg1,rep_i.mpr ⟨tg1,rfl⟩⟩
   ·exact ⟨_,PySem.W.mg_of XB GB aQ2,rV (ws:=["write","add","swap"]) XB lQ2 (.cons ⟨⟨_,rfl⟩,by decide +kernel⟩ (.cons ⟨⟨_,rfl⟩,by decide +kernel⟩ (.cons ⟨⟨_,rfl⟩,by decide +kernel⟩ .nil))) (show 3<=16777216 by decide)⟩
   ·exact ⟨_,PySem.W.mg_of XB GB aQ3,rV (ws:=["refused"]) XB lQ3 (.cons ⟨⟨_,rfl⟩,by decide +kernel⟩ .nil) (show 1<=16777216 by decide)⟩
   ·exact ⟨_,PySem.W.mg_of XB GB cg4,rep_i.mpr ⟨tg4,rfl⟩⟩
   ·exact ⟨_,PySem.W.mg_of XB GB cg5,rep_i.mpr ⟨tg5,rfl⟩⟩
   ·exact ⟨_,PySem.W.mg_of XB GB aQ6,bO0 (ws:=[0,0,0,0,0,0,0,0]) XB lQ6 (.cons ⟨_,rfl⟩ (.cons ⟨_,rfl⟩ (.cons ⟨_,rfl⟩ (.cons ⟨_,rfl⟩ (.cons ⟨_,rfl⟩ (.cons ⟨_,rfl⟩ (.cons ⟨_,rfl⟩ (.cons ⟨_,rfl⟩ .nil)))))))) (show 8<=16777216 by decide)⟩
   ·exact ⟨_,PySem.W.mg_of XB GB aQ7,rV (ws:=["real","row","any","snap","stand","hand","thing","kept"]) XB lQ7 (.cons ⟨⟨_,rfl⟩,by decide +kernel⟩ (.cons ⟨⟨_,rfl⟩,by decide +kernel⟩ (.cons ⟨⟨_,rfl⟩,by decide +kernel⟩ (.cons ⟨⟨_,rfl⟩,by decide +kernel⟩ (.cons ⟨⟨_,rfl⟩,by decide +kernel⟩ (.cons ⟨⟨_,rfl⟩,by decide +kernel⟩ (.cons ⟨⟨_,rfl⟩,by decide +kernel⟩ (.cons ⟨⟨_,rfl⟩,by decide +kernel⟩ .nil)))))))) (show 8<=16777216 by decide)⟩
   ·exact ⟨_,PySem.W.mg_of XB GB aQ8,rV (ws:=["must","may","out"]) XB lQ8 (.cons ⟨⟨_,rfl⟩,by decide +kernel⟩ (.cons ⟨⟨_,rfl⟩,by decide +kernel⟩ (.cons ⟨⟨_,rfl⟩,by decide +kernel⟩ .nil))) (show 3<=16777216 by decide)⟩
   ·exact ⟨_,PySem.W.mg_of XB GB cg9,rep_i.mpr ⟨tg9,rfl⟩⟩
   ·exact ⟨_,PySem.W.mg_of XB GB cg10,rep_i.mpr ⟨tg10,rfl⟩⟩
   ·exact ⟨_,PySem.W.mg_of XB GB cg11,rep_i.mpr ⟨tg11,rfl⟩⟩
  ·obtain ⟨t,hm,rfl⟩:=bN8 (show bN6 body x=some f from hf);rw [cJ4] at hm;simp only [List.mem_cons,List.not_mem_nil,or_false,Prod.mk.injEq] at hm;rcases hm with ⟨rfl,rfl⟩
   ·refine ⟨p0,PySem.W.mg_of XB GB aT0,⟨⟨_,n0,lT0,kT0,fun y i hy=>?_,fun y hy=>?_⟩,sT0⟩⟩
    ·repeat rw [uH]
     simp only [List.lookup] at hy;split at hy
     ·rename_i q;rw [if_pos (eq_of_beq q).symm];cases hy;exact ⟨_,rfl,rep_i.mpr ⟨_,rfl⟩⟩
     rename_i q;rw [if_neg (fun z=>(beq_eq_false_iff_ne.mp q) z.symm)];clear q;split at hy
     ·rename_i q;rw [if_pos (eq_of_beq q).symm];cases hy;exact ⟨_,rfl,rep_i.mpr ⟨_,rfl⟩⟩
     rename_i q;rw [if_neg (fun z=>(beq_eq_false_iff_ne.mp q) z.symm)];clear q;split at hy
     ·rename_i q;rw [if_pos (eq_of_beq q).symm];cases hy;exact ⟨_,rfl,rep_i.mpr ⟨_,rfl⟩⟩
     rename_i q;rw [if_neg (fun z=>(beq_eq_false_iff_ne.mp q) z.symm)];clear q;split at hy
     ·rename_i q;rw [if_pos (eq_of_beq q).symm];cases hy;exact ⟨_,rfl,rep_i.mpr ⟨_,rfl⟩⟩
     rename_i q;rw [if_neg (fun z=>(beq_eq_false_iff_ne.mp q) z.symm)];clear q;cases hy
    ·repeat rw [uH]
     simp only [List.lookup] at hy
     repeat (split at hy;(cases hy);(rename_i q;rw [if_neg (fun z=>(beq_eq_false_iff_ne.mp q) z.symm)]))
     rfl
  ·have hm:=bN9 (show wW body x=some s from hs);rw [cJ5] at hm;have key:∀ p∈DFL,FR K mg p.1 p.2:=by
    repeat (refine cM2 (P:=FR K mg) ?_ ?_;(first | exact FI.ok1 (by assumption) XB GB (by kernel_rfl) (fun _ =>fun _ _ _ _ _ _=>rfl) | exact FI.ok2 (by assumption) XB GB (by kernel_rfl) (fun _ _ =>fun _ _ _ _ _ _=>rfl) | exact FI.ok3 (by assumption) XB GB (by kernel_rfl) (fun _ _ _ =>fun _ _ _ _ _ _=>rfl) | exact FI.ok4 (by assumption) XB GB (by kernel_rfl) (fun _ _ _ _ =>fun _ _ _ _ _ _=>rfl) | exact FI.ok5 (by assumption) XB GB (by kernel_rfl) (fun _ _ _ _ _ =>fun _ _ _ _ _ _=>rfl)))
    exact cM1
   exact key _ hm
  ·have h:(none:Option (Addr×Stmt))=some (C,s):=hs;cases h
  ·have h:(none:Option (Addr×Stmt))=some (C,s):=hs;cases h
  ·have h:false=true:=hf;cases h
  ·have h:(if x="taking_part" then some ((("taking_part.<locals>.":Str),(⟨200,31,200,64⟩:Pos))) else none)=some q:=hs;split at h
   ·rename_i e;cases h;subst e;exact ⟨by kernel_rfl,by kernel_rfl,fun s f fd F hf=>⟨by decide +kernel,a38.code (S:=⟨l.prog,w,K,mg,base,os,#[],301,false⟩) XB GB F hf rfl BM _⟩⟩
   ·cases h
 have TF:TopOk T ⟨l.prog,w,K,mg,base,os,#[],301,false⟩:=CI.TopOk.fv TO0 fun x hx=>by
  rw [List.contains_iff_mem] at hx;simp only [List.mem_cons,List.not_mem_nil,or_false] at hx;rcases hx with rfl | rfl
  ·exact ⟨bS4,by kernel_rfl⟩
  ·exact ⟨bS5,by kernel_rfl⟩
 subst iO;have FIN:Fun K "__init__" "NoHistory.__init__" sI fI _:=wX (st:=sI) iL iC iK;have BIN:eO K _ ["self","at"]:=FIN.binds fun us hl=>by
  match us,hl with
  | [u,v],_=>exact fun _ _ _ _ _ _=>rfl
 have XE:Er ⟨l.prog,w,K,mg,base,os,#[],301,false⟩ C J fI P:=⟨bD0 XB (PySem.W.mg_of XB GB aC) qI iL rfl,⟨PySem.F.excBase_ValueError,⟨y1,y2,y3⟩,PySem.W.mg_of XB GB aJ,j1,j2,j3⟩,⟨x1,x2,x3,x4,x5⟩,PySem.W.mg_of XB GB aJ,PySem.W.mg_of XB GB aP,bS3 XB (PySem.W.mg_of XB GB aP) qP,⟨z1,z2,z3,z4,z5⟩,eH,eN,eP,kJ,kP,kQ,⟨_,_,_,FIN,BIN⟩⟩;obtain ⟨fr,fdr,Fr,mr,br⟩:=TF.defs _ _ dR;have q:=bC3 (k:=15) (y:="_law_refused") (m:=jB) TF bD1 F73 (.inr ⟨fr,fdr,_,mr,Fr.kp,br,bR7 (d:=0) TF XE Fr⟩);rw [cJ6] at q;exact q
def walk {l:PySem.W.OpenLaw} {q:Program} {loose:List Str} {XP:(Str->Option Value)->Heap->Prop} {YP:World->Heap->Prop} {d:DefRec} {K:Params->PySem.W.Frag} {c0:Addr} (hn:l.most=some 63) (hdf:d.params.defaults=[])
  (hY:∀ (w:World) (h:Heap),YP w h->(K w.params).In h/\h.get? 301=some (PySem.W.tabObj #[])) (hKP:∀ w:World,(K w.params).lookup 301=none) (hcd:∀ w:World,PySem.W.codeHdIn (K w.params) c0 301=true)
  (F:∀ (w:World) (mg:Str->Option Value) (fa:Addr) (h:Heap) (os:OsState),(K w.params).In h->h.Ns mainGlobals mg->mg d.name=some (.ref fa) ->
   ∃ fd:FuncData,(∀ (s:Shared) (u:Value),BindsTo s fd ⟨[u],[]⟩ [("_law_script",u)])/\∀ base:Heap,(K w.params).In base->base.Ns mainGlobals mg->base.BuiltinsAt mg 301->FnS ⟨l.prog,w,K w.params,mg,base,os,#[],301,false⟩ 16 fa fd ["_law_script"] (toW (mL T 15 "_law_refused" jB "law"))) :
  PySem.W.WalkO q loose XP YP l.row.toRowW d [] (fun f vs=>PySem.call f vs) :=
 aM4 (n:=63) (k:=16) (x:="_law_script") (m:=mL T 15 "_law_refused" jB "law") hn (by decide) hdf (fun _=>⟨fun _=>rfl,by decide,by decide⟩) hY hKP hcd F fun ns _=>⟨_,bS2 ns 0⟩
end K45

open PySem PySem.W PyProof.Rows
theorem PySem.Challenge.cw_storejudge_k45_rows_asked_for_holds : PySem.Challenge.rw_storejudge_k45_rows_asked_for.Holds := by
 refine hd ?_
 k_fill
 refine K45.walk (l:=PySem.Challenge.rw_storejudge_k45_rows_asked_for) rfl rfl (fun w h Y=>⟨PySem.W.km_in_of Y,PySem.W.km_tabs_of Y 301 (by simp)⟩) (c0:=303) (fun w=>by kernel_rfl) (fun w=>by kernel_rfl) ?F
 case F =>
  intro w mg fa h os KX G hmg;refine' K45.all_mk (fI:=206) KX G hmg ?a0 ?a1 ?a2 ?a3 ?a4 ?a5 ?a6 ?a7 ?a8 ?a9 ?a10 ?a11 ?a12 ?a13 ?a14 ?a15 ?a16 ?a17 ?a18 ?a19 ?a20 ?a21 ?a22 ?a23 ?a24 ?a25 ?a26 ?a27 ?a28 ?a29 ?a30 ?a31 ?a32 ?a33 ?a34 ?a35 ?a36 ?a37 ?a38 ?a39 ?a40 ?a41 ?a42 ?a43 ?a44 ?a45 ?a46 ?a47 ?a48 ?a49 ?a50 ?a51 ?a52 ?a53 ?a54 ?a55 ?a56 ?a57 ?a58 ?a59 ?a60 ?a61 ?a62 ?a63 ?a64 ?a65 ?a66 ?a67 ?a68 ?a69 ?a70 ?a71 ?a72 ?a73 ?cg0 ?cg1 ?aQ2 ?lQ2 ?aQ3 ?lQ3 ?cg4 ?cg5 ?aQ6 ?lQ6 ?aQ7 ?lQ7 ?aQ8 ?lQ8 ?cg9 ?cg10 ?cg11 ?aT0 ?lT0 ?kT0 ?sT0 ?aC ?aJ ?aP ?iL ?iO ?iC ?iK ?qI ?qP ?eH ?eN ?eP ?kJ ?kP ?kQ ?x1 ?x2 ?x3 ?x4 ?x5 ?z1 ?z2 ?z3 ?z4 ?z5 ?y1 ?y2 ?y3 ?j1 ?j2 ?j3 ?zb
  (case a38=>refine' CI.fit_mk (c0:=303) ?a ?l ?c ?k ?hd;(case a=>k_is);(case l=>k_is);(case c=>k_is);(case k=>k_is);(case hd=>kernel_rfl))
  all_goals try (refine' CI.fi_mk ?a ?l ?c ?k;(case a=>k_is);(case l=>k_is);(case c=>k_is);(case k=>k_is))
  (case cg0=>k_is)
  (case cg1=>k_is)
  (case aQ2=>k_is);(case lQ2=>k_is)
  (case aQ3=>k_is);(case lQ3=>k_is)
  (case cg4=>k_is)
  (case cg5=>k_is)
  (case aQ6=>k_is);(case lQ6=>k_is)
  (case aQ7=>k_is);(case lQ7=>k_is)
  (case aQ8=>k_is);(case lQ8=>k_is)
  (case cg9=>k_is)
  (case cg10=>k_is)
  (case cg11=>k_is)
  (case aT0=>k_is);(case lT0=>k_is);(case kT0=>k_keys);(case sT0=>first | rfl | decide | k_is)
  (case aC=>k_is);(case aJ=>k_is);(case aP=>k_is)
  (case iL=>k_is);(case iO=>rfl);(case iC=>k_is);(case iK=>k_is)
  (case qI=>kernel_rfl);(case qP=>k_exc)
  (case eH=>kts_exm);(case eN=>kernel_rfl);(case eP=>kts_exm)
  (case kJ=>kit_is);(case kP=>kernel_rfl);(case kQ=>kit_is)
  (case x1=>k_is);(case x2=>k_is);(case x3=>k_is);(case x4=>k_is);(case x5=>k_is);(case z1=>k_is);(case z2=>k_is);(case z3=>k_is);(case z4=>k_is);(case z5=>k_is)
  (case y1=>kernel_rfl);(case y2=>k_is);(case y3=>k_is)
  (case j1=>kernel_rfl);(case j2=>kernel_rfl);(case j3=>kernel_rfl)
  (case zb=>intro b hb;simp only [CI.blAll,List.mem_cons,List.not_mem_nil,or_false] at hb;rcases hb with rfl | rfl | rfl | rfl | rfl | rfl | rfl | rfl | rfl | rfl | rfl | rfl | rfl | rfl | rfl | rfl | rfl | rfl | rfl | rfl<;>k_is)
