import PyProof.Rows.All
import Wide.All
import OpenK.AllK
import Wide.FinOn
import Lean
import PyProof.EqAt
import PyProof.EqKinds
import PyProof.TupleCall
import PyProof.TupleKey
import PyProof.Rows.TupTab
import PyProof.ListRange
import PyProof.Conv_int_bool
import PyProof.SetRoads
import PyProof.Rows.SetFrom
import PyProof.WalksMore
import KE.KLam
import KE.KNestM
import KE.KRevSl
import PyProof.ZipIter
import PyProof.EnumIter
import PyProof.EnumFor
import PyProof.EnumStmt
import KE.KSortTup
import PyProof.TupleOfSeq
import KE.KSortKey
import PyProof.WalkInts
import PyProof.EqLayable
import PySem.Challenge.RW_storejudge_k46_what_each_hand_sees
set_option genInjectivity false
set_option compiler.extract_closed false
set_option bootstrap.genMatcherCode false
set_option genSizeOf false
section
open PySem PySem.W PyProof.Rows
set_option Elab.async false
set_option maxRecDepth 100000
set_option maxHeartbeats 0
structure PySem.W.Fast:Prop where
 (tw10236635596659724773 tw861502493610598483 tw7639169818455392173 tw7774113678449685934 tw10217120247736647967 tw15063340032272140987 tw11592902740619675445 tw17590196521536335332 tw17426987436379436081 tw1985161075807479808 tw16216476560635493584 tw8318101203651539667 tw2407462832516094465 tw4705034193704625203 tw18067563643224944008 tw12960429369202013873 tw7701650113140490549 tw126342902990734186 tw14221096863170989933 tw12670982853097334264 tw9615563845995560447 tw8997383693586321770 tw12528533614272120300 tw17852080271459398996 tw13567515925198824819 tw18418582437962087742 tw14154597600763967237 tw6216382948874008006 tw17267597263503486738 tw7480016910919988345 tw384561282630992784 tw8737599933303070863 tw14760874974797668852 tw8047209995159408440 tw12768989823518198380 tw13956191218907399338 tw140001813534094272 tw1717767836212652739 tw2913531160240911109 tw18383651708701053236 tw17348111734160510231 tw16203366879757453535 tw4906484309439969231 tw12287027617447088827 tw4849480874435393781 tw15590096980072825465 tw17691633702590694504 tw16226643914720891334 tw18146532975450069615 tw14074196154385387334 tw14592624751514493413 tw14847308668706973960 tw4699756791338806529 tw514280064592716601 tw12188032599808994241 tw14961746396406840608 tw16607193741793207195 tw10295913840692754127 tw12147665669636231765 tw1998347030407657756 tw15895094517606616290 tw2135409205425526673 tw6542358382571353910 tw9387514328989991554 tw11962351593759143498 tw10510019762269167821 tw16753820520455620202 tw1142673529048489019 tw7086961617601330827 tw7424060955962978353 tw3671519592330383864 tw4046790133079468173 tw8752102160057688731 tw14537775516033599862 tw11513857634932158529 tw3365755272349913518 tw4562827626845409882 tw9947508896943372755 tw9848817304349107530 tw5101696844757716304 tw1956260828630720203 tw977512076041815475 tw16860917588515726111 tw12314708539913122752 tw3713540243193553862 tw17334828202450815106 tw2827255003249426055 tw6030501089693204938 tw87601786513091389 tw6782663255696616371 tw16203965252921439515 tw14391293386007564604 tw14746253646979254834 tw1915925776726481438 tw247591363613054380 tw6248682570935725439 tw17338325484393633139 tw8171798328758944481 tw12843764043397292189 tw3049343062529576306 tw9536688357841153863 tw15166322114958858414 tw11907897558876765624 tw11502921971960690029 tw15577281813014381367 tw14196522196718054806 tw9977182230042388008 tw4547051000311932777 tw6557801498797044033 tw8422229294311615681 tw12488014758255163090 tw3992765435912101610 tw18183970276198133131 tw10879749546641988924 tw2595585439558603231 tw10988312798546598065 tw12772213712371865176 tw14424681132571578402 tw5362036446546632119 tw17292613610259460706 tw2399617604181995578 tw14261769069557060686 tw12903330217458380548 tw991626836265849350 tw772564365185477556 tw256976265262469064 tw11692469974320434101 tw547895379624588593 tw12770481643036789091 tw6128106870883400570 tw2474200967059427378 tw542563422162235373 tw14226173905949225808 tw10294118229990073760 tw561727478393794602 tw9806118890596472461 tw8733291241859026926 tw1979317910248211280 tw2741014181512449073 tw3042748168174471775 tw15779231459743154856 tw18367749455379333440 tw6128145076113358165 tw6229817132586351632 tw16864618592142003386 tw12297992134047619483 tw12382822922155266910 tw14611616552423853409 tw4884199854448574 tw2244103112122482387 tw15433366417846715934 tw14022695629967993375 tw15042883488752021643 tw11898673842065290130 tw5622701340561072331 tw6549852094080907030 tw5217270863462422736 tw3985964047577975286 tw7164969610272591079 tw1205604411410820431 tw14564479935002850509 tw3382625519597670723 tw17659185236578331656 tw17351735930882485243 tw4635989785427082552 tw14664691819916384248 tw6472337539984862722 tw14842496431369740429 tw13622603851894308203 tw4309217394794523951 tw12652081859355081885 tw11564986514327137767 tw10792498714594961201 tw13307065042914920193 tw523537741815420091 tw4039707410889071942 tw17435391645217708394 tw10510056951384868246 tw13831308528885131752 tw896239598344801917 tw4334401890000744311 tw12740759652641322565 tw5002640475654186023 tw740290905518256060 tw14958820412457663293 tw7933485763601977624 tw14689541978594310382 tw4684226298888400098 tw4804111812005502284 tw3300257896294614128 tw2295934692909999376 tw5667099127317398114 tw11853640710764476214 tw13674586047789940208 tw6822071536725586909 tw1825952489489211193 tw896878414759379649 tw14387916025512776202 tw6858818405166986180 tw2080317491765294665 tw13953587524928339648 tw15805137534098808535 tw3374319085511977134 tw17464319187374939960 tw17318462890700432884 tw3897268976836264337 tw4493901809537577575 tw9972681490609642005 tw9950792792127014553 tw2483420100392427323 tw12408111787983249662 tw6702445572142316249 tw12138319994727072339 tw17817366049700826239 tw5872530126848033075 tw2931988195819169919 tw17613222154834848340 tw7322748291113730364 tw12099505692703838030 tw9456574344343218679 tw9646623106273453227 tw1401067106901849026 tw5285915839522022235 tw9331231397406362311 tw3953844824629472508 tw855453113358079251 tw1922157984580058403 tw11429584451438056573 tw2358075552688931204 tw9919008367099125623 tw16654469307462801742 tw17590705303994421779 tw2187251505897268136 tw16053306600634468012 tw8331849164307833061 tw6162269159774324313 tw16493865465440409018 tw15127105006835628225 tw13437419889732721216 tw5323657890516693427 tw3110587219445414310 tw4075453323654395381 tw5702276774652866934 tw866652123128751154 tw6060609690816243450 tw12798174099139212305 tw726351398001015727 tw2400638427578300857 tw10910644110388302437 tw10519837036962490867 tw1708089923452030704 tw7374399212775623666 tw11153475782318119604 tw4971374062829452455 tw8186657734068701312 tw16217903435359918192 tw18293242582946804979 tw5274481202262711730 tw14703100239697439463 tw9689729476882780088 tw8222940686941784037 tw1864683662541468164 tw2646887283097553488 tw4321966507151631593 tw15254633091992210921 tw9116068151291705539 tw11266997524610791606 tw16248296213531012650 tw8739830900816887780 tw11421057715548341654 tw443766864951011646 tw2144661209622563809 tw6575520176995025181 tw2466311954974566718 tw2789304352393801511 tw14782954611325821827 tw2455152089536381482 tw6690350156832105676 tw1495895850433845275 tw5000232492035539693 tw6469784823511061222 tw1293241653719404408 tw6170744672141170255 tw16670775579421159206 tw9402243437249704421 tw5832305185047221409 tw1158361714356455011 tw3721919958574915784 tw16636501806038632012 tw11738243743197964597 tw8899516883271353254 tw2692750590507578028 tw16298917771340976007 tw17883462748017686043 tw819570635367399668 tw6607644564249050058 tw4490611911172417597 tw1719895430356276633 tw2353497105660221152 tw13711697494001597007:True)
open_top hd for PySem.Challenge.rw_storejudge_k46_what_each_hand_sees
end
noncomputable section
theorem ZR0 (h:True:=by rfl):True:=h
def ZR:Lean.Syntax:=ZR0._auto_1
theorem ZD0 (h:True:=by decide):True:=h
def ZD:Lean.Syntax:=ZD0._auto_1
theorem ZI0 (h:True:=by intro _;rfl):True:=h
def ZI:Lean.Syntax:=ZI0._auto_1
theorem ZW0 (h:True:=by with_unfolding_all rfl):True:=h
def ZW:Lean.Syntax:=ZW0._auto_1
set_option Elab.async false
set_option linter.all false
set_option maxRecDepth 100000
set_option maxHeartbeats 4000000
namespace L2
open PySem PySem.Spec PyProof.Rows

abbrev Key:=Sum Int Str
noncomputable def oE:Key->Value->Bool
 | .inl k,v=>Value.isInt k v
 | .inr x,v=>Value.isStrOf x v
noncomputable def cG3 (w:World):Key->Int
 | .inl k=>hashInt k
 | .inr x=>hashStr w x
theorem keyIs_shape:∀ {k:Key} {v:Value},oE k v=true->(∃ i t,k=Sum.inl i/\v=Value.int i t)\/(∃ x t,k=Sum.inr x/\v=Value.str x t)
 | .inl i,v,h=>by
  obtain ⟨t,e⟩:=Value.isInt_shape (k:=i) (v:=v) h;exact .inl ⟨i,t,rfl,e⟩
 | .inr x,v,h=>by
  obtain ⟨t,e⟩:=Value.isStrOf_shape (x:=x) (v:=v) h;exact .inr ⟨x,t,rfl,e⟩
def jP (i:Int) (t:Tok):oE (.inl i) (.int i t)=true:=by simp [oE,Value.isInt]
def jQ (x:Str) (t:Tok):oE (.inr x) (.str x t)=true:=by simp [oE,Value.isStrOf]
def bA8 (a b:Int):decide ((Sum.inl a:Key)=Sum.inl b)=(a==b):=by
 by_cases e:a=b
 ·subst e;simp
 ·have h:¬ (Sum.inl a:Key)=Sum.inl b:=fun q=>e (Sum.inl.inj q);rw [decide_eq_false h];exact (beq_eq_false_iff_ne.mpr e).symm
def bA9 (a b:Str):decide ((Sum.inr a:Key)=Sum.inr b)=decide (a=b):=by
 by_cases e:a=b
 ·subst e;simp
 ·have h:¬ (Sum.inr a:Key)=Sum.inr b:=fun q=>e (Sum.inr.inj q);rw [decide_eq_false h,decide_eq_false e]
def bB0 (a:Int) (b:Str):decide ((Sum.inl a:Key)=Sum.inr b)=false:=decide_eq_false (fun q=>nomatch q)
def bB1 (a:Str) (b:Int):decide ((Sum.inr a:Key)=Sum.inl b)=false:=decide_eq_false (fun q=>nomatch q)

def bY (prog:Program) (w:World):PySem.KeyKind prog w Key where
 is:=oE
 hash:=cG3 w
 inj:=fun v a b ha hb=>by
  rcases keyIs_shape ha with ⟨i,t,rfl,rfl⟩ | ⟨x,t,rfl,rfl⟩
  ·rcases keyIs_shape hb with ⟨j,u,rfl,e⟩ | ⟨y,u,rfl,e⟩
   ·injection e with e1 _;rw [e1]
   ·exact nomatch e
  ·rcases keyIs_shape hb with ⟨j,u,rfl,e⟩ | ⟨y,u,rfl,e⟩
   ·exact nomatch e
   ·injection e with e1 _;rw [e1]
 byValue:=fun k v h=>by
  rcases keyIs_shape h with ⟨i,t,rfl,rfl⟩ | ⟨x,t,rfl,rfl⟩<;>rfl
 pyHash:=fun hv h=>by
  rcases keyIs_shape hv with ⟨i,t,rfl,rfl⟩ | ⟨x,t,rfl,rfl⟩
  ·exact wpAny_pyHash_int h
  ·exact wpAny_pyHash_str h
 eqBool:=fun hu hv h=>by
  rcases keyIs_shape hu with ⟨i,t,rfl,rfl⟩ | ⟨x,t,rfl,rfl⟩
  ·rcases keyIs_shape hv with ⟨j,u,rfl,rfl⟩ | ⟨y,u,rfl,rfl⟩
   ·rw [bA8] at h;exact wpAny_eqBool_int h
   ·rw [bB0] at h;exact SeqAt.EqAt.int_str i t y u _ _ _ _ h
  ·rcases keyIs_shape hv with ⟨j,u,rfl,rfl⟩ | ⟨y,u,rfl,rfl⟩
   ·rw [bB1] at h;exact SeqAt.EqAt.str_int x t j u _ _ _ _ h
   ·rw [bA9] at h;exact wpAny_eqBool_str h
 «strs»:=fun k x t v h=>by
  rcases keyIs_shape h with ⟨i,u,rfl,e⟩ | ⟨y,u,rfl,e⟩
  ·exact nomatch e
  ·injection e with e1 _
   subst e1;cases v<;>rfl

def rN (prog:Program) (w:World) (i:Int) (t:Tok):(bY prog w).is (.inl i) (.int i t)=true:=jP i t
def rO (prog:Program) (w:World) (x:Str) (t:Tok):(bY prog w).is (.inr x) (.str x t)=true:=jQ x t
end L2

namespace HT
open PySem PyProof.Rows

section
open PySem.SeqAt
open PySem.AutoSeq1 (wpAny_loadPart')
open PySem.MeetsSeq PySem.MeetsSeq2 PySem.MeetsSeq3

end

section
variable {prog:Program} {w:World} {A:Around} {E:Value->Shared->Prop} {s:Shared}

def cat_tup {t b:Addr} {vs ws:List Value} {Q:Value->Shared->Prop} (ht:IsTup s.heap t vs.toArray) (hb:IsTup s.heap b ws.toArray) (hv:vs≠[])
  (h1:ws=[]->Q (.ref t) s) (h2:ws≠[]->Q (.ref s.heap.objs.size) { s with heap:=s.heap.push { cls:=.type "tuple",data:=.seq (vs++ws).toArray } })
  (hsz:vs.length+ws.length<=sizeLine):wpAny (model prog w) A (binaryOp .Add (.ref t) (.ref b)) Q E s:=by
 obtain ⟨⟨cls,dd,data,sl⟩,ho,hc,n,hd⟩:=id ht;obtain ⟨⟨cls2,dd2,data2,sl2⟩,ho2,hc2,n2,hd2⟩:=id hb;simp only at hc hd hc2 hd2;subst hc hd hc2 hd2;have e:vs.toArray++ws.toArray=(vs++ws).toArray:=by simp
 by_cases hw:ws=[]
 ·exact concat_meets ⟨_,ho,rfl⟩ ⟨_,ho2,rfl⟩ noFill_tuple_add seq_tuple_add PySem.F.slot_tuple_add PySem.F.entry_tuple_add (PySem.F.args_tuple_add_2 _ _)
   (tuple_addW1 t b vs.toArray ws.toArray n n2 dd dd2 sl sl2 (by simpa using hv) (by simp [hw])) ⟨ho,ho2,h1 hw⟩
 ·refine concat_meets ⟨_,ho,rfl⟩ ⟨_,ho2,rfl⟩ noFill_tuple_add seq_tuple_add PySem.F.slot_tuple_add PySem.F.entry_tuple_add (PySem.F.args_tuple_add_2 _ _)
   (tuple_addW2 t b vs.toArray ws.toArray n n2 dd dd2 sl sl2 (by simpa using hv) (by simpa using hw) (by rw [List.size_toArray,List.size_toArray];exact hsz)) ⟨ho,ho2,?_⟩
  rw [e];exact h2 hw

noncomputable def sIx (n d:Nat):Option Int->Nat
 | none=>d
 | some v=>if v < 0 then (v+(n:Int)).toNat else min v.toNat n
def bB2 (n d:Nat) (hd:d<=n) (o:Option Int):sIx n d o<=n:=by
 cases o with
 | none=>exact hd
 | some v =>
  show (if v < 0 then (v+(n:Int)).toNat else min v.toNat n)<=n
  by_cases hv:v < 0
  ·rw [if_pos hv];omega
  ·rw [if_neg hv];exact Nat.min_le_right _ _
def wI (v:Int) (n d:Nat):(if v < 0 then max (v+(n:Int)) 0 else min v (n:Int))=((sIx n d (some v):Nat):Int):=by
 show (if v < 0 then max (v+(n:Int)) 0 else min v (n:Int))=(((if v < 0 then (v+(n:Int)).toNat else min v.toNat n):Nat):Int)
 by_cases hv:v < 0
 ·simp only [if_pos hv];omega
 ·simp only [if_neg hv];omega
def tZ (lo hi:Option Int) (n:Nat):Builtin.Slice.sliceAdjust lo hi 1 (n:Int)=(((sIx n 0 lo:Nat):Int),((sIx n n hi:Nat):Int)):=by
 have h1:¬ ((1:Int) < 0):=by omega
 unfold Builtin.Slice.sliceAdjust;simp only [h1,if_false];refine Prod.ext ?_ ?_
 ·cases lo with
  | none=>rfl
  | some v=>exact wI v n 0
 ·cases hi with
  | none=>rfl
  | some v=>exact wI v n n
def uA (i j:Nat):Builtin.Slice.slicePlaces (i:Int) (j:Int) 1=j - i:=by
 unfold Builtin.Slice.slicePlaces;have h1:(1:Int) > 0:=by omega
 simp only [h1,if_true,Int.ediv_one];split<;>omega
def lH {v:Value} {o:Option Int} {Q:Option Int->Shared->Prop} (p:IsPart v o) (h:Q o s):wpAny (model prog w) A (Builtin.Slice.slicePartIndex v) Q E s:=by
 cases p with
 | none=>exact slicePart_none h
 | int i t=>exact slicePart_int h
def sliceApplied_gen {sl:Addr} {vl vu:Value} {lo hi:Option Int} {n:Nat} {Q:Int×Int×Nat->Shared->Prop} (hs:s.heap.IsSliceOf sl vl vu .none) (pl:IsPart vl lo) (pu:IsPart vu hi)
  (h:Q (((sIx n 0 lo:Nat):Int),1,sIx n n hi - sIx n 0 lo) s):wpAny (model prog w) A (Builtin.Slice.sliceApplied (.ref sl) (pure (n:Int))) Q E s:=by
 obtain ⟨os,hos,hcs,hds⟩:=id hs;unfold Builtin.Slice.sliceApplied Builtin.Slice.sliceFields;refine wpAny_bind (wpAny_bind (wpAny_field hos hds (x:=vl) rfl (wpAny_bind (wpAny_field hos hds (x:=vu) rfl (wpAny_bind (wpAny_field hos hds (x:=.none) rfl (wpAny_pure ?_)))))));refine wpAny_bind (slicePart_none ?_);show wpAny _ _ (if ((1:Int)==0)=true then _ else _) _ _ s;rw [if_neg (by decide)];refine wpAny_bind (lH pl (wpAny_bind (lH pu (wpAny_bind (wpAny_pure ?_)))));show wpAny _ _ (match Builtin.Slice.sliceAdjust lo hi 1 (n:Int) with | (lo,hi)=>pure (lo,(1:Int),Builtin.Slice.slicePlaces lo hi 1)) _ _ s;rw [tZ lo hi n];show wpAny _ _ (pure (((sIx n 0 lo:Nat):Int),(1:Int),Builtin.Slice.slicePlaces ((sIx n 0 lo:Nat):Int) ((sIx n n hi:Nat):Int) 1)) _ _ s;rw [uA];exact wpAny_pure h
def aB4 (xs:Array Value) (i k:Nat):((List.range k).filterMap fun (m:Nat)=>xs[((i:Int)+(m:Int)*1).toNat]?).toArray=((xs.toList.drop i).take k).toArray:=by
 have e:(fun (m:Nat)=>xs[((i:Int)+(m:Int)*1).toNat]?)=fun m=>xs[i+m]?:=by
  funext m
  have:((i:Int)+(m:Int)*1).toNat=i+m:=by omega
  rw [this]
 rw [e];have:=pick_run xs i k;rw [List.filterMap_map] at this;have e2:((fun x=>xs[x]?) ∘ fun x=>i+x)=fun m=>xs[i+m]?:=rfl;rw [e2] at this;rw [this]

def getItem_tuple_cut {t sl:Addr} {items:Array Value} {vl vu:Value} {lo hi:Option Int} {Q:Value->Shared->Prop} (ht:IsTup s.heap t items) (hs:s.heap.IsSliceOf sl vl vu .none) (pl:IsPart vl lo) (pu:IsPart vu hi)
  (hw:¬ (sIx items.size 0 lo=0/\sIx items.size items.size hi=items.size))
  (h:Q (.ref s.heap.objs.size) { s with heap:=s.heap.push { cls:=.type "tuple",data:=.seq ((items.toList.drop (sIx items.size 0 lo)).take (sIx items.size items.size hi - sIx items.size 0 lo)).toArray } })
  (hsz:items.size<=sizeLine):wpAny (model prog w) A (getItem (.ref t) (.ref sl)) Q E s:=by
 have htake:sizeOk (.seq ((items.toList.drop (sIx items.size 0 lo)).take (sIx items.size items.size hi - sIx items.size 0 lo)).toArray):=by
  show ((items.toList.drop (sIx items.size 0 lo)).take (sIx items.size items.size hi - sIx items.size 0 lo)).toArray.size<=sizeLine;rw [List.size_toArray,List.length_take,List.length_drop,Array.length_toList];omega
 have hj:sIx items.size items.size hi<=items.size:=bB2 _ _ (Nat.le_refl _) hi;obtain ⟨os,hos,hcs,hds⟩:=id hs;have hTs:s.TypeIs (.ref sl) "slice":=⟨os,hos,hcs⟩;unfold getItem;try with_reducible refine wpAny_holding ?_
 first | refine wpAny_bind (wpAny_pure ?_) | skip
 refine wpAny_bind (wpAny_sequenceKey ht.typeIs (by decide) ?_);refine wpAny_bind (wpAny_callSpecial?_slot (name:=Str.ofString "__getitem__") ht.typeIs PyProof.Rows.slot_tuple_getitem
  (wpAny_call_entry PyProof.Rows.slot_tuple_getitem ht.typeIs entry_tuple_getitem ?_ (args_tuple_getitem _ _)))
 show wpAny _ _ (Builtin.Tuple.tupleItemsOf (.ref t) >>= _) _ _ s;refine wpAny_bind (tupleItemsOf_ ht ?_);refine wpAny_bind (wpAny_typeOf hTs ?_);rw [if_pos (by decide)];refine wpAny_bind (sliceApplied_gen hs pl pu ?_);have hno:¬ ((((sIx items.size 0 lo:Nat):Int)==0&&(1:Int)==1&&(sIx items.size items.size hi - sIx items.size 0 lo)==items.size)=true):=by
  intro q;rw [Bool.and_eq_true,Bool.and_eq_true] at q;have q1:((sIx items.size 0 lo:Nat):Int)=0:=eq_of_beq q.1.1;have q2:sIx items.size items.size hi - sIx items.size 0 lo=items.size:=eq_of_beq q.2;exact hw ⟨by omega,by omega⟩
 show wpAny _ _ (if (((sIx items.size 0 lo:Nat):Int)==0&&(1:Int)==1&&(sIx items.size items.size hi - sIx items.size 0 lo)==items.size)=true then _ else _) _ _ s;rw [if_neg hno,aB4]
 first
  | exact wpAny_bind (m:=Builtin.Tuple.tupleExact _) (wpAny_newObj_type (wpAny_pure ⟨_,rfl,wpAny_pure h⟩) htake)
  | exact wpAny_bind (m:=Builtin.Tuple.tupleExact _) (wpAny_newObj_type (wpAny_bind (wpAny_pure (wpAny_pure ⟨_,rfl,wpAny_pure h⟩))) htake)
  | exact wpAny_bind (wpAny_bind (m:=Builtin.Tuple.tupleExact _) (wpAny_newObj_type (wpAny_pure (wpAny_pure ⟨_,rfl,wpAny_pure h⟩)) htake))
  | exact wpAny_bind (wpAny_bind (m:=Builtin.Tuple.tupleExact _) (wpAny_newObj_type (wpAny_pure ⟨_,rfl,wpAny_pure h⟩) htake))
end
end HT

namespace DL
open PySem PySem.Spec PyProof.Rows L2
set_option genInjectivity true in
inductive W where
 | d (x:PyData)
 | c (i:Nat)
set_option genInjectivity true in
inductive Cell where
 | l (xs:List PyData)
 | k (kvs:List (PyData×PyData))
 | o (C:Addr) (fs:List (Str×W))
 | r (ws:List W)
 | n (kvs:List (PyData×PyData))
 | t (qs:List (Pos×Str))
abbrev aA:=List Cell
abbrev DSt:=List (Option W)
noncomputable def cP:PyData->Option Key
 | .int i=>some (.inl i)
 | .str x=>if PyData.strOk x=true then some (.inr x) else none
 | _=>none
section
variable {α β γ:Type} {F G:α->β->Prop}
theorem pM (f:∀ a b,F a b->G a b):∀ {l:List α} {r:List β},Paired F l r->Paired G l r
 | _,_,.nil=>.nil
 | _,_,.cons h t=>.cons (f _ _ h) (pM f t)
theorem jR:∀ {l:List α} {r:List β} {i:Nat} {a:α},Paired F l r->l[i]?=some a->∃ b,r[i]?=some b/\F a b
 | _,_,_,_,.nil,e=>by simp at e
 | _,_,0,_,.cons h _,e=>by simp at e;subst e;exact ⟨_,rfl,h⟩
 | _,_,i+1,a,.cons _ t,e=>by
  obtain ⟨b,h1,h2⟩:=jR (i:=i) (a:=a) t (by simpa using e);exact ⟨b,by simpa using h1,h2⟩
theorem bB3 {a:α} {b:β} (h:F a b):∀ {l:List α} {r:List β} (i:Nat),Paired F l r->Paired F (l.set i a) (r.set i b)
 | _,_,_,.nil=>.nil
 | _,_,0,.cons _ t=>.cons h t
 | _,_,i+1,.cons q t=>.cons q (bB3 h i t)
theorem uB:∀ {l l':List α} {r r':List β},Paired F l r->Paired F l' r'->Paired F (l++l') (r++r')
 | _,_,_,_,.nil,s=>s
 | _,_,_,_,.cons h t,s=>.cons h (uB t s)
theorem aB5:∀ {l:List α} {r:List β} (n:Nat),Paired F l r->Paired F (l.take n) (r.take n)
 | _,_,0,_=>.nil
 | _,_,_+1,.nil=>.nil
 | _,_,n+1,.cons h t=>.cons h (aB5 n t)
theorem aB6:∀ {l:List α} {r:List β} (n:Nat),Paired F l r->Paired F (l.drop n) (r.drop n)
 | _,_,0,h=>h
 | _,_,_+1,.nil=>.nil
 | _,_,n+1,.cons _ t=>aB6 n t
theorem aB7:∀ {l:List α} {r:List β} (n:Nat),Paired F l r->Paired F (l.eraseIdx n) (r.eraseIdx n)
 | _,_,_,.nil=>.nil
 | _,_,0,.cons _ t=>t
 | _,_,n+1,.cons h t=>.cons h (aB7 n t)
def cG4 {l:List α} {r:List β} (h:Paired F l r):Paired F l.reverse r.reverse:=by
 induction h with
 | nil=>exact .nil
 | cons a _ ih=>rw [List.reverse_cons,List.reverse_cons];exact Paired.snoc ih a
theorem rP {f:γ->α}:∀ {l:List γ} {r:List β},Paired (fun a b=>F (f a) b) l r->Paired F (l.map f) r
 | _,_,.nil=>.nil
 | _,_,.cons h t=>.cons h (rP t)
theorem aX9 {f:γ->α}:∀ {l:List γ} {r:List β},Paired F (l.map f) r->Paired (fun a b=>F (f a) b) l r
 | [],_,h=>by cases h;exact .nil
 | _::_,_,h=>by cases h with | cons h t=>exact .cons h (aX9 t)
end
structure Sx where
 P:Program
 w:World
 K:PySem.W.Frag
 mg:Str->Option Value
 base:Heap
 os:OsState
 tb:Array Value
 tp:Addr
abbrev Zm:=Addr->Option Obj
structure Mp where
 Z:Zm
 m:List (Addr×Addr)
abbrev Kp:=Addr->Option (Bool×Obj)
def SqO (n:String) (o:Obj) (us:List Value):Prop:=(∃ k,o={ cls:=.type n,data:=.seq us.toArray k })/\us.length<=sizeLine
def DcO (S:Sx) (a:Addr) (o:Obj) (vs:List (Key×Value)):Prop:=(a==sysModules)=false/\vs.length<=sizeLine/\∀ h:Heap,h.get? a=some o->h.DictOf (bY S.P S.w) a vs
noncomputable def gJ:List (PyData×PyData)->Option Str
 | [(.none,.str g)]=>some g
 | _=>none
noncomputable def fkD (g:Str):PyData:=.dict [(.none,.str g)]
def wJ {kvs:List (PyData×PyData)} {g:Str} (e:gJ kvs=some g):kvs=[(.none,.str g)]:=by
 unfold gJ at e;split at e
 ·cases e;rfl
 ·cases e
mutual
noncomputable def Rep (S:Sx) (Z:Zm):PyData->Value->Prop
 | .none,u=>u=.none
 | .bool b,u=>u=.bool b
 | .int i,u=>∃ t,u=.int i t
 | .str x,u=>(∃ t,u=.str x t)/\PyData.strOk x=true
 | .list xs,u=>∃ a o us,u=.ref a/\Z a=some o/\SqO "list" o us/\Reps S Z xs us
 | .tuple xs,u=>∃ a o us,u=.ref a/\Z a=some o/\SqO "tuple" o us/\Reps S Z xs us
 | .dict kvs,u=>(∃ g a,gJ kvs=some g/\u=.ref a/\S.mg g=some u)\/∃ a o vs,u=.ref a/\Z a=some o/\DcO S a o vs/\RepKs S Z kvs vs
noncomputable def Reps (S:Sx) (Z:Zm):List PyData->List Value->Prop
 | [],us=>us=[]
 | x::xs,us=>∃ u r,us=u::r/\Rep S Z x u/\Reps S Z xs r
noncomputable def RepKs (S:Sx) (Z:Zm):List (PyData×PyData)->List (Key×Value)->Prop
 | [],vs=>vs=[]
 | p::kvs,vs=>∃ q r,vs=q::r/\RepP S Z p q/\RepKs S Z kvs r
noncomputable def RepP (S:Sx) (Z:Zm):PyData×PyData->Key×Value->Prop
 | (k,x),q=>cP k=some q.1/\Rep S Z x q.2
end
section
variable {S:Sx} {Z Z':Zm}
theorem reps_iff:∀ {xs:List PyData} {us:List Value},Reps S Z xs us ↔ Paired (Rep S Z) xs us
 | [],us=>by rw [Reps];exact ⟨fun e=>e ▸ .nil,fun h=>by cases h;rfl⟩
 | x::xs,us=>by
  rw [Reps];exact ⟨fun ⟨u,r,e,h,t⟩=>e ▸ .cons h (reps_iff.mp t),fun h=>by cases h with | cons h t=>exact ⟨_,_,rfl,h,reps_iff.mpr t⟩⟩
abbrev RepK (S:Sx) (Z:Zm):List (PyData×PyData)->List (Key×Value)->Prop:=Paired fun p q=>cP p.1=some q.1/\Rep S Z p.2 q.2
theorem repks_iff:∀ {xs:List (PyData×PyData)} {us:List (Key×Value)},RepKs S Z xs us ↔ RepK S Z xs us
 | [],us=>by rw [RepKs];exact ⟨fun e=>e ▸ .nil,fun h=>by cases h;rfl⟩
 | (k,x)::xs,us=>by
  rw [RepKs];exact ⟨fun ⟨u,r,e,h,t⟩=>by rw [RepP] at h;exact e ▸ .cons h (repks_iff.mp t),fun h=>by cases h with | cons h t=>exact ⟨_,_,rfl,by rw [RepP];exact h,repks_iff.mpr t⟩⟩
def rep_l {xs:List PyData} {u:Value}:Rep S Z (.list xs) u ↔ ∃ a o us,u=.ref a/\Z a=some o/\SqO "list" o us/\Paired (Rep S Z) xs us:=by rw [Rep];simp only [reps_iff]
def rep_t {xs:List PyData} {u:Value}:Rep S Z (.tuple xs) u ↔ ∃ a o us,u=.ref a/\Z a=some o/\SqO "tuple" o us/\Paired (Rep S Z) xs us:=by rw [Rep];simp only [reps_iff]
def wK {xs:List (PyData×PyData)} {vs:List (Key×Value)} (r:RepK S Z xs vs):gJ xs=none:=by
 cases e:gJ xs with
 | none=>rfl
 | some g=>rw [wJ e] at r;cases r with | cons h _=>cases h.1
def wL {xs:List (PyData×PyData)} {u:Value} (hf:gJ xs=none):Rep S Z (.dict xs) u ↔ ∃ a o vs,u=.ref a/\Z a=some o/\DcO S a o vs/\RepK S Z xs vs:=by
 rw [Rep];simp only [repks_iff];exact ⟨fun h=>h.elim (fun ⟨g,_,e,_⟩=>by rw [hf] at e;cases e) id,.inr⟩
def uC {xs:List (PyData×PyData)} {u:Value} {g:Str} (hf:gJ xs=some g):Rep S Z (.dict xs) u ↔ (∃ a,u=.ref a)/\S.mg g=some u:=by
 rw [Rep];simp only [repks_iff];refine ⟨fun h=>h.elim (fun ⟨g',a,e,e2,e3⟩=>?_) (fun ⟨a,o,vs,_,_,_,r⟩=>?_),fun ⟨⟨a,e⟩,h⟩=>.inl ⟨g,a,hf,e,h⟩⟩
 ·rw [hf] at e;cases e;exact ⟨⟨a,e2⟩,e3⟩
 ·rw [wK r] at hf;cases hf
def bB4 {xs:List (PyData×PyData)} {u:Value} (h:Rep S Z (.dict xs) u):∃ a,u=.ref a:=by
 cases hf:gJ xs with
 | none=>obtain ⟨a,_,_,e,_⟩:=(wL hf).mp h;exact ⟨a,e⟩
 | some g=>exact ((uC hf).mp h).1
def rep_n {u:Value}:Rep S Z .none u ↔ u=.none:=by rw [Rep]
def rep_b {b:Bool} {u:Value}:Rep S Z (.bool b) u ↔ u=.bool b:=by rw [Rep]
def rep_i {i:Int} {u:Value}:Rep S Z (.int i) u ↔ ∃ t,u=.int i t:=by rw [Rep]
def rep_s {x:Str} {u:Value}:Rep S Z (.str x) u ↔ (∃ t,u=.str x t)/\PyData.strOk x=true:=by rw [Rep]
mutual
theorem Rep.go (hs:∀ a o,Z a=some o->Z' a=some o):∀ {d:PyData} {v:Value},Rep S Z d v->Rep S Z' d v
 | .none,_,h=>by rw [Rep] at h ⊢;exact h
 | .bool _,_,h=>by rw [Rep] at h ⊢;exact h
 | .int _,_,h=>by rw [Rep] at h ⊢;exact h
 | .str _,_,h=>by rw [Rep] at h ⊢;exact h
 | .list xs,_,h=>by rw [Rep] at h ⊢;obtain ⟨a,o,us,e,z,q,r⟩:=h;exact ⟨a,o,us,e,hs _ _ z,q,Reps.go hs r⟩
 | .tuple xs,_,h=>by rw [Rep] at h ⊢;obtain ⟨a,o,us,e,z,q,r⟩:=h;exact ⟨a,o,us,e,hs _ _ z,q,Reps.go hs r⟩
 | .dict xs,_,h=>by rw [Rep] at h ⊢;exact h.elim .inl fun ⟨a,o,us,e,z,q,r⟩=>.inr ⟨a,o,us,e,hs _ _ z,q,RepKs.go hs r⟩
theorem Reps.go (hs:∀ a o,Z a=some o->Z' a=some o):∀ {ds:List PyData} {vs:List Value},Reps S Z ds vs->Reps S Z' ds vs
 | [],_,h=>by rw [Reps] at h ⊢;exact h
 | x::xs,_,h=>by rw [Reps] at h ⊢;obtain ⟨v,r,e,h1,h2⟩:=h;exact ⟨v,r,e,Rep.go hs h1,Reps.go hs h2⟩
theorem RepKs.go (hs:∀ a o,Z a=some o->Z' a=some o):∀ {ds:List (PyData×PyData)} {vs:List (Key×Value)},RepKs S Z ds vs->RepKs S Z' ds vs
 | [],_,h=>by rw [RepKs] at h ⊢;exact h
 | x::xs,_,h=>by rw [RepKs] at h ⊢;obtain ⟨v,r,e,h1,h2⟩:=h;exact ⟨v,r,e,RepP.go hs h1,RepKs.go hs h2⟩
theorem RepP.go (hs:∀ a o,Z a=some o->Z' a=some o):∀ {p:PyData×PyData} {q:Key×Value},RepP S Z p q->RepP S Z' p q
 | (k,x),q,h=>by rw [RepP] at h ⊢;exact ⟨h.1,Rep.go hs h.2⟩
end
end
def RepW (S:Sx) (M:Mp):W->Value->Prop
 | .d x,u=>Rep S M.Z x u
 | .c i,u=>∃ p,M.m[i]?=some p/\u=.ref p.1
abbrev Reps' (S:Sx) (M:Mp):List PyData->List Value->Prop:=Paired (Rep S M.Z)
abbrev RepWs (S:Sx) (M:Mp):List W->List Value->Prop:=Paired (RepW S M)
structure Le (M M':Mp):Prop where
 z:∀ a o,M.Z a=some o->M'.Z a=some o
 m:∃ n,M'.m=M.m++n
def Le.refl {M:Mp}:Le M M:=⟨fun _ _ e=>e,[],by simp⟩
def Le.trans {M N O:Mp} (a:Le M N) (b:Le N O):Le M O:=⟨fun x o e=>b.z x o (a.z x o e),let ⟨n,e⟩:=a.m;let ⟨k,q⟩:=b.m;⟨n++k,by rw [q,e,List.append_assoc]⟩⟩
def Le.at {M M':Mp} (l:Le M M') {i:Nat} {p:Addr×Addr} (e:M.m[i]?=some p):M'.m[i]?=some p:=by
 obtain ⟨n,q⟩:=l.m;rw [q,List.getElem?_append_left (List.getElem?_eq_some_iff.mp e).1,e]
section
variable {S:Sx} {M M':Mp}
def RepW.go (l:Le M M') {w:W} {u:Value} (r:RepW S M w u):RepW S M' w u:=by
 cases w with
 | d x=>exact Rep.go l.z r
 | c i=>obtain ⟨p,e,q⟩:=r;exact ⟨p,l.at e,q⟩
def RepWs.go (l:Le M M') {w:List W} {u:List Value} (r:RepWs S M w u):RepWs S M' w u:=pM (fun _ _ h=>h.go l) r
def Reps'.go (l:Le M M') {w:List PyData} {u:List Value} (r:Reps' S M w u):Reps' S M' w u:=pM (fun _ _ h=>Rep.go l.z h) r
def RepK.go (l:Le M M') {w:List (PyData×PyData)} {u:List (Key×Value)} (r:RepK S M.Z w u):RepK S M'.Z w u:=pM (fun _ _ h=>⟨h.1,Rep.go l.z h.2⟩) r
end
def RelO (S:Sx) (M:Mp):Option W->Option Value->Prop
 | some v,some u=>RepW S M v u
 | none,none=>True
 | _,_=>False
theorem RelO.go {S:Sx} {M M':Mp} (l:Le M M'):∀ {a:Option W} {b:Option Value},RelO S M a b->RelO S M' a b
 | some _,some _,h=>RepW.go l h
 | none,none,h=>h
 | some _,none,h=>h.elim
 | none,some _,h=>h.elim
end DL

namespace CI
open PySem
mutual
noncomputable def aJ:Nat->PyData->Bool
 | _,.none=>true
 | _,.bool _=>true
 | _,.int _=>true
 | _,.str _=>true
 | n+1,.list xs=>plainsB n xs
 | n+1,.tuple xs=>plainsB n xs
 | _,_=>false
noncomputable def plainsB:Nat->List PyData->Bool
 | _,[]=>true
 | n,x::xs=>aJ n x&&plainsB n xs
end
mutual
noncomputable def peq:PyData->PyData->Bool
 | .none,.none=>true
 | .bool a,.bool b=>a==b
 | .int a,.int b=>a==b
 | .str a,.str b=>a==b
 | .list a,.list b=>peqs a b
 | .tuple a,.tuple b=>peqs a b
 | _,_=>false
noncomputable def peqs:List PyData->List PyData->Bool
 | [],[]=>true
 | x::a,y::b=>peq x y&&peqs a b
 | _,_=>false
end
end CI
namespace DL
open PySem PySem.Spec PyProof.Rows L2 CI
section
variable {S:Sx}
mutual
theorem Rep.reads {Z:Zm} {hp:Heap} (k:∀ a o,Z a=some o->hp.get? a=some o):∀ {d:PyData} {u:Value} (n:Nat),Rep S Z d u->aJ n d=true->(∃ as,Reads hp u d as)/\d.canLay0=true/\d.depth<=n
 | .none,_,n,h,_=>by rw [Rep] at h;subst h;exact ⟨⟨_,Reads.none⟩,by simp [PyData.canLay0,PyData.depth]⟩
 | .bool _,_,n,h,_=>by rw [Rep] at h;subst h;exact ⟨⟨_,Reads.bool _⟩,by simp [PyData.canLay0,PyData.depth]⟩
 | .int _,_,n,h,_=>by rw [Rep] at h;obtain ⟨t,rfl⟩:=h;exact ⟨⟨_,Reads.int _ _⟩,by simp [PyData.canLay0,PyData.depth]⟩
 | .str _,_,n,h,_=>by rw [Rep] at h;obtain ⟨⟨t,rfl⟩,z⟩:=h;exact ⟨⟨_,Reads.str _ _⟩,by simp [PyData.canLay0,PyData.depth,z]⟩
 | .list xs,_,0,_,p=>by cases p
 | .tuple xs,_,0,_,p=>by cases p
 | .list xs,_,n+1,h,p=>by
  rw [Rep] at h;obtain ⟨a,o,us,rfl,z,⟨⟨m,rfl⟩,_⟩,r⟩:=h;obtain ⟨⟨as,q⟩,c,l⟩:=Reps.reads k n r (show plainsB n xs=true from p);exact ⟨⟨_,Reads.list (k _ _ z) rfl rfl (by simpa using q)⟩,by simp [PyData.canLay0,PyData.depth,c,l]⟩
 | .tuple xs,_,n+1,h,p=>by
  rw [Rep] at h;obtain ⟨a,o,us,rfl,z,⟨⟨m,rfl⟩,_⟩,r⟩:=h;obtain ⟨⟨as,q⟩,c,l⟩:=Reps.reads k n r (show plainsB n xs=true from p);exact ⟨⟨_,Reads.tuple (k _ _ z) rfl rfl (by simpa using q)⟩,by simp [PyData.canLay0,PyData.depth,c,l]⟩
 | .dict _,_,n,_,p=>by cases n<;>cases p
theorem Reps.reads {Z:Zm} {hp:Heap} (k:∀ a o,Z a=some o->hp.get? a=some o):∀ {d:List PyData} {u:List Value} (n:Nat),Reps S Z d u->plainsB n d=true->(∃ as,ReadsAll hp u d as)/\PyData.canLayAll0 d=true/\PyData.depthAll d<=n
 | [],_,n,h,_=>by rw [Reps] at h;subst h;exact ⟨⟨_,ReadsAll.nil⟩,by simp [PyData.canLayAll0,PyData.depthAll]⟩
 | x::xs,_,n,h,p=>by
  rw [Reps] at h;obtain ⟨v,r,rfl,h1,h2⟩:=h
  replace p:(aJ n x&&plainsB n xs)=true:=p
  rw [Bool.and_eq_true] at p;obtain ⟨⟨as,q1⟩,c1,l1⟩:=Rep.reads k n h1 p.1;obtain ⟨⟨bs,q2⟩,c2,l2⟩:=Reps.reads k n h2 p.2;refine ⟨⟨_,ReadsAll.cons q1 q2⟩,?_⟩;simp [PyData.canLayAll0,PyData.depthAll,c1,c2];omega
end
end
end DL

namespace DL
open PySem PySem.Spec PyProof.Rows L2 CI
mutual
noncomputable def hkB:Nat->PyData->Bool
 | _,.int _=>true
 | _,.str x=>PyData.strOk x
 | n+1,.tuple xs=>hksB n xs
 | _,_=>false
noncomputable def hksB:Nat->List PyData->Bool
 | _,[]=>true
 | n,x::xs=>hkB n x&&hksB n xs
end
theorem pN {n:Nat} {x:PyData}:∀ {xs:List PyData},hksB n xs=true->x∈xs->hkB n x=true
 | y::ys,h,m=>by
  rw [hksB,Bool.and_eq_true] at h;rcases List.mem_cons.mp m with rfl | m
  ·exact h.1
  ·exact pN h.2 m
mutual
theorem gK:∀ {n m:Nat} {a b:PyData},hkB n a=true->hkB m b=true->PyData.eqv a b=peq a b/\(peq a b=true ↔ a=b)
 | _,_,.int i,.int j,_,_=>⟨rfl,by show (i==j)=true ↔ _;simp⟩
 | _,_,.int i,.str j,_,_=>⟨rfl,fun h=>(by cases h),fun h=>(by cases h)⟩
 | _,_,.int i,.tuple j,_,_=>⟨rfl,fun h=>(by cases h),fun h=>(by cases h)⟩
 | _,_,.str i,.int j,_,_=>⟨rfl,fun h=>(by cases h),fun h=>(by cases h)⟩
 | _,_,.str i,.str j,_,_=>⟨rfl,by show (i==j)=true ↔ _;simp⟩
 | _,_,.str i,.tuple j,_,_=>⟨rfl,fun h=>(by cases h),fun h=>(by cases h)⟩
 | _,_,.tuple i,.int j,_,_=>⟨rfl,fun h=>(by cases h),fun h=>(by cases h)⟩
 | _,_,.tuple i,.str j,_,_=>⟨rfl,fun h=>(by cases h),fun h=>(by cases h)⟩
 | n+1,m+1,.tuple i,.tuple j,h1,h2=>by
  rw [hkB] at h1 h2;obtain ⟨e1,e2⟩:=hks_peq h1 h2;exact ⟨e1,by show peqs i j=true ↔ _;rw [e2];simp⟩
 | 0,_,.tuple _,_,h,_=>by simp [hkB] at h
 | _,0,_,.tuple _,_,h=>by simp [hkB] at h
 | _,_,.none,_,h,_=>by simp [hkB] at h
 | _,_,.bool _,_,h,_=>by simp [hkB] at h
 | _,_,.list _,_,h,_=>by simp [hkB] at h
 | _,_,.dict _,_,h,_=>by simp [hkB] at h
 | _,_,_,.none,_,h=>by simp [hkB] at h
 | _,_,_,.bool _,_,h=>by simp [hkB] at h
 | _,_,_,.list _,_,h=>by simp [hkB] at h
 | _,_,_,.dict _,_,h=>by simp [hkB] at h
theorem hks_peq:∀ {n m:Nat} {a b:List PyData},hksB n a=true->hksB m b=true->PyData.eqvAll a b=peqs a b/\(peqs a b=true ↔ a=b)
 | _,_,[],[],_,_=>⟨rfl,fun _=>rfl,fun _=>rfl⟩
 | _,_,[],_::_,_,_=>⟨rfl,fun h=>(by cases h),fun h=>(by cases h)⟩
 | _,_,_::_,[],_,_=>⟨rfl,fun h=>(by cases h),fun h=>(by cases h)⟩
 | n,m,x::xs,y::ys,h1,h2=>by
  rw [hksB,Bool.and_eq_true] at h1 h2;obtain ⟨e1,e2⟩:=gK h1.1 h2.1;obtain ⟨e3,e4⟩:=hks_peq h1.2 h2.2;show (PyData.eqv x y&&PyData.eqvAll xs ys)=(peq x y&&peqs xs ys)/\((peq x y&&peqs xs ys)=true ↔ _);rw [e1,e3];exact ⟨rfl,by rw [Bool.and_eq_true,e2,e4,List.cons.injEq]⟩
end
abbrev HK:={ d:PyData // hkB 4 d=true }
noncomputable instance:DecidableEq HK:=fun x y=>if h:peq x.1 y.1=true then isTrue (Subtype.ext ((gK x.2 y.2).2.mp h)) else isFalse fun e=>h ((gK x.2 y.2).2.mpr (congrArg Subtype.val e))
def bN8 (x y:HK):PyData.eqv x.1 y.1=decide (x=y):=by
 rw [(gK x.2 y.2).1,Bool.eq_iff_iff,(gK x.2 y.2).2,decide_eq_true_iff];exact Subtype.ext_iff.symm
mutual
theorem lJ:∀ {n:Nat} {a:PyData},hkB n a=true->aJ n a=true
 | _,.int _,_=>by simp [aJ]
 | _,.str _,_=>by simp [aJ]
 | n+1,.tuple xs,h=>by rw [hkB] at h;rw [aJ];exact hks_plain h
 | 0,.tuple _,h=>by simp [hkB] at h
 | _,.none,h=>by simp [hkB] at h
 | _,.bool _,h=>by simp [hkB] at h
 | _,.list _,h=>by simp [hkB] at h
 | _,.dict _,h=>by simp [hkB] at h
theorem hks_plain:∀ {n:Nat} {a:List PyData},hksB n a=true->plainsB n a=true
 | _,[],_=>by simp [plainsB]
 | n,x::xs,h=>by
  rw [hksB,Bool.and_eq_true] at h;rw [plainsB,lJ h.1,hks_plain h.2];rfl
end
mutual
noncomputable def hkH (w:World):PyData->Int
 | .int i=>hashInt i
 | .str x=>hashStr w x
 | .tuple xs=>reduceHash (Builtin.Tuple.tupleHashOf (hksH w xs))
 | _=>0
noncomputable def hksH (w:World):List PyData->List Int
 | []=>[]
 | x::xs=>hkH w x::hksH w xs
end
mutual
noncomputable def hkD:PyData->Nat
 | .tuple xs=>hksD xs+1
 | _=>1
noncomputable def hksD:List PyData->Nat
 | []=>0
 | x::xs=>hkD x+hksD xs
end
theorem lK (w:World) (x:PyData):∀ xs:List PyData,hksH w (xs++[x])=hksH w xs++[hkH w x]
 | []=>by simp [hksH]
 | y::ys=>by rw [List.cons_append,hksH,hksH,lK w x ys];rfl
theorem lL (x:PyData):∀ xs:List PyData,hksD (xs++[x])=hksD xs+hkD x
 | []=>by simp [hksD]
 | y::ys=>by rw [List.cons_append,hksD,hksD,lL x ys];omega
section
variable {S:Sx} {A:Around} {E:Value->Shared->Prop} {s:Shared}
def pO {Z:Zm} {xs:List PyData} {v:Value} (r:Rep S Z (.tuple xs) v):∃ a n us,v=.ref a/\Z a=some { cls:=.type "tuple",data:=.seq us.toArray n }/\Paired (Rep S Z) xs us:=by
 obtain ⟨a,o,us,rfl,z,⟨⟨n,rfl⟩,_⟩,rr⟩:=rep_t.mp r;exact ⟨a,n,us,rfl,z,rr⟩
def aO7:∀ (n:Nat) {d:PyData} {v:Value} {A:Around} {s:Shared} {Q:Int->Shared->Prop},hkB n d=true->Rep S s.heap.get? d v->A.units+n < cLine->Q (hkH S.w d) { s with toks:=s.toks+hkD d }->wpAny (model S.P S.w) A (pyHash v) Q E s:=by
 intro n;induction n with
 | zero =>
  intro d v A s Q hd r hu h;cases d with
  | int i=>obtain ⟨t,rfl⟩:=rep_i.mp r;exact (bY S.P S.w).pyHash (k:=.inl i) (jP i t) (by simp only [hkD,hkH] at h;exact h)
  | str x=>obtain ⟨⟨t,rfl⟩,_⟩:=rep_s.mp r;exact (bY S.P S.w).pyHash (k:=.inr x) (jQ x t) (by simp only [hkD,hkH] at h;exact h)
  | _=>simp [hkB] at hd
 | succ n ih =>
  intro d v A s Q hd r hu h;cases d with
  | int i=>obtain ⟨t,rfl⟩:=rep_i.mp r;exact (bY S.P S.w).pyHash (k:=.inl i) (jP i t) (by simp only [hkD,hkH] at h;exact h)
  | str x=>obtain ⟨⟨t,rfl⟩,_⟩:=rep_s.mp r;exact (bY S.P S.w).pyHash (k:=.inr x) (jQ x t) (by simp only [hkD,hkH] at h;exact h)
  | tuple xs =>
   rw [hkB] at hd;obtain ⟨a,k,us,rfl,ho,rr⟩:=pO r;have hT:s.TypeIs (.ref a) "tuple":=⟨_,ho,rfl⟩;unfold pyHash
   first | unfold pyHashByItsType | skip
   first | refine wpAny_bind (wpAny_cRoomFor_or (.inr (by omega)) ?_) | skip
   refine wpAny_bind (wpAny_specialOf hT F.slot_tuple_hash.lookup ?_);show wpAny _ _ (if (some (Value.builtin "tuple.__hash__")==some Value.none)=true then _ else _) Q E s;rw [if_neg (by rw [beq_builtin_none];exact Bool.false_ne_true)];refine wpAny_bind (wpAny_specialOf hT F.slot_tuple_hash.lookup ?_);show wpAny _ _ (callSpecialIfBoundUnlessNone? (.ref a) "__hash__" _ >>= _) Q E s;refine wpAny_bind (wpAny_callSpecialIfBoundUnlessNone?_slot hT F.slot_tuple_hash (wpAny_call_entry F.slot_tuple_hash hT F.entry_tuple_hash ?_ (F.args_tuple_hash_1 _)));show wpAny _ _ (Builtin.Tuple.tupleItemsOf (.ref a) >>= _) _ _ s;refine wpAny_bind (wpAny_tupleItemsOf ho rfl ?_);refine wpAny_bind ?_;rw [<- Array.forIn_toList];refine wpAny_forIn_list _
    (fun rest (b:Array Int) s'=>∃ done left,xs=done++left/\Paired (Rep S s.heap.get?) left rest/\b.toList=hksH S.w done/\s'={ s with toks:=s.toks+hksD done })
    _ ?_ ?_ _ _ ⟨[],xs,rfl,rr,by simp [hksH],by simp [hksD]⟩
   ·rintro x rest b s' ⟨done,left,rfl,hl,hb,rfl⟩;cases hl with
    | @cons y _ ys _ h1 hl' =>
     refine wpAny_bind (ih (pN hd (by simp)) h1 (by first | exact Nat.lt_of_le_of_lt (Nat.le_of_eq (by show A.units+1+n=A.units+(n+1);omega)) hu | omega) ?_)
     first
      | exact wpAny_pure ⟨done++[y],ys,by simp,hl',by rw [lK];simp [hb],by rw [lL,Nat.add_assoc]⟩
      | exact wpAny_bind (wpAny_pure (wpAny_pure ⟨done++[y],ys,by simp,hl',by rw [lK];simp [hb],by rw [lL,Nat.add_assoc]⟩))
   ·rintro b s' ⟨done,left,rfl,hl,hb,rfl⟩;cases hl;rw [List.append_nil] at h;show wpAny _ _ (retInt (Builtin.Tuple.tupleHashOf b.toList)) _ _ _;rw [hb];refine wpAny_ret_mkInt ?_;show wpAny _ _ (if (decide (-(2:Int)^63<=Builtin.Tuple.tupleHashOf (hksH S.w done))&&decide (Builtin.Tuple.tupleHashOf (hksH S.w done) < 2^63))=true then _ else _) Q E _;rw [hkH,hkD] at h;unfold reduceHash at h
    by_cases hr:(decide (-(2:Int)^63<=Builtin.Tuple.tupleHashOf (hksH S.w done))&&decide (Builtin.Tuple.tupleHashOf (hksH S.w done) < 2^63))=true
    ·rw [if_pos hr];rw [if_pos hr] at h;exact wpAny_pure (by simpa [Nat.add_assoc] using h)
    ·rw [if_neg hr];rw [if_neg hr] at h;exact wpAny_bind (wpAny_rule (wpAny_pure (by simpa [Nat.add_assoc] using h)))
  | _=>simp [hkB] at hd
def aB8:∀ (n m:Nat) {d:PyData} {v:Value} {s:Shared} {Q:Bool->Shared->Prop},n<=m->hkB n d=true->Rep S s.heap.get? d v->Q true s->wpAny (model S.P S.w) A (eqIsQuiet m v) Q E s:=by
 intro n;induction n with
 | zero =>
  intro m d v s Q _ hd r h;cases d with
  | int i=>obtain ⟨t,rfl⟩:=rep_i.mp r;rw [eqIsQuiet_byValue _ rfl];exact wpAny_pure h
  | str x=>obtain ⟨⟨t,rfl⟩,_⟩:=rep_s.mp r;rw [eqIsQuiet_byValue _ rfl];exact wpAny_pure h
  | _=>simp [hkB] at hd
 | succ n ih =>
  intro m d v s Q hm hd r h;cases d with
  | int i=>obtain ⟨t,rfl⟩:=rep_i.mp r;rw [eqIsQuiet_byValue _ rfl];exact wpAny_pure h
  | str x=>obtain ⟨⟨t,rfl⟩,_⟩:=rep_s.mp r;rw [eqIsQuiet_byValue _ rfl];exact wpAny_pure h
  | tuple xs =>
   rw [hkB] at hd;obtain ⟨a,k,us,rfl,ho,rr⟩:=pO r;have hT:s.TypeIs (.ref a) "tuple":=⟨_,ho,rfl⟩;obtain ⟨m,rfl⟩:∃ k,m=k+1:=⟨m - 1,by omega⟩;unfold eqIsQuiet;refine wpAny_bind (wpAny_specialOf hT F.slot_tuple_eq.lookup ?_);show wpAny _ _ (isInstance (.ref a) (.type "tuple") >>= _) _ _ s;refine wpAny_bind (wpAny_isInstance hT isSubtype_tuple_tuple ?_);simp only [Bool.not_true,Bool.false_eq_true,if_false];refine wpAny_bind (wpAny_seqItems ho rfl ?_);refine wpAny_bind ?_;show wpAny _ _ (forIn us.toArray _ _) _ _ s;rw [<- Array.forIn_toList];refine wpAny_forIn_list _ (fun rest r s'=>r.1=none/\s'=s/\∃ done left,xs=done++left/\Paired (Rep S s.heap.get?) left rest) _ ?_ ?_ _ _ ⟨rfl,rfl,[],xs,rfl,rr⟩
   ·rintro v rest r s' ⟨hr,rfl,done,left,rfl,hl⟩;cases hl with
    | @cons y _ ys _ h1 hl' =>
     refine wpAny_bind (ih m (by omega) (pN hd (by simp)) h1 ?_);simp only [Bool.not_true,Bool.false_eq_true,if_false];exact wpAny_pure ⟨rfl,rfl,done++[y],ys,by simp,hl'⟩
   ·rintro ⟨r1,r2⟩ s' ⟨hr,rfl,_⟩;simp only at hr;subst hr;exact wpAny_pure h
  | _=>simp [hkB] at hd
def aO8 {Z Z':Zm} (k:∀ a o us n,Z a=some o->o.data=.seq us n->Z' a=some o):∀ (n:Nat) {d:PyData} {v:Value},hkB n d=true->Rep S Z d v->Rep S Z' d v:=by
 intro n;induction n with
 | zero =>
  intro d v hd r;cases d with
  | int i=>exact rep_i.mpr (rep_i.mp r)
  | str x=>exact rep_s.mpr (rep_s.mp r)
  | _=>simp [hkB] at hd
 | succ n ih =>
  intro d v hd r;cases d with
  | int i=>exact rep_i.mpr (rep_i.mp r)
  | str x=>exact rep_s.mpr (rep_s.mp r)
  | tuple xs =>
   rw [hkB] at hd;obtain ⟨a,o,us,rfl,z,⟨⟨m,rfl⟩,hz⟩,rr⟩:=rep_t.mp r;refine rep_t.mpr ⟨a,_,us,rfl,k _ _ _ _ z rfl,⟨⟨m,rfl⟩,hz⟩,?_⟩;clear r z hz;induction rr with
   | nil=>exact .nil
   | cons h1 _ ih2 =>
    rw [hksB,Bool.and_eq_true] at hd;exact .cons (ih hd.1 h1) (ih2 hd.2)
  | _=>simp [hkB] at hd
def bB5 {Z:Zm}:∀ (n m:Nat) {a b:PyData} {v:Value},hkB n a=true->hkB m b=true->Rep S Z a v->Rep S Z b v->a=b:=by
 intro n;induction n with
 | zero =>
  intro m a b v ha hb ra rb;cases a with
  | int i =>
   obtain ⟨t,rfl⟩:=rep_i.mp ra;cases b with
   | int j=>obtain ⟨t',e⟩:=rep_i.mp rb;cases e;rfl
   | str x=>obtain ⟨⟨t',e⟩,_⟩:=rep_s.mp rb;cases e
   | tuple x=>obtain ⟨_,_,_,e,_⟩:=rep_t.mp rb;cases e
   | _=>simp [hkB] at hb
  | str x =>
   obtain ⟨⟨t,rfl⟩,_⟩:=rep_s.mp ra;cases b with
   | int j=>obtain ⟨t',e⟩:=rep_i.mp rb;cases e
   | str x=>obtain ⟨⟨t',e⟩,_⟩:=rep_s.mp rb;cases e;rfl
   | tuple x=>obtain ⟨_,_,_,e,_⟩:=rep_t.mp rb;cases e
   | _=>simp [hkB] at hb
  | _=>simp [hkB] at ha
 | succ n ih =>
  intro m a b v ha hb ra rb;cases a with
  | int i =>
   obtain ⟨t,rfl⟩:=rep_i.mp ra;cases b with
   | int j=>obtain ⟨t',e⟩:=rep_i.mp rb;cases e;rfl
   | str x=>obtain ⟨⟨t',e⟩,_⟩:=rep_s.mp rb;cases e
   | tuple x=>obtain ⟨_,_,_,e,_⟩:=rep_t.mp rb;cases e
   | _=>simp [hkB] at hb
  | str x =>
   obtain ⟨⟨t,rfl⟩,_⟩:=rep_s.mp ra;cases b with
   | int j=>obtain ⟨t',e⟩:=rep_i.mp rb;cases e
   | str x=>obtain ⟨⟨t',e⟩,_⟩:=rep_s.mp rb;cases e;rfl
   | tuple x=>obtain ⟨_,_,_,e,_⟩:=rep_t.mp rb;cases e
   | _=>simp [hkB] at hb
  | tuple xs =>
   obtain ⟨a,k,us,rfl,z,rr⟩:=pO ra;cases b with
   | int j=>obtain ⟨t',e⟩:=rep_i.mp rb;cases e
   | str x=>obtain ⟨⟨t',e⟩,_⟩:=rep_s.mp rb;cases e
   | tuple ys =>
    cases m with
    | zero=>simp [hkB] at hb
    | succ m =>
     rw [hkB] at ha hb;obtain ⟨a',k',us',e,z',rr'⟩:=pO rb;cases e;rw [z] at z';injection z' with z'
     injection z' with _ _ z' _
     injection z' with z' _
     have e2:us=us':=by have:=congrArg Array.toList z';simpa using this
     subst e2;clear z z' ra rb
     congr 1
     induction rr generalizing ys with
     | nil=>cases rr';rfl
     | cons h1 _ ih2 =>
      cases rr' with
      | cons h2 t2 =>
       rw [hksB,Bool.and_eq_true] at ha hb;rw [ih m ha.1 hb.1 h1 h2,ih2 ha.2 _ hb.2 t2]
   | _=>simp [hkB] at hb
  | _=>simp [hkB] at ha
def lM (S:Sx):HeapKind S.P S.w HK where
 is:=fun h k a=>Rep S h.get? k.1 (.ref a)
 hash:=fun k=>hkH S.w k.1
 draws:=fun k=>hkD k.1
 room:=fun A=>A.units+5 < cLine
 inj:=fun {h a x y} hx hy=>Subtype.ext (bB5 4 4 x.2 y.2 hx hy)
 keeps:=fun {h h' k a d o es ep} hk ho hd hs=>aO8 (fun b ob us n e q=>(hs.2 b fun z=>by rw [z,ho] at e;cases e;rw [hd] at q;cases q).trans e) 4 k.2 hk
 pyHash:=fun {A E s k a Q} hu hk h=>aO7 4 k.2 hk (by omega) h
 eqBool:=fun {A E s x y a b Q} hu hx hy h=>by
  obtain ⟨⟨as,r1⟩,c1,d1⟩:=Rep.reads (hp:=s.heap) (fun _ _ e=>e) 4 hx (lJ x.2);obtain ⟨⟨bs,r2⟩,c2,d2⟩:=Rep.reads (hp:=s.heap) (fun _ _ e=>e) 4 hy (lJ y.2);exact SeqAt.eqBoolOverData _ _ A E s _ _ _ _ as bs Q r1 r2 c1 c2 (by have:=Nat.min_le_left x.1.depth y.1.depth;omega) (by rw [bN8];exact h)
 quiet:=fun {A E s k a Q} hk h=>aB8 4 8 (by decide) k.2 hk h
end
end DL

namespace DL
open PySem PySem.Spec PyProof.Rows L2
noncomputable def dB:List (Pos×Str)->List Addr->List Value
 | q::qs,c::cs=>rawInt q.1.line::rawInt q.1.col::.ref c::dB qs cs
 | _,_=>[]
def aY0 (Z:Zm) (q:Pos×Str) (c:Addr):Prop:=∃ o vs t,Z c=some o/\o.data=.fields vs/\vs[1]?=some (.str q.2 t)
def NdO (S:Sx) (h:Heap) (d:Addr) (xs:List (HK×Addr×Value)):Prop:=∃ o es ep,h.get? d=some o/\o.ExactDict/\o.data=.dict es ep/\es.toList=xs.map (entryOfKey (lM S))/\(xs.map (·.1)).Nodup
def lO (S:Sx) (Z:Zm):List (PyData×PyData)->List (HK×Addr×Value)->Prop:=Paired fun q x=>q.1=x.1.1/\Rep S Z q.1 (.ref x.2.1)/\Rep S Z q.2 x.2.2
abbrev aU (us:List Value) (n:Nat):Obj:={ cls:=.type "list",data:=.seq us.toArray n }
def CellOk (S:Sx) (M:Mp) (h:Heap) (p:Addr×Addr):Cell->Prop
 | .l xs=>∃ us n,h.get? p.1=some (aU us n)/\us.length<=sizeLine/\Reps' S M xs us
 | .r is=>∃ us n,h.get? p.1=some (aU us n)/\us.length<=sizeLine/\RepWs S M is us
 | .k kvs=>∃ vs,h.DictOf (bY S.P S.w) p.1 vs/\RepK S M.Z kvs vs/\(p.1==sysModules)=false/\vs.length<=sizeLine
 | .n kvs=>∃ xs,NdO S h p.1 xs/\lO S M.Z kvs xs/\(p.1==sysModules)=false/\xs.length<=sizeLine
 | .t qs=>∃ cs,h.get? p.1=some { cls:=.none,data:=.fields (S.tb++(dB qs cs).toArray) }/\Paired (aY0 M.Z) qs cs/\p=(S.tp,S.tp)
 | .o C fs=>p.2≠p.1/\fs.length<=1000/\h.get? p.1=some (PySem.W.instObj C p.2)/\∃ mA,h.Ns1 p.2 mA/\(∀ f,RelO S M (fs.lookup f) (mA f))/\PySem.Within mA (fs.map (·.1))
def CellOk.go {S:Sx} {M M':Mp} {h h':Heap} {p:Addr×Addr} {c:Cell} (l:Le M M') (k:∀ a o,(a=p.1\/a=p.2)->h.get? a=some o->h'.get? a=some o) (x:CellOk S M h p c):CellOk S M' h' p c:=by
 cases c with
 | l xs=>obtain ⟨us,n,e,z,r⟩:=x;exact ⟨us,n,k _ _ (.inl rfl) e,z,r.go l⟩
 | r xs=>obtain ⟨us,n,e,z,r⟩:=x;exact ⟨us,n,k _ _ (.inl rfl) e,z,r.go l⟩
 | k xs=>obtain ⟨vs,⟨o,es,ep,e,q⟩,r,z⟩:=x;exact ⟨vs,⟨o,es,ep,k _ _ (.inl rfl) e,q⟩,r.go l,z⟩
 | t qs=>obtain ⟨cs,e,r,ep⟩:=x;exact ⟨cs,k _ _ (.inl rfl) e,pM (fun _ _ ⟨o,vs,t,a,b⟩=>⟨o,vs,t,l.z _ _ a,b⟩) r,ep⟩
 | n xs=>obtain ⟨vs,⟨o,es,ep,e,q⟩,r,z⟩:=x;exact ⟨vs,⟨o,es,ep,k _ _ (.inl rfl) e,q⟩,pM (fun _ _ t=>⟨t.1,Rep.go l.z t.2.1,Rep.go l.z t.2.2⟩) r,z⟩
 | o C fs=>obtain ⟨a,b,e,mA,⟨o,es,ep,e2,q⟩,r,z⟩:=x;exact ⟨a,b,k _ _ (.inl rfl) e,mA,⟨o,es,ep,k _ _ (.inr rfl) e2,q⟩,fun f=>(r f).go l,z⟩
def bA (κ:Kp) (M:Mp) (a:Addr):Prop:=M.Z a=none/\κ a=none/\∀ p∈M.m,p.1≠a/\p.2≠a
structure Mem (S:Sx) (κ:Kp) (M:Mp) (h:aA) (s:Shared):Prop where
 z:∀ a o,M.Z a=some o->s.heap.get? a=some o
 k:∀ a b o,κ a=some (b,o)->(b=true->s.heap.get? a=some o)/\(∃ sl,s.heap.get? a=some { o with slots:=sl })/\M.Z a=none
 len:M.m.length=h.length
 ap:∀ (i j:Nat) (p q:Addr×Addr),M.m[i]?=some p->M.m[j]?=some q->i≠j->p.1≠q.1/\p.1≠q.2/\p.2≠q.1/\p.2≠q.2
 off:∀ p∈M.m,∀ a,a=p.1\/a=p.2->M.Z a=none/\κ a=none/\∃ o,s.heap.get? a=some o
 cel:∀ (i:Nat) p c,M.m[i]?=some p->h[i]?=some c->CellOk S M s.heap p c
 base:∀ a o,S.base.get? a=some o->M.Z a=some o
 bare:AllBare s.gens
 os:s.os=S.os
section
variable {S:Sx} {κ:Kp} {M M':Mp} {h:aA} {s s':Shared} {h':Heap} {a:Addr} {o:Obj}
def Mem.bk (R:Mem S κ M h s):∀ b o,S.base.get? b=some o->s.heap.get? b=some o:=fun b o e=>R.z b o (R.base b o e)
def Mem.new (R:Mem S κ M h s) (e:s.heap.get? a=none):bA κ M a:=by
 refine ⟨?_,?_,fun p hp=>?_⟩
 ·cases q:M.Z a with
  | none=>rfl
  | some o=>rw [R.z a o q] at e;cases e
 ·cases q:κ a with
  | none=>rfl
  | some x=>obtain ⟨_,⟨_,z⟩,_⟩:=R.k a x.1 x.2 q;rw [z] at e;cases e
 ·refine ⟨fun z=>?_,fun z=>?_⟩
  ·obtain ⟨_,_,_,q⟩:=R.off p hp a (.inl z.symm);rw [q] at e;cases e
  ·obtain ⟨_,_,_,q⟩:=R.off p hp a (.inr z.symm);rw [q] at e;cases e
def Mem.size (R:Mem S κ M h s):bA κ M s.heap.objs.size:=R.new (Heap.get?_none_of_le (Nat.le_refl _))
def Mem.keep (R:Mem S κ M h s) (k:∀ b o,s.heap.get? b=some o->¬ bA κ M b->s'.heap.get? b=some o) (hg:AllBare s'.gens) (ho:s'.os=s.os):Mem S κ M h s' where
 z:=fun b o e=>k b o (R.z b o e) fun f=>by rw [f.1] at e;cases e
 k:=fun b t o e=>by
  have nf:¬ bA κ M b:=fun f=>by rw [f.2.1] at e;cases e
  obtain ⟨h1,⟨sl,h2⟩,h3⟩:=R.k b t o e;exact ⟨fun z=>k b o (h1 z) nf,⟨sl,k b _ h2 nf⟩,h3⟩
 len:=R.len
 ap:=R.ap
 off:=fun p hp b hb=>by
  obtain ⟨h1,h2,o,h3⟩:=R.off p hp b hb;exact ⟨h1,h2,o,k b o h3 fun f=>by rcases hb with e | e;exact (f.2.2 p hp).1 e.symm;exact (f.2.2 p hp).2 e.symm⟩
 cel:=fun i p c e1 e2=>(R.cel i p c e1 e2).go .refl fun b o hb q=>k b o q fun f=>by
  have hp:=List.mem_of_getElem? e1;rcases hb with e | e;exact (f.2.2 p hp).1 e.symm;exact (f.2.2 p hp).2 e.symm
 base:=R.base
 bare:=hg
 os:=ho.trans R.os
def Mem.kept {t:Nat} (R:Mem S κ M h s) (k:∀ b o,s.heap.get? b=some o->h'.get? b=some o):Mem S κ M h { s with heap:=h',toks:=t }:=R.keep (fun b o e _=>k b o e) R.bare rfl
def Mem.tok (R:Mem S κ M h s) (t:Nat):Mem S κ M h { s with toks:=t }:=R.kept (h':=s.heap) fun _ _ e=>e
noncomputable def Mp.add (M:Mp) (a:Addr) (o:Obj):Mp:=⟨fun b=>if b=a then some o else M.Z b,M.m⟩
def jB:(M.add a o).Z a=some o:=if_pos rfl
def Le.add (f:M.Z a=none):Le M (M.add a o):=⟨fun b u e=>by
 show (if b=a then some o else M.Z b)=some u;rw [if_neg (fun z=>by rw [z,f] at e;cases e)];exact e,[],by simp [Mp.add]⟩
def Mem.frz (R:Mem S κ M h s) (f:bA κ M a) (e:s.heap.get? a=some o):Mem S κ (M.add a o) h s where
 z:=fun b u q=>by
  by_cases hb:b=a
  ·subst hb;rw [jB] at q;cases q;exact e
  ·exact R.z b u (by rw [<- q];exact (if_neg hb).symm)
 k:=fun b t u q=>by
  obtain ⟨h1,h2,h3⟩:=R.k b t u q;refine ⟨h1,h2,?_⟩;show (if b=a then some o else M.Z b)=none;rw [if_neg (fun z=>by rw [z,f.2.1] at q;cases q)];exact h3
 len:=R.len
 ap:=R.ap
 off:=fun p hp b hb=>by
  obtain ⟨h1,h2,h3⟩:=R.off p hp b hb;refine ⟨?_,h2,h3⟩;show (if b=a then some o else M.Z b)=none;rw [if_neg (fun z=>by rcases hb with e | e;exact (f.2.2 p hp).1 (e.symm.trans z);exact (f.2.2 p hp).2 (e.symm.trans z))];exact h1
 cel:=fun i p c e1 e2=>(R.cel i p c e1 e2).go (.add f.1) fun _ _ _ q=>q
 base:=fun b u q=>(Le.add f.1).z b u (R.base b u q)
 bare:=R.bare
 os:=R.os
noncomputable def Mp.cel (M:Mp) (p:Addr×Addr):Mp:=⟨M.Z,M.m++[p]⟩
def Le.cel {p:Addr×Addr}:Le M (M.cel p):=⟨fun _ _ e=>e,[p],rfl⟩
def snoc_at {α:Type} {l:List α} {x y:α} {i:Nat} (e:(l++[x])[i]?=some y):l[i]?=some y\/(i=l.length/\y=x):=by
 by_cases hi:i < l.length
 ·rw [List.getElem?_append_left hi] at e;exact .inl e
 ·rw [List.getElem?_append_right (by omega)] at e;have:i - l.length=0:=by
   have:=(List.getElem?_eq_some_iff.mp e).1;simp at this;omega
  rw [this] at e;exact .inr ⟨by omega,by simpa using e.symm⟩
def Mem.add {p:Addr×Addr} {c:Cell} (R:Mem S κ M h s) (f:bA κ M p.1) (g:bA κ M p.2) (ep:(∃ o,s.heap.get? p.1=some o)/\∃ o,s.heap.get? p.2=some o) (x:CellOk S (M.cel p) s.heap p c):Mem S κ (M.cel p) (h++[c]) s where
 z:=R.z
 k:=R.k
 len:=by show (M.m++[p]).length=_;simp [R.len]
 ap:=fun i j q r e1 e2 ne=>by
  rcases snoc_at (show (M.m++[p])[i]?=some q from e1) with z1 | ⟨z1,y1⟩<;>rcases snoc_at (show (M.m++[p])[j]?=some r from e2) with z2 | ⟨z2,y2⟩
  ·exact R.ap i j q r z1 z2 ne
  ·have hq:=List.mem_of_getElem? z1;rw [y2];exact ⟨(f.2.2 q hq).1,(g.2.2 q hq).1,(f.2.2 q hq).2,(g.2.2 q hq).2⟩
  ·have hq:=List.mem_of_getElem? z2;rw [y1];exact ⟨(f.2.2 r hq).1.symm,(f.2.2 r hq).2.symm,(g.2.2 r hq).1.symm,(g.2.2 r hq).2.symm⟩
  ·omega
 off:=fun q hq b hb=>by
  rcases List.mem_append.mp (show q∈M.m++[p] from hq) with hq | hq
  ·exact R.off q hq b hb
  ·rw [List.mem_singleton.mp hq] at hb;rcases hb with e | e
   ·subst e;exact ⟨f.1,f.2.1,ep.1⟩
   ·subst e;exact ⟨g.1,g.2.1,ep.2⟩
 cel:=fun i q d e1 e2=>by
  rcases snoc_at (show (M.m++[p])[i]?=some q from e1) with e3 | ⟨e3,rfl⟩
  ·rw [List.getElem?_append_left (by rw [<- R.len];exact (List.getElem?_eq_some_iff.mp e3).1)] at e2;exact (R.cel i q d e3 e2).go .cel fun _ _ _ q=>q
  ·rcases snoc_at e2 with e2 | ⟨e2,rfl⟩
   ·have:=(List.getElem?_eq_some_iff.mp e2).1;rw [<- R.len] at this;omega
   ·exact x
 base:=R.base
 bare:=R.bare
 os:=R.os
def Mem.wr {i:Nat} {p:Addr×Addr} {c:Cell} (R:Mem S κ M h s) (ei:M.m[i]?=some p) (k:∀ b o,b≠p.1->b≠p.2->s.heap.get? b=some o->s'.heap.get? b=some o) (ep:(∃ o,s'.heap.get? p.1=some o)/\∃ o,s'.heap.get? p.2=some o)
  (hg:AllBare s'.gens) (ho:s'.os=s.os) (x:CellOk S M s'.heap p c):Mem S κ M (h.set i c) s':=by
 have hp:=List.mem_of_getElem? ei;have o1:=R.off p hp p.1 (.inl rfl);have o2:=R.off p hp p.2 (.inr rfl);refine ⟨fun b u e=>k b u (fun z=>?_) (fun z=>?_) (R.z b u e),fun b t u e=>?_,by rw [List.length_set];exact R.len,R.ap,fun q hq b hb=>?_,fun j q d e1 e2=>?_,R.base,hg,ho.trans R.os⟩
 ·rw [z,o1.1] at e;cases e
 ·rw [z,o2.1] at e;cases e
 ·obtain ⟨h1,⟨sl,h2⟩,h3⟩:=R.k b t u e;have n1:b≠p.1:=fun z=>by rw [z,o1.2.1] at e;cases e
  have n2:b≠p.2:=fun z=>by rw [z,o2.2.1] at e;cases e
  exact ⟨fun z=>k b u n1 n2 (h1 z),⟨sl,k b _ n1 n2 h2⟩,h3⟩
 ·obtain ⟨h1,h2,u,h3⟩:=R.off q hq b hb;refine ⟨h1,h2,?_⟩
  by_cases z1:b=p.1
  ·rw [z1];exact ep.1
  by_cases z2:b=p.2
  ·rw [z2];exact ep.2
  exact ⟨u,k b u z1 z2 h3⟩
 ·by_cases ij:i=j
  ·subst ij;rw [ei] at e1;cases e1;rw [List.getElem?_set_self (by rw [<- R.len];exact (List.getElem?_eq_some_iff.mp ei).1)] at e2;cases e2;exact x
  ·rw [List.getElem?_set_ne ij] at e2;obtain ⟨a1,a2,a3,a4⟩:=R.ap i j p q ei e1 ij;refine (R.cel j q d e1 e2).go .refl fun b u hb e=>k b u ?_ ?_ e
   ·rcases hb with z | z;exact fun y=>a1 (y.symm.trans z);exact fun y=>a2 (y.symm.trans z)
   ·rcases hb with z | z;exact fun y=>a3 (y.symm.trans z);exact fun y=>a4 (y.symm.trans z)
def Mem.less {κ':Kp} (R:Mem S κ' M h s) (k:∀ a x,κ a=some x->κ' a=some x):Mem S κ M h s :=
 ⟨R.z,fun a b o e=>R.k a b o (k a _ e),R.len,R.ap,fun p hp a ha=>(by
  obtain ⟨h1,h2,h3⟩:=R.off p hp a ha;refine ⟨h1,?_,h3⟩;cases q:κ a with
  | none=>rfl
  | some x=>rw [k a x q] at h2;cases h2),R.cel,R.base,R.bare,R.os⟩
noncomputable def Kp.up (κ:Kp) (a:Addr) (x:Bool×Obj):Kp:=fun b=>if b=a then some x else κ b
def eK {x:Bool×Obj}:κ.up a x a=some x:=if_pos rfl
def bJ {x:Bool×Obj} {b:Addr} (h:b≠a):κ.up a x b=κ b:=if_neg h
def Mem.more {b:Bool} (R:Mem S κ M h s) (f:M.Z a=none/\∀ p∈M.m,p.1≠a/\p.2≠a) (e:s.heap.get? a=some o):Mem S (κ.up a (b,o)) M h s :=
 ⟨R.z,fun c t u q=>by
  by_cases hc:c=a
  ·subst hc;rw [eK] at q;cases q;exact ⟨fun _=>e,⟨_,e⟩,f.1⟩
  ·rw [bJ hc] at q;exact R.k c t u q,R.len,R.ap,fun p hp c hc=>(by
  obtain ⟨h1,h2,h3⟩:=R.off p hp c hc;refine ⟨h1,?_,h3⟩;rw [bJ fun z=>?_];exact h2;rcases hc with q | q;exact (f.2 p hp).1 (q.symm.trans z);exact (f.2 p hp).2 (q.symm.trans z)),R.cel,R.base,R.bare,R.os⟩
def Mem.kc {x:Bool×Obj} (R:Mem S κ M h s) (ea:κ a=some x):∀ p∈M.m,p.1≠a/\p.2≠a:=fun p hp =>
 have t:∀ b,b=p.1\/b=p.2->b≠a:=fun b hb z=>by
  have:=(R.off p hp b hb).2.1;rw [z,ea] at this;cases this
 ⟨t _ (.inl rfl),t _ (.inr rfl)⟩
def Mem.own {x:Bool×Obj} {b:Bool} (R:Mem S κ M h s) (ea:κ a=some x) (k:∀ b o,b≠a->s.heap.get? b=some o->s'.heap.get? b=some o) (e:s'.heap.get? a=some o) (hg:AllBare s'.gens) (ho:s'.os=s.os):Mem S (κ.up a (b,o)) M h s':=by
 have za:=(R.k a x.1 x.2 ea).2.2;have ca:∀ p∈M.m,p.1≠a/\p.2≠a:=R.kc ea;refine ⟨fun c u q=>k c u (fun z=>by rw [z,za] at q;cases q) (R.z c u q),fun c t u q=>?_,R.len,R.ap,fun p hp c hc=>?_,fun i p d e1 e2=>?_,R.base,hg,ho.trans R.os⟩
 ·by_cases hc:c=a
  ·subst hc;rw [eK] at q;cases q;exact ⟨fun _=>e,⟨_,e⟩,za⟩
  ·rw [bJ hc] at q;obtain ⟨h1,⟨sl,h2⟩,h3⟩:=R.k c t u q;exact ⟨fun z=>k c u hc (h1 z),⟨sl,k c _ hc h2⟩,h3⟩
 ·obtain ⟨h1,h2,u,h3⟩:=R.off p hp c hc;have hca:c≠a:=by rcases hc with q | q;exact q ▸ (ca p hp).1;exact q ▸ (ca p hp).2
  exact ⟨h1,by rw [bJ hca];exact h2,u,k c u hca h3⟩
 ·have hp:=List.mem_of_getElem? e1;refine (R.cel i p d e1 e2).go .refl fun c u hc q=>k c u ?_ q;rcases hc with q | q;exact q ▸ (ca p hp).1;exact q ▸ (ca p hp).2
end
end DL

namespace L2
open PySem
noncomputable def cB (s:Stmt):Arguments:=match s with
 | .FunctionDef _ a _ _ _ _ _ _ _ _=>a
 | _=>{ posonlyargs:=[],args:=[],vararg:=none,kwonlyargs:=[],kw_defaults:=[],kwarg:=none,defaults:=[] }
noncomputable def bG (s:Stmt):List Stmt:=match s with
 | .FunctionDef _ _ b _ _ _ _ _ _ _=>b
 | _=>[]
noncomputable def defScope (s:Stmt):Scope:=match s with
 | .FunctionDef _ _ _ _ _ _ sc _ _ _=>sc
 | _=>{ kind:=.module,names:=[],isGenerator:=false,isCoroutine:=false,more:=[] }
noncomputable def ixN (n:Nat) (i:Int):Option Nat:=if 0<=i then (if i < n then some i.toNat else none) else if -(n:Int)<=i then some (i+n).toNat else none
def atI {α:Type} (xs:List α) (i:Int):Option α:=(ixN xs.length i).bind fun j=>xs[j]?
end L2
namespace ST
open PySem PyProof.Rows
noncomputable def dd (ns:List Int):List Int:=ns.foldl step_dedup []
noncomputable def srt (ns:List Int):List Int:=ns.mergeSort fun a b=>decide (a<=b)
end ST
namespace DL
open PySem PySem.Spec PyProof.Rows L2
noncomputable def ref (h:aA):W->Option PyData
 | .d x=>some x
 | .c i=>match h[i]? with
  | some (.l xs)=>some (.list xs)
  | some (.k kvs)=>some (.dict kvs)
  | _=>none
noncomputable def aY1:W->List Nat
 | .c i=>[i]
 | _=>[]
def cRefs:Cell->List Nat
 | .o _ fs=>(fs.map fun p=>aY1 p.2).flatten
 | .r is=>(is.map aY1).flatten
 | _=>[]
def okP (h h1:aA):Prop:=∀ (i:Nat) (c:Cell),i < h.length->h1[i]?=some c->(∀ j∈cRefs c,j < h.length)\/h[i]?=some c
noncomputable def isSame:PyData->PyData->Option Bool
 | .none,.none=>some true
 | .bool a,.bool b=>some (a==b)
 | .none,.bool _=>some false
 | .bool _,.none=>some false
 | .int _,.none=>some false
 | .int _,.bool _=>some false
 | .str _,.none=>some false
 | .str _,.bool _=>some false
 | .list _,.none=>some false
 | .list _,.bool _=>some false
 | .tuple _,.none=>some false
 | .tuple _,.bool _=>some false
 | _,_=>none
noncomputable def cZ:List PyData->Option (List Bool)
 | []=>some []
 | .bool b::r=>(cZ r).map (b::·)
 | _::_=>none
noncomputable def fJ:PyData->String
 | .none=>"NoneType"
 | .bool _=>"bool"
 | .int _=>"int"
 | .str _=>"str"
 | .list _=>"list"
 | .tuple _=>"tuple"
 | .dict _=>"dict"
def noD:PyData->Bool
 | .dict kvs=>(gJ kvs).isNone
 | _=>true
def isi (d:PyData) (T:String):Bool:=fJ d==T||(fJ d=="bool"&&T=="int")
def uD (kvs:List (PyData×PyData)) (k v:PyData):List (PyData×PyData) :=
 if (kvs.any fun p=>decide (cP p.1=cP k))=true then kvs.map (fun p=>if cP p.1=cP k then (p.1,v) else p) else kvs++[(k,v)]
def uE (kvs:List (PyData×PyData)) (k v:PyData):List (PyData×PyData) :=
 if (kvs.any fun p=>CI.peq p.1 k)=true then kvs.map (fun p=>if CI.peq p.1 k=true then (p.1,v) else p) else kvs++[(k,v)]
noncomputable def gL:PyData->Bool
 | .tuple _=>true
 | _=>false
noncomputable def iS (f:Str) (w:W):List (Str×W)->List (Str×W)
 | []=>[(f,w)]
 | (g,x)::r=>if g=f then (g,w)::r else (g,x)::iS f w r
def cut (xs:List PyData) (lo hi:Option Int):List PyData:=(xs.drop (HT.sIx xs.length 0 lo)).take (HT.sIx xs.length xs.length hi - HT.sIx xs.length 0 lo)
noncomputable def aK (ixs:List (Option Nat)) (δ:DSt):DSt:=ixs.map fun o=>o.bind fun i=>(δ[i]?).bind id
noncomputable def dK (N:List Str) (ws:List W):DSt:=ws.map some++List.replicate (N.length - ws.length) none
noncomputable def rng (lo:Int) (n:Nat):List PyData:=(List.range n).map fun (i:Nat)=>.int (lo+(i:Int))
noncomputable def lQ:W->Option (List PyData)
 | .d (.list xs)=>some xs
 | .d (.tuple xs)=>some xs
 | _=>none
noncomputable def jS (xs ys:List PyData):List PyData:=List.zipWith (fun x y=>.tuple [x,y]) xs ys
noncomputable def iN (k:Nat):List PyData->List PyData
 | []=>[]
 | x::r=>.tuple [.int k,x]::iN (k+1) r
def cR (xs:List PyData):List PyData:=iN 0 xs
noncomputable def cA:List PyData->Option (List Int)
 | []=>some []
 | .int i::r=>(cA r).map (i::·)
 | _=>none
noncomputable def gM:List W->Option (List PyData)
 | []=>some []
 | .d x::r=>(gM r).map (x::·)
 | _::_=>none
end DL

namespace CI
open PySem PySem.Spec PyProof.Rows L2 DL ST

abbrev XR (α:Type):=DSt->aA->Option (α×aA)
set_option genInjectivity true in
inductive Fl where
 | nx (δ:DSt) | rt (w:W) | bk (δ:DSt) | ct (δ:DSt)
abbrev XS:=DSt->aA->Option (Fl×aA)
abbrev XG:=W->DSt->aA->Option (DSt×aA)
abbrev XF:=List W->aA->Option (PyData×aA)
abbrev XFW:=List W->aA->Option (W×aA)
structure ObS where
 fnW:Str->Option XFW
 cls:Str->Option (Addr×XFW)
 om:Str->Option (Addr×XFW)
 fo:Addr->Str->Bool
noncomputable def xno {α:Type}:XR α:=fun _ _=>none
noncomputable def aC {α:Type} (a:α):XR α:=fun _ h=>some (a,h)
noncomputable def xb {α β:Type} (x:XR α) (f:α->XR β):XR β:=fun δ h=>(x δ h).bind fun p=>f p.1 δ p.2
structure Sta where
 bl:List Str
 gc:Str->Option PyData
 tk:Str->Option (Str->Option PyData)
 fn:Str->Option XF
 ac:Str->List Nat
 cv:List Str
 N:List Str
 S:Scope
 top:Bool
 fuel:Nat
 ob:ObS
 qn:Option (Str×Pos)
structure Evs where
 E:Sta->Expr->XR W
 T:Sta->Expr->XR Bool
 F:Sta->Expr->XR (List PyData)
 G:Sta->Expr->XG
 S:Sta->Stmt->XS
def Evs.no:Evs:=⟨fun _ _=>xno,fun _ _=>xno,fun _ _=>xno,fun _ _ _ _ _=>none,fun _ _ _ _=>none⟩

noncomputable def dN (x:Str):Bool:=!(x==("__debug__":Str))&&(!(x==("__classdict__":Str))&&!(x==("__name__":Str)))
noncomputable def bB6 (S:Scope) (x:Str):Bool:=match S.names.lookup x with
 | some .local=>true
 | some .cell=>true
 | some .free=>true
 | _=>false
noncomputable def pQ (S:Scope) (x:Str):Bool:=match S.names.lookup x with
 | some .local=>true
 | some .cell=>true
 | _=>false
noncomputable def cS (S:Scope) (x:Str):Bool:=match S.names.lookup x with
 | some .local=>true
 | _=>false
noncomputable def glB (S:Scope) (x:Str):Bool:=match S.names.lookup x with
 | some .globalImplicit=>true
 | _=>false
noncomputable def slot (st:Sta) (x:Str):Option Nat:=st.N.findIdx? (·==x)
noncomputable def aB (i:Nat):XR W:=fun δ h=>match δ[i]? with
 | some (some w)=>some (w,h)
 | _=>none
def cC (st:Sta) (x:Str):Bool:=dN x&&glB st.S x
def wM (st:Sta) (x:Str):XR W:=if dN x=true then
  (match slot st x with
   | some i=>if bB6 st.S x=true then aB i else xno
   | none=>(match st.gc x with
    | some d=>if glB st.S x=true then aC (.d d) else xno
    | none=>xno))
 else xno
def aB9:Const->XR W
 | .none=>aC (.d .none)
 | .bool b=>aC (.d (.bool b))
 | .int i=>aC (.d (.int i))
 | .str x=>if PyData.strOk x=true then aC (.d (.str x)) else xno
 | _=>xno

noncomputable def gE (i j:Int):Bool:=(decide (-(2^64) < i)&&decide (i < 2^64))||(decide (-(2^64) < j)&&decide (j < 2^64))
noncomputable def cG (j:Int):Bool:=decide (0 < j)&&(decide (j < 1073741824)||decide (j.natAbs.log2 < 8000))
noncomputable def lR (i j:Int):Bool:=decide (0<=j)&&(decide (j<=1000000)&&decide (i.natAbs < 2^64))
def bB7 (u w:W) (h:aA):Option (W×aA):=match u,w with
 | .d (.int i),.d (.int j)=>some (.d (.int (i+j)),h)
 | .d (.tuple xs),.d (.tuple ys)=>if xs.length+ys.length<=sizeLine then some (.d (.tuple (xs++ys)),h) else none
 | _,_=>(match ref h u,ref h w with
  | some (.list xs),some (.list ys)=>if xs.length+ys.length<=sizeLine then some (.d (.list (xs++ys)),h) else none
  | _,_=>none)
def bN9 (u w:W) (h:aA):Option (W×aA):=match u,w with
 | .d (.int i),.d (.int j)=>if gE i j=true then some (.d (.int (i*j)),h) else none
 | .d (.tuple xs),.d (.int k)=>if xs≠[]/\1 < k/\k < 2^63/\xs.length*k.toNat<=sizeLine then some (.d (.tuple (List.replicate k.toNat xs).flatten),h) else none
 | _,_=>none
def gN (op:Operator) (u w:W) (h:aA):Option (W×aA):=match op with
 | .Add=>bB7 u w h
 | .Mult=>bN9 u w h
 | _=>(match u,w with
  | .d (.int i),.d (.int j)=>(match op with
   | .Sub=>some (.d (.int (i - j)),h)
   | .FloorDiv=>if cG j=true then some (.d (.int (i / j)),h) else none
   | .Mod=>if 0 < j then some (.d (.int (i%j)),h) else none
   | .Pow=>if lR i j=true then some (.d (.int (i^j.toNat)),h) else none
   | .RShift=>if 0<=j then some (.d (.int (i / 2^j.toNat)),h) else none
   | .BitAnd=>some (.d (.int (Builtin.bitAnd i j)),h)
   | _=>none)
  | _,_=>none)
noncomputable def cG5:CmpOp->Option (Int->Int->Bool)
 | .Lt=>some fun i j=>decide (i < j)
 | .LtE=>some fun i j=>decide (i<=j)
 | .Gt=>some fun i j=>decide (j < i)
 | .GtE=>some fun i j=>decide (j<=i)
 | _=>none
def xEq (u w:W) (h:aA):Option Bool:=match ref h u,ref h w with
 | some a,some b=>if (aJ 64 a&&aJ 64 b)=true then some (PyData.eqv a b) else none
 | _,_=>none
def xIs (u w:W):Option Bool:=match u,w with
 | .d a,.d b=>DL.isSame a b
 | .c _,.d .none=>some false
 | _,_=>none
noncomputable def uF (w:W) (h:aA):Option (List (PyData×PyData)):=match w with
 | .c j=>(match h[j]? with
  | some (.n kvs)=>some kvs
  | _=>none)
 | _=>none
def bO0 (d:PyData) (w:W) (h:aA):Option Bool:=(uF w h).bind fun kvs=>if (gL d&&hkB 4 d)=true then some (kvs.any fun p=>peq p.1 d) else none
def cG6 (d:PyData) (w:W) (h:aA):Option (W×aA):=(uF w h).bind fun kvs=>if (gL d&&hkB 4 d)=true then (kvs.find? fun p=>peq p.1 d).map fun p=>(.d p.2,h) else none
def xIn (u w:W) (h:aA):Option Bool:=match ref h u,ref h w with
 | some d,some (.list xs)=>if (aJ 64 (.list xs)&&aJ 64 d)=true then some (xs.any fun z=>PyData.eqv z d) else none
 | some d,some (.tuple xs)=>if (aJ 64 (.tuple xs)&&aJ 64 d)=true then some (xs.any fun z=>PyData.eqv z d) else none
 | some d,some (.dict kvs)=>(match cP d with
  | some k=>if (gJ kvs).isNone=true then some (kvs.any fun p=>decide (cP p.1=some k)) else none
  | none=>if (kvs.isEmpty&&(gL d&&hkB 4 d))=true then some false else none)
 | some d,none=>bO0 d w h
 | _,_=>none
def dC (op:CmpOp) (u w:W) (h:aA):Option (Bool×aA):=match op with
 | .Eq=>(xEq u w h).map fun b=>(b,h)
 | .NotEq=>(xEq u w h).map fun b=>(!b,h)
 | .Is=>(xIs u w).map fun b=>(b,h)
 | .IsNot=>(xIs u w).map fun b=>(!b,h)
 | .In=>(xIn u w h).map fun b=>(b,h)
 | .NotIn=>(xIn u w h).map fun b=>(!b,h)
 | _=>(match u,w with
  | .d (.int i),.d (.int j)=>(cG5 op).map fun p=>(p i j,h)
  | _,_=>none)
noncomputable def asW (p:Bool×aA):W×aA:=(.d (.bool p.1),p.2)
def xIr (u:W) (k:Int) (h:aA):Option (W×aA):=match u with
 | .c j=>(match h[j]? with
  | some (.r is)=>(atI is k).map fun m=>(m,h)
  | _=>none)
 | _=>none
def xIx (u w:W) (h:aA):Option (W×aA):=match ref h u,w with
 | some (.list xs),.d (.int i)=>(atI xs i).map fun v=>(.d v,h)
 | some (.tuple xs),.d (.int i)=>(atI xs i).map fun v=>(.d v,h)
 | some (.dict kvs),.d d=>(match cP d with
  | some k=>(kvs.find? fun p=>decide (cP p.1=some k)).map fun p=>(.d p.2,h)
  | none=>none)
 | none,.d (.int k)=>xIr u k h
 | none,.d (.tuple ks)=>cG6 (.tuple ks) u h
 | _,_=>none
def xSl (u:W) (lo hi:Option Int) (h:aA):Option (W×aA):=match u with
 | .d (.tuple xs)=>some (.d (.tuple (cut xs lo hi)),h)
 | _=>(match ref h u with
  | some (.list xs)=>some (.d (.list (cut xs lo hi)),h)
  | _=>none)

noncomputable def bB8 (w:W) (h:aA):Option Nat:=match w with
 | .c j=>(match h[j]? with
  | some (.r is)=>some is.length
  | some (.n kvs)=>some kvs.length
  | _=>none)
 | _=>none
def aY:List W->aA->Option (W×aA)
 | [w],h=>(match ref h w with
  | some (.list xs)=>some (.d (.int xs.length),h)
  | some (.tuple xs)=>some (.d (.int xs.length),h)
  | none=>(bB8 w h).map fun n=>(.d (.int n),h)
  | _=>none)
 | _,_=>none
def aZ:List W->aA->Option (W×aA)
 | [w],h=>(match ref h w with
  | some (.list xs)=>some (.d (.tuple xs),h)
  | some (.tuple xs)=>some (.d (.tuple xs),h)
  | _=>none)
 | _,_=>none
def iL:List W->aA->Option (W×aA)
 | [w],h=>(match ref h w with
  | some (.list xs)=>(cZ xs).map fun bs=>(.d (.bool (bs.all id)),h)
  | _=>none)
 | _,_=>none
def rQ:List W->aA->Option (W×aA)
 | [w],h=>(match ref h w with
  | some (.list xs)=>(cZ xs).map fun bs=>(.d (.bool (bs.any id)),h)
  | _=>none)
 | _,_=>none
noncomputable def aC0:List W->aA->Option (W×aA)
 | [.d (.bool b)],h=>some (.d (.int (if b then 1 else 0)),h)
 | _,_=>none
noncomputable def xMx (ws:List W) (h:aA):Option (W×aA):=match ws with
 | [.d (.int a),.d (.int b)]=>some (.d (.int (max a b)),h)
 | _=>none
noncomputable def xMn (ws:List W) (h:aA):Option (W×aA):=match ws with
 | [.d (.int a),.d (.int b)]=>some (.d (.int (min a b)),h)
 | _=>none
def bB9 (x:Str):Option (List W->aA->Option (W×aA)) :=
 if x="len" then some aY else if x="tuple" then some aZ else if x="all" then some iL else if x="int" then some aC0 else if x="max" then some xMx else if x="min" then some xMn else if x="any" then some rQ else none
noncomputable def aO9 (T:Str):Option String :=
 if T="int" then some "int" else if T="bool" then some "bool" else if T="str" then some "str" else if T="tuple" then some "tuple" else if T="list" then some "list" else none

abbrev Cw:=Option (Nat×Bool)
def condB:Cw->List PyData->aA->Bool
 | none,_,_=>true
 | some (i,e),xs,h=>(match h[i]? with
  | some (.l ys)=>peqs (if e=true then cR ys else ys) xs
  | _=>false)
def jT (u:W) (h:aA):Option ((List PyData×Cw)×aA):=match lQ u with
 | some xs=>some ((cR xs,none),h)
 | none=>(match u with
  | .c i=>(match h[i]? with
   | some (.l xs)=>some ((cR xs,some (i,true)),h)
   | _=>none)
  | _=>none)

def bB (g:XG) (tb:XS) (c:Cw) (all:List PyData):List PyData->DSt->aA->Option (Fl×aA)
 | [],δ,h=>if condB c all h=true then some (.nx δ,h) else none
 | x::r,δ,h=>if condB c all h=true then
   (g (.d x) δ h).bind fun p=>(tb p.1 p.2).bind fun q=>(match q.1 with
    | .nx δ'=>bB g tb c all r δ' q.2
    | .ct δ'=>bB g tb c all r δ' q.2
    | .bk δ'=>some (.nx δ',q.2)
    | .rt w=>some (.rt w,q.2))
  else none
def aG (g:XG) (tt:XR Bool) (te:XR W) (c:Cw) (all:List PyData):List PyData->DSt->aA->List PyData->Option (List PyData×aA)
 | [],_,h,ac=>if condB c all h=true then some (ac,h) else none
 | x::r,δ,h,ac=>if condB c all h=true then
   (g (.d x) δ h).bind fun p=>(tt p.1 p.2).bind fun q=>if q.1=true then
     (te p.1 q.2).bind fun y=>(match y.1 with
      | .d z=>aG g tt te c all r p.1 y.2 (ac++[z])
      | _=>none)
    else aG g tt te c all r p.1 q.2 ac
  else none

noncomputable def aH:Expr->Bool
 | .Starred _ _=>false
 | _=>true
noncomputable def aV (x:XR (List PyData)):XR W:=fun δ h=>(x δ h).bind fun p=>some (.c p.2.length,p.2++[.l p.1])
noncomputable def aN (x:XR (List PyData)):XR W:=fun δ h=>(x δ h).bind fun p=>some (.d (.list p.1),p.2)
def kG (f:Str->Option PyData) (x:XR W):XR Bool:=xb x fun w=>(match w with
 | .d (.str s)=>aC (!(f s).isSome)
 | .d .none=>aC true
 | _=>xno)
def xC1 (op:CmpOp) (x y:XR W):XR Bool:=xb x fun u=>xb y fun w=>fun _ h=>dC op u w h
def xC2 (op op':CmpOp) (x y z:XR W):XR Bool:=xb x fun u=>xb y fun w=>fun δ h=>(dC op u w h).bind fun p=>if p.1=true then (z δ p.2).bind fun q=>dC op' w q.1 q.2 else some (false,p.2)
def xC3 (op op' op'':CmpOp) (x y z t:XR W):XR Bool:=xb x fun u=>xb y fun w=>fun δ h=>(dC op u w h).bind fun p =>
 if p.1=true then (z δ p.2).bind fun q=>(dC op' w q.1 q.2).bind fun p'=>if p'.1=true then (t δ p'.2).bind fun q'=>dC op'' q.1 q'.1 q'.2 else some (false,p'.2) else some (false,p.2)
def bC (x:XR Bool):XR W:=fun δ h=>(x δ h).map asW
noncomputable def cT:List XG->List PyData->DSt->aA->Option (DSt×aA)
 | [],[],δ,h=>some (δ,h)
 | g::gs,x::xs,δ,h=>(g (.d x) δ h).bind fun p=>cT gs xs p.1 p.2
 | _,_,_,_=>none
def aP (gs:List XG):XG:=fun w δ h=>(match w with
 | .d (.tuple xs)=>cT gs xs δ h
 | _=>none)
section
variable (v:Evs) (st:Sta)
def aQ:List Expr->XR (List W)
 | []=>aC []
 | e::es=>if aH e=true then xb (v.E st e) fun w=>xb (aQ es) fun ws=>aC (w::ws) else xno
noncomputable def aC1:Expr->Bool
 | .Name _ _=>true
 | _=>false
def iT (l:List Nat):Nat->List Expr->XR (List W)
 | _,[]=>aC []
 | n,e::es=>if aH e=true then xb (if (l.contains n&&!aC1 e)=true then aV (v.F st e) else v.E st e) fun w=>xb (iT l (n+1) es) fun ws=>aC (w::ws) else xno
def jU:Option Expr->XR (Option Int)
 | none=>aC none
 | some e=>xb (v.E st e) fun w=>(match w with
  | .d (.int i)=>aC (some i)
  | _=>xno)
def aC2:List Expr->XR W
 | []=>xno
 | [a]=>v.E st a
 | a::b::r=>xb (v.E st a) fun w=>(match w with
  | .d (.bool true)=>aC2 (b::r)
  | .d (.bool false)=>aC (.d (.bool false))
  | _=>xno)
def bC0:List Expr->XR W
 | []=>xno
 | [a]=>v.E st a
 | a::b::r=>xb (v.E st a) fun w=>(match w with
  | .d (.bool true)=>aC (.d (.bool true))
  | .d (.bool false)=>bC0 (b::r)
  | _=>xno)
def aC3:List Expr->XR Bool
 | []=>xno
 | [a]=>v.T st a
 | a::b::r=>xb (v.T st a) fun c=>if c=true then aC3 (b::r) else aC false
def bC1:List Expr->XR Bool
 | []=>xno
 | [a]=>v.T st a
 | a::b::r=>xb (v.T st a) fun c=>if c=true then aC true else bC1 (b::r)
def jC:Expr->Option (Str->Option PyData)
 | .Name x _=>if cC st x&&(slot st x).isNone then st.tk x else none
 | _=>none
def eW (a:Expr) (ops:List CmpOp) (cs:List Expr):XR Bool:=match ops,cs with
 | [op],[b]=>(match jC st b with
  | some f=>if op=.NotIn then kG f (v.E st a) else xno
  | none=>if behindInMarks op b=true then xno else xC1 op (v.E st a) (v.E st b))
 | [op,op'],[b,c]=>if lastMarks [op,op'] [b,c]=true then xno else xC2 op op' (v.E st a) (v.E st b) (v.E st c)
 | _,_=>xno
def jV (a:Expr) (ops:List CmpOp) (cs:List Expr):XR Bool:=match ops,cs with
 | [op,op',op''],[b,c,d]=>if lastMarks [op,op',op''] [b,c,d]=true then xno else xC3 op op' op'' (v.E st a) (v.E st b) (v.E st c) (v.E st d)
 | _,_=>eW v st a ops cs
noncomputable def cU (i j:Int):Bool:=decide (j - i<=16000000)&&(decide (-(2^62)<=i)&&(decide (i < 2^62)&&(decide (-(2^62)<=j)&&decide (j < 2^62))))
def aS (x:XR W):XR (List PyData×Cw):=xb x fun w=>fun _ h=>(match w with
 | .d (.list xs)=>some ((xs,none),h)
 | .d (.tuple xs)=>some ((xs,none),h)
 | .c i=>(match h[i]? with
  | some (.l xs)=>some ((xs,some (i,false)),h)
  | _=>none)
 | _=>none)
noncomputable def gO:Expr->Bool
 | .Set _ _ _=>true
 | _=>false
noncomputable def wN:Expr->Bool
 | .Tuple _ _ _=>true
 | _=>false
noncomputable def itS:(e:Expr)->Option {y:Str×Expr×Option Expr // ∃ p q,e=.Call (.Name y.1 p) (y.2.1::y.2.2.toList) [] q}
 | .Call (.Name x p) [a] [] q=>some ⟨(x,a,none),p,q,rfl⟩
 | .Call (.Name x p) [a,b] [] q=>some ⟨(x,a,some b),p,q,rfl⟩
 | _=>none
def oG (tg e:Expr):XR (List PyData×Cw):=match itS e with
 | some ⟨(x,a,none),_⟩=>if x="range" then (if cC st x&&(slot st x).isNone&&st.bl.contains x&&aH a then xb (v.E st a) fun w=>fun _ h=>(match w with
   | .d (.int j)=>if cU 0 j=true then some ((rng 0 j.toNat,none),h) else none
   | _=>none) else xno)
  else if x="enumerate" then (if cC st x&&(slot st x).isNone&&st.bl.contains x&&aH a&&wN tg then xb (v.E st a) fun u=>fun _ h=>jT u h else xno)
  else aS (v.E st e)
 | some ⟨(x,a,some b),_⟩=>if x="range" then (if cC st x&&(slot st x).isNone&&st.bl.contains x&&aH a&&aH b then xb (v.E st a) fun u=>xb (v.E st b) fun w=>fun _ h=>(match u,w with
   | .d (.int i),.d (.int j)=>if cU i j=true then some ((rng i (j - i).toNat,none),h) else none
   | _,_=>none) else xno)
  else if x="zip" then (if cC st x&&(slot st x).isNone&&st.bl.contains x&&aH a&&aH b&&wN tg then xb (v.E st a) fun u=>xb (v.E st b) fun w=>fun _ h=>(match lQ u,lQ w with
   | some xs,some ys=>some ((jS xs ys,none),h)
   | _,_=>none) else xno)
  else aS (v.E st e)
 | none=>if gO e=true then xno else aS (v.E st e)
noncomputable def iU (sc:Scope):List Str:=(sc.names.filter fun p=>(p.2==.local||p.2==.free)&&!(p.1==(".0":Str))).map (·.1)
def dO (N:List Str) (sc:Scope):List (Option Nat):=(iU sc).map fun x=>if sc.names.lookup x=some .free then N.findIdx? (·==x) else none
noncomputable def bC2 (sc S:Scope):Scope:={ sc with names:=sc.names.map fun (n,k)=>if (k==.free&&S.kind==.function&&S.names.lookup n==some .cell) then (n,.cell) else (n,k) }
def lT (N:List Str) (sc S:Scope):Bool :=
 decide (sc.kind=.function)&&((sc.names.all fun y=>!(y.2==.cell))&&((sc.names.all fun y=>!(y.2==.local)||(sc.names.lookup y.1==some .local)) &&
  ((sc.names.all fun y=>!(y.2==.free)||(S.names.lookup y.1==some .cell||S.names.lookup y.1==some .free))&&(decide (iU sc).Nodup &&
   (((dO N sc).zip (iU sc)).all fun p=>match p.1 with
    | none=>true
    | some i=>decide (N[i]?=some p.2)&&decide (sc.names.lookup p.2=some NameKind.free))))))
def Sta.blk (sc:Scope):Sta:={ st with N:=iU sc,S:=bC2 sc st.S,top:=false,qn:=none }
def yR:List Expr->XR Bool
 | []=>aC true
 | [c]=>v.T st c
 | _=>xno
def kH (elt tg iter:Expr) (ifs:List Expr) (sc:Scope):XR (List PyData) :=
 if lT st.N sc st.S&&!gO iter then xb (oG v st tg iter) fun p=>fun δ h=>aG (v.G (st.blk sc) tg) (yR v (st.blk sc) ifs) (v.E (st.blk sc) elt) p.2 p.1 p.1 (aK (dO st.N sc) δ) h [] else xno
noncomputable def prS:(z:PyData)->Option {k:Int // ∃ i j,z=.tuple [.int i,.int j]/\(0<=j/\j < 1000)/\k=i*1000+j}
 | .tuple [.int i,.int j]=>if h:0<=j/\j < 1000 then some ⟨i*1000+j,i,j,rfl,h,rfl⟩ else none
 | _=>none
def yS:List PyData->Option (List Int)
 | []=>some []
 | z::zs=>((prS z).map (·.1)).bind fun k=>(yS zs).map fun ks=>k::ks
noncomputable def aC4 (ks:List Int) (xs:List PyData):List PyData:=((ks.zip xs).mergeSort fun a b=>decide (b.1<=a.1)).map (·.2)
def rR (ks:List Int) (xs:List PyData):List PyData:=aC4 (ks.map fun k=>-k) xs
def yT (xs:List PyData):Option (List PyData):=(match cA xs with
 | some ns=>if ns.length < 64 then some ((ST.srt ns).map .int) else none
 | none=>(yS xs).bind fun ks=>if ks.Nodup/\xs.length < 64 then some (rR ks xs) else none)
def pR:List W->aA->Option (List PyData×aA)
 | [w],h=>(match ref h w with
  | some (.list xs)=>(yT xs).map fun zs=>(zs,h)
  | some (.tuple xs)=>(yT xs).map fun zs=>(zs,h)
  | _=>none)
 | _,_=>none
noncomputable def ssS:(l:List Expr)->Option {a:Expr // ∃ p2 q,l=[.Call (.Name "set" p2) [a] [] q]}
 | [.Call (.Name y p2) [a] [] q]=>if h:y="set" then some ⟨a,p2,q,by rw [h]⟩ else none
 | _=>none
def xSS:List W->aA->Option (List PyData×aA)
 | [.d (.tuple xs)],h=>(cA xs).bind fun ns=>if ns.length<=62 then some ((ST.srt (ST.dd ns)).map .int,h) else none
 | [.d (.list xs)],h=>(cA xs).bind fun ns=>if ns.length<=62 then some ((ST.srt (ST.dd ns)).map .int,h) else none
 | _,_=>none
noncomputable def bO1:(z:PyData)->Option {k:Int // ∃ a b i,z=.tuple [.bool a,.bool b,.int i]/\(0<=i/\i < 1000000)/\k=(if a=true then 2000000 else 0)+(if b=true then 1000000 else 0)+i}
 | .tuple [.bool a,.bool b,.int i]=>if h:0<=i/\i < 1000000 then some ⟨(if a=true then 2000000 else 0)+(if b=true then 1000000 else 0)+i,a,b,i,rfl,h,rfl⟩ else none
 | _=>none
def bC3 (z:PyData):Option Int:=(bO1 z).map (·.1)
def wO:List PyData->Option (List Int)
 | []=>some []
 | z::zs=>(bC3 z).bind fun k=>(wO zs).map fun ks=>k::ks
noncomputable def eX (f:XR W) (δ:DSt) (i:Nat):List PyData->aA->Option (List PyData×aA)
 | [],h=>some ([],h)
 | x::xs,h=>(f (δ.set i (some (.d x))) h).bind fun p=>(match p.1 with
  | .d z=>(eX f δ i xs p.2).bind fun q=>some (z::q.1,q.2)
  | _=>none)
noncomputable def cG7:(kws:List Keyword)->Option {y:(Arg×Expr×Scope×Pos)×Bool // ∃ p1 r,kws=⟨some "key",.Lambda ⟨[],[y.1.1],none,[],[],none,[]⟩ y.1.2.1 y.1.2.2.1 y.1.2.2.2,p1⟩::r/\((y.2=false/\r=[])\/(y.2=true/\∃ j p3 p2,r=[⟨some "reverse",.Constant (.bool true) j p3,p2⟩]))}
 | [⟨some k1,.Lambda ⟨[],[a],none,[],[],none,[]⟩ body sc lp,p1⟩,⟨some k2,.Constant (.bool true) j p3,p2⟩]=>if h:k1="key"/\k2="reverse" then some ⟨((a,body,sc,lp),true),p1,[⟨some k2,.Constant (.bool true) j p3,p2⟩],by rw [h.1],.inr ⟨rfl,j,p3,p2,by rw [h.2]⟩⟩ else none
 | [⟨some k1,.Lambda ⟨[],[a],none,[],[],none,[]⟩ body sc lp,p1⟩]=>if h:k1="key" then some ⟨((a,body,sc,lp),false),p1,[],by rw [h],.inl ⟨rfl,rfl⟩⟩ else none
 | _=>none
def rS (kws:List Keyword):Option ((Arg×Expr×Scope×Pos)×Bool):=(cG7 kws).map (·.1)
def byK (b:Bool) (zs xs:List PyData):Option (List PyData):=if b=true then (wO zs).bind fun ks=>if ks.Nodup/\xs.length < 64 then some (aC4 ks xs) else none else (cA zs).bind fun ks=>if ks.Nodup/\xs.length < 64 then some (rR ks xs) else none
noncomputable def atP (pos:Pos) (q:Pos×Str):Bool:=q.1.line==pos.line&&q.1.col==pos.col
def rT (pos:Pos) (q:Str) (qs:List (Pos×Str)):Option (List (Pos×Str)):=match qs.find? (atP pos) with
 | some r=>if r.2=q then some qs else none
 | none=>some (qs++[(pos,q)])
def Sta.lam (sc:Scope):Sta:={ st with N:=iU sc,S:=sc,top:=false,qn:=none }
def aP0 (q:Str×Pos) (a:Arg) (sc:Scope) (lp:Pos):Bool:=decide (lp=q.2)&&(lT st.N sc st.S&&(!sc.isCoroutine&&(!sc.isGenerator&&decide (sc.names.lookup a.arg=some .local))))
def lU (b:Bool) (f:XR W) (ixs:List (Option Nat)) (i:Nat) (q:Str) (lp:Pos) (w:W):XR (List PyData):=fun δ h=>(match ref h w,(h[0]?:Option Cell) with
 | some (.list xs),some (.t ts)=>(rT lp q ts).bind fun ts'=>(eX f (aK ixs δ) i xs (h.set 0 (.t ts'))).bind fun z=>(byK b z.1 xs).map fun r=>(r,z.2)
 | _,_=>none)
def aP1 (e:Expr) (kws:List Keyword):XR (List PyData):=match st.qn,rS kws with
 | some q,some ((a,body,sc,lp),r)=>if aP0 st q a sc lp=true then (match (iU sc).findIdx? (·==a.arg) with
  | some i=>xb (aQ v st [e]) fun ws=>(match ws with
   | [w]=>lU r (v.E (st.lam sc) body) (dO st.N sc) i (q.1++"<lambda>") lp w
   | _=>xno)
  | none=>xno) else xno
 | _,_=>xno
def xPl (x:XR (List W)):XR (List PyData):=xb x fun ws=>fun _ h=>(match gM ws with
 | some xs=>if xs.length<=sizeLine then some (xs,h) else none
 | none=>none)
noncomputable def rgS:(l:List Expr)->Option {b:Expr // ∃ p q,l=[.Call (.Name "range" p) [b] [] q]}
 | [.Call (.Name y p) [b] [] q]=>if h:y="range" then some ⟨b,p,q,by rw [h]⟩ else none
 | _=>none
def rgA (l:List Expr):Option Expr:=(rgS l).map (·.1)
def okC (x:Str):Bool:=cC st x&&(slot st x).isNone&&st.bl.contains x
def bL (e:Expr):XR (List PyData):=match e with
 | .List es _=>xPl (aQ v st es)
 | .ListComp elt [⟨tg,iter,ifs,a⟩] sc _=>if a=0 then kH v st elt tg iter ifs sc else xno
 | .Subscript a (.Slice lo hi none _) _=>xb (v.E st a) fun x=>xb (jU v st lo) fun l=>xb (jU v st hi) fun u=>fun _ h=>(match ref h x with
  | some (.list xs)=>some (cut xs l u,h)
  | _=>none)
 | .Subscript a (.Slice none none (some k) _) _=>xb (v.E st a) fun x=>xb (jU v st (some k)) fun o=>fun _ h=>(match ref h x with
  | some (.list xs)=>if o=some (-1) then some (xs.reverse,h) else none
  | _=>none)
 | .BinOp a .Add b _=>xb (v.E st a) fun u=>xb (v.E st b) fun w=>fun _ h=>(match ref h u,ref h w with
  | some (.list xs),some (.list ys)=>if xs.length+ys.length<=sizeLine then some (xs++ys,h) else none
  | _,_=>none)
 | .BinOp (.List es p) .Mult b _=>xb (aV (xPl (aQ v st es))) fun u=>xb (v.E st b) fun w=>fun _ h=>(match u,w with
  | .c i,.d (.int k)=>(match h[i]? with
   | some (.l xs)=>if -(2^63)<=k/\k < 2^63/\xs.length*k.toNat<=sizeLine then some ((List.replicate k.toNat xs).flatten,h) else none
   | _=>none)
  | _,_=>none)
 | .Call (.Name x _) (a::es) [] _=>if x="list" then (match rgA (a::es) with
  | some b=>if okC st x&&okC st "range"&&aH b then xb (aQ v st [b]) fun ws=>fun _ h=>(match ws with
   | [.d (.int j)]=>if -(2^62)<=j/\j < 2^62/\j<=16000000 then some (rng 0 j.toNat,h) else none
   | _=>none) else xno
  | none=>if cC st x&&(slot st x).isNone&&st.bl.contains x then xb (aQ v st (a::es)) fun ws=>fun _ h=>(match ws with
  | [w]=>(match ref h w with
   | some (.list xs)=>some (xs,h)
   | some (.tuple xs)=>some (xs,h)
   | _=>none)
  | _=>none) else xno) else if x="sorted" then (match ssS (a::es) with
  | some ⟨b,_⟩=>if okC st x&&okC st "set"&&aH b then xb (aQ v st [b]) fun ws=>fun _ h=>xSS ws h else xno
  | none=>if okC st x then xb (aQ v st (a::es)) fun ws=>fun _ h=>pR ws h else xno) else xno
 | .Call (.Name x _) [a] (k::ks) _=>if x="sorted" then (if okC st x then aP1 v st a (k::ks) else xno) else xno
 | _=>xno
noncomputable def uG:Expr->Bool
 | .Slice _ _ _ _=>true
 | _=>false
noncomputable def gP:Expr->Bool
 | .Call _ _ _ _=>false
 | _=>true
noncomputable def uH (o:W) (ws:List W) (h:aA):Option (W×aA):=match o,ws with
 | .c j,[.d x]=>(match h[j]? with
  | some (.l xs)=>if xs.length < sizeLine then some (.d .none,h.set j (.l (xs++[x]))) else none
  | _=>none)
 | .c j,[.c k]=>(match h[j]? with
  | some (.r is)=>if is.length < sizeLine then some (.d .none,h.set j (.r (is++[.c k]))) else none
  | _=>none)
 | _,_=>none
def bC4 (m:Str):Option (W->List W->aA->Option (W×aA)) :=
 if m="append" then some uH
 else if m="index" then some fun o ws h=>(match o,ws with
  | .d (.list xs),[.d d]=>if (aJ 64 (.list xs)&&aJ 64 d)=true then (xs.findIdx? (fun z=>PyData.eqv z d)).map fun (j:Nat)=>(.d (.int j),h) else none
  | _,_=>none)
 else none
noncomputable def iV (m:Str) (w:W) (h:aA):Bool:=if m="append" then (match w with
  | .c j=>(match h[j]? with
   | some (.l _)=>true
   | some (.r _)=>true
   | _=>false)
  | _=>false) else true
def aY2 (o:Expr) (m:Str) (g:W->List W->aA->Option (W×aA)) (args:List Expr):XR W:=xb (v.E st o) fun w=>fun δ h=>if iV m w h=true then (aQ v st args δ h).bind fun p=>g w p.1 p.2 else none
def bC5 (j:Nat) (ws:List W) (h:aA):Option (W×aA):=match ws,h[j]? with
 | [.d (.int i)],some (.l xs)=>(ixN xs.length i).bind fun n=>(xs[n]?).bind fun x=>if -(2^63)<=i/\i < 2^63 then some (.d x,h.set j (.l (xs.eraseIdx n))) else none
 | _,_=>none
def bO2 (o a:Expr):XR W:=xb (v.E st o) fun w=>fun δ h=>match w with
 | .c j=>(match h[j]? with
  | some (.l _)=>(aQ v st [a] δ h).bind fun p=>bC5 j p.1 p.2
  | _=>none)
 | _=>none
def bO3 (o a:Expr):XR W:=xb (v.E st o) fun w=>fun δ h=>match w with
 | .c j=>(match h[j]? with
  | some (.l _)=>(v.F st a δ h).bind fun p=>(match p.2[j]? with
   | some (.l xs)=>if xs.length+p.1.length<=sizeLine then some (.d .none,p.2.set j (.l (xs++p.1))) else none
   | _=>none)
  | _=>none)
 | _=>none
noncomputable def aC5:Expr->Bool
 | .Name _ _=>true
 | .Call (.Name _ _) (_::_) [] _=>true
 | _=>false
noncomputable def xMk (C:Addr) (m:XFW) (ws:List W) (h:aA):Option (W×aA):=(m (.c h.length::ws) (h++[.o C []])).bind fun p=>match p.1 with
 | .d .none=>some (.c h.length,p.2)
 | _=>none
def xMo (o:Expr) (m:Str) (C:Addr) (g:XFW) (args:List Expr):XR W:=xb (v.E st o) fun w=>fun δ h=>match w with
 | .c j=>(match h[j]? with
  | some (.o C' fs)=>if C'=C/\fs.lookup m=none then (aQ v st args δ h).bind fun p=>g (.c j::p.1) p.2 else none
  | _=>none)
 | _=>none
def bO4 (o:Expr) (f:Str):XR W:=xb (v.E st o) fun w=>fun _ h=>match w with
 | .c j=>(match h[j]? with
  | some (.o C fs)=>if st.ob.fo C f=true then (fs.lookup f).map fun w=>(w,h) else none
  | _=>none)
 | _=>none
noncomputable def bO5:(l:List Expr)->Option {y:Expr×Str // ∃ p,l=[y.1,.Name y.2 p]}
 | [e,.Name T p]=>some ⟨(e,T),p,rfl⟩
 | _=>none
noncomputable def bO6:(l:List Expr)->Option {y:Expr // ∃ p q k r,l=[y,.Tuple [.Name "list" p,.Name "tuple" q] k r]}
 | [e,.Tuple [.Name T p,.Name T' q] k r]=>if h:T="list"/\T'="tuple" then some ⟨e,p,q,k,r,by rw [h.1,h.2]⟩ else none
 | _=>none
def bC6 (args:List Expr):XR W:=match bO5 args with
 | some ⟨(e,T),_⟩=>if aH e&&cC st T&&(slot st T).isNone&&st.bl.contains T then (match aO9 T with
   | some Ts=>xb (v.E st e) fun w=>fun _ h=>(ref h w).bind fun d=>if noD d=true then some (.d (.bool (isi d Ts)),h) else none
   | none=>xno) else xno
 | none=>(match bO6 args with
  | some ⟨e,_⟩=>if aH e&&okC st "list"&&okC st "tuple" then xb (v.E st e) fun w=>fun _ h=>(ref h w).bind fun d=>if noD d=true then some (.d (.bool (isi d "list"||isi d "tuple")),h) else none else xno
  | none=>xno)
def bC7 (o:Expr) (m:Str) (apos pos:Pos) (args:List Expr):XR W:=if gP o&&(apos.endLine==pos.line) then
   (match args with
    | []=>xno
    | a::es=>if m="pop" then (match es with
      | []=>if aH a=true then bO2 v st o a else xno
      | _=>xno)
     else if m="extend" then (match es with
      | []=>if aH a=true then bO3 v st o a else xno
      | _=>xno)
     else if decide (args.length < 29) then (match bC4 m with
     | some g=>aY2 v st o m g args
     | none=>xno) else xno)
   else xno
def uI (x:Str) (args:List Expr):XR W:=match args with
 | []=>xno
 | _::_=>xb (wM st x) fun w=>(match w with
  | .d (.dict kvs)=>(match gJ kvs with
   | some g=>(match st.fn g with
    | some m=>xb (aQ v st args) fun ws=>fun _ h=>(m ws h).bind fun p=>some (.d p.1,p.2)
    | none=>xno)
   | none=>xno)
  | _=>xno)
def wP (f:Expr) (args:List Expr) (pos:Pos):XR W:=match f with
 | .Name x _=>if cC st x&&(slot st x).isNone then
   (match st.ob.fnW x with
   | some m=>(match args with
     | []=>xno
     | _::_=>xb (aQ v st args) fun ws=>fun _ h=>m ws h)
   | none=>match st.ob.cls x with
   | some (C,m)=>(match args with
     | []=>xno
     | _::_=>xb (aQ v st args) fun ws=>fun _ h=>xMk C m ws h)
   | none=>match st.fn x with
    | some m=>(match args with
     | []=>xno
     | _::_=>xb (if (st.ac x).isEmpty=true then aQ v st args else iT v st (st.ac x) 0 args) fun ws=>fun _ h=>(m ws h).bind fun p=>some (.d p.1,p.2))
    | none=>if st.bl.contains x then
      (match bB9 x with
       | some g=>(match args with
        | []=>xno
        | _::_=>xb (aQ v st args) fun ws=>fun _ h=>g ws h)
       | none=>if x="isinstance" then bC6 v st args
        else aN (bL v st (.Call f args [] pos)))
     else xno)
   else if (slot st x).isSome=true then uI v st x args else xno
 | .Attribute o m apos=>match st.ob.om m with
  | some (C,g)=>(match args with
    | []=>xno
    | _::_=>if aC5 o&&(apos.endLine==pos.line)&&decide (args.length < 29)&&args.all aH then xMo v st o m C g args else xno)
  | none=>bC7 v st o m apos pos args
 | _=>xno
def xLS:List W->aA->Option (W×aA)
 | [.d (.tuple xs)],h=>(match cA xs with
  | some ns=>if ns.length<=62 then some (.d (.int (ST.dd ns).length),h) else none
  | none=>none)
 | [.d (.list xs)],h=>(match cA xs with
  | some ns=>if ns.length<=62 then some (.d (.int (ST.dd ns).length),h) else none
  | none=>none)
 | _,_=>none
def okB (x:Str):Bool:=cC st x&&(slot st x).isNone&&st.bl.contains x&&(st.fn x).isNone
noncomputable def fuS:(f:Expr)->(l:List Expr)->Option {a:Expr // ∃ p p2 q,f=.Name "len" p/\l=[.Call (.Name "set" p2) [a] [] q]}
 | .Name x p,[.Call (.Name y p2) [a] [] q]=>if h:x="len"/\y="set" then some ⟨a,p,p2,q,by rw [h.1],by rw [h.2]⟩ else none
 | _,_=>none
def aC6 (f:Expr) (args:List Expr) (pos:Pos):XR W:=match fuS f args with
 | some ⟨a,_⟩=>if okB st "len"&&okB st "set"&&aH a then xb (aQ v st [a]) fun ws=>fun _ h=>xLS ws h else xno
 | none=>wP v st f args pos
noncomputable def dP (g:XG) (tt:XR Bool) (te:XR W) (co:aA->Bool):List W->DSt->aA->List W->Option (List W×aA)
 | [],_,h,ac=>if co h=true then some (ac,h) else none
 | x::r,δ,h,ac=>if co h=true then
   (g x δ h).bind fun p=>(tt p.1 p.2).bind fun q=>if q.1=true then
     (te p.1 q.2).bind fun y=>dP g tt te co r p.1 y.2 (ac++[y.1])
    else dP g tt te co r p.1 q.2 ac
  else none
noncomputable def wsC (j:Nat) (h:aA):Option (List W):=match h[j]? with
 | some (.l xs)=>some (xs.map .d)
 | some (.r ws)=>some ws
 | _=>none
def weq:W->W->Bool
 | .d x,.d y=>peq x y
 | .c i,.c j=>i==j
 | _,_=>false
def yU:List W->List W->Bool
 | [],[]=>true
 | x::a,y::b=>weq x y&&yU a b
 | _,_=>false
def coW (j:Nat) (ws:List W) (h:aA):Bool:=match wsC j h with
 | some us=>yU us ws
 | none=>false
def pS (elt tg iter:Expr) (ifs:List Expr) (sc:Scope):XR W :=
 if lT st.N sc st.S&&!gO iter then xb (v.E st iter) fun w=>fun δ h=>(match w with
  | .c j=>(wsC j h).bind fun ws=>(dP (v.G (st.blk sc) tg) (yR v (st.blk sc) ifs) (v.E (st.blk sc) elt) (coW j ws) ws (aK (dO st.N sc) δ) h []).bind fun q=>some (.c q.2.length,q.2++[.r q.1])
  | _=>none) else xno
noncomputable def gS (st:Sta):(gs:List Comprehension)->Option {y:Expr×Expr×List Expr // gs=[⟨y.1,y.2.1,y.2.2,0⟩]}
 | [⟨tg,.Name x p,ifs,a⟩]=>if h:a=0/\st.cv.contains (x++"[]")=true then some ⟨(tg,.Name x p,ifs),by rw [h.1]⟩ else none
 | _=>none
def gW (gs:List Comprehension):Option (Expr×Expr×List Expr):=(gS st gs).map (·.1)
def rU (e:Expr):XR W:=match e with
 | .Name x _=>wM st x
 | .Constant c _ _=>aB9 c
 | .BinOp a op b _=>(match a,op with
  | .List es p,.Mult=>aN (bL v st (.BinOp (.List es p) .Mult b p))
  | _,_=>xb (v.E st a) fun u=>xb (v.E st b) fun w=>fun _ h=>gN op u w h)
 | .Compare a ops cs _=>bC (jV v st a ops cs)
 | .BoolOp .And vs _=>aC2 v st vs
 | .BoolOp .Or vs _=>bC0 v st vs
 | .UnaryOp .Not a _=>xb (v.E st a) fun w=>(match w with
  | .d (.bool b)=>aC (.d (.bool (!b)))
  | _=>xno)
 | .UnaryOp .USub a _=>xb (v.E st a) fun w=>(match w with
  | .d (.int i)=>aC (.d (.int (-i)))
  | _=>xno)
 | .IfExp c a b _=>xb (v.T st c) fun t=>if t=true then v.E st a else v.E st b
 | .Tuple es _ _=>xb (xPl (aQ v st es)) fun xs=>aC (.d (.tuple xs))
 | .List es p=>aN (bL v st (.List es p))
 | .ListComp elt gs sc p=>(match gW st gs with
  | some (tg,iter,ifs)=>pS v st elt tg iter ifs sc
  | none=>aN (bL v st (.ListComp elt gs sc p)))
 | .Subscript a s _=>(match s with
  | .Slice lo hi none _=>xb (v.E st a) fun x=>xb (jU v st lo) fun l=>xb (jU v st hi) fun u=>fun _ h=>xSl x l u h
  | .Slice none none (some k) p=>aN (bL v st (.Subscript a (.Slice none none (some k) p) p))
  | _=>if uG s=true then xno else (match jC st a with
   | some f=>xb (v.E st s) fun w=>(match w with
    | .d (.str z)=>(match f z with
     | some i=>aC (.d i)
     | none=>xno)
    | _=>xno)
   | none=>xb (v.E st a) fun x=>xb (v.E st s) fun y=>fun _ h=>xIx x y h))
 | .Call f args [] p=>aC6 v st f args p
 | .Call f args (k::ks) p=>aN (bL v st (.Call f args (k::ks) p))
 | .Attribute o f _=>if gP o=true then bO4 v st o f else xno
 | .Dict [] [] _=>aC (.d (.dict []))
 | _=>xno
def aY3 (e:Expr):XR Bool:=match e with
 | .UnaryOp .Not a _=>xb (v.T st a) fun b=>aC (!b)
 | .BoolOp .And vs _=>aC3 v st vs
 | .BoolOp .Or vs _=>bC1 v st vs
 | .Compare a ops cs _=>eW v st a ops cs
 | .IfExp _ _ _ _=>xno
 | _=>xb (v.E st e) fun w=>(match w with
  | .d (.bool b)=>aC b
  | _=>xno)
noncomputable def lV:List Expr->List XG
 | []=>[]
 | e::es=>v.G st e::lV es
def fL (j:Nat) (y x:PyData) (δ:DSt) (h:aA):Option (DSt×aA):=match h[j]?,y with
   | some (.l xs),.int k=>(ixN xs.length k).map fun n=>(δ,h.set j (.l (xs.set n x)))
   | some (.k kvs),_=>if (cP y).isSome=true/\kvs.length < sizeLine then some (δ,h.set j (.k (uD kvs y x))) else none
   | some (.r ws),.int k=>(ixN ws.length k).map fun n=>(δ,h.set j (.r (ws.set n (.d x))))
   | some (.n kvs),_=>if (gL y&&hkB 4 y)=true/\kvs.length < sizeLine then some (δ,h.set j (.n (uE kvs y x))) else none
   | _,_=>none
def jD (j:Nat) (y:PyData) (i:Nat) (δ:DSt) (h:aA):Option (DSt×aA):=match h[j]?,y with
   | some (.l xs),.int k=>(ixN xs.length k).map fun n=>(δ,h.set j (.r ((xs.map .d).set n (.c i))))
   | some (.r ws),.int k=>(ixN ws.length k).map fun n=>(δ,h.set j (.r (ws.set n (.c i))))
   | _,_=>none
def rV (e:Expr):XG:=match e with
 | .Name x _=>(match slot st x with
  | some i=>if pQ st.S x&&(st.top||cS st.S x) then fun w δ h=>some (δ.set i (some w),h) else fun _ _ _=>none
  | none=>fun _ _ _=>none)
 | .Tuple es _ _=>if es.all aH=true then aP (lV v st es) else fun _ _ _=>none
 | .Subscript o i _=>if uG i=true then fun _ _ _=>none else fun w δ h=>(v.E st o δ h).bind fun p=>(v.E st i δ p.2).bind fun q=>(match p.1,q.1,w with
  | .c j,.d y,.d x=>fL j y x δ q.2
  | .c j,.d y,.c i=>jD j y i δ q.2
  | _,_,_=>none)
 | _=>fun _ _ _=>none
def iW (g:XG) (tt:XR Bool) (te:XR W) (c:Cw) (all:List PyData):List PyData->DSt->aA->List Nat->Option (List Nat×aA)
 | [],_,h,ac=>if condB c all h=true then some (ac,h) else none
 | x::r,δ,h,ac=>if condB c all h=true then
   (g (.d x) δ h).bind fun p=>(tt p.1 p.2).bind fun q=>if q.1=true then
     (te p.1 q.2).bind fun y=>(match y.1 with
      | .c j=>iW g tt te c all r p.1 y.2 (ac++[j])
      | _=>none)
    else iW g tt te c all r p.1 q.2 ac
  else none
def aC7 (tg iter:Expr) (ifs:List Expr) (sc:Scope):XR W :=
 if lT st.N sc st.S&&!gO iter then xb (oG v st tg iter) fun p=>fun δ h=>(iW (v.G (st.blk sc) tg) (yR v (st.blk sc) ifs) (aV (xPl (aC []))) p.2 p.1 p.1 (aK (dO st.N sc) δ) h []).bind fun q=>some (.c q.2.length,q.2++[.r (q.1.map .c)]) else xno
noncomputable def lcS:(e:Expr)->Option {y:Expr×Expr×List Expr×Int×Scope // ∃ p q,e=.ListComp (.List [] p) [⟨y.1,y.2.1,y.2.2.1,y.2.2.2.1⟩] y.2.2.2.2 q}
 | .ListComp (.List [] p) [⟨tg,iter,ifs,a⟩] sc q=>some ⟨(tg,iter,ifs,a,sc),p,q,rfl⟩
 | _=>none
def bC8 (e:Expr):XR W:=match lcS e with
 | some ⟨(tg,iter,ifs,a,sc),_⟩=>if a=0 then aC7 v st tg iter ifs sc else xno
 | none=>v.E st e
def bO7 (o:Expr) (f:Str) (e:Expr):XS:=fun δ h=>(bC8 v st e δ h).bind fun p=>(v.E st o δ p.2).bind fun q=>match q.1 with
 | .c j=>(match q.2[j]? with
  | some (.o C fs)=>if st.ob.fo C f=true/\fs.length < 1000 then some (.nx δ,q.2.set j (.o C (iS f p.1 fs))) else none
  | _=>none)
 | _=>none
noncomputable def cvS (st:Sta) (tg e:Expr):Bool:=match tg,e with
 | .Subscript (.Name x _) _ _,.List _ _=>st.cv.contains (x++"[]")
 | _,_=>false
noncomputable def iX:Expr->Bool
 | .ListComp _ _ _ _=>true
 | .SetComp _ _ _ _=>true
 | .DictComp _ _ _ _ _=>true
 | _=>false
def aP2 (e tg:Expr):Bool:=wN e&&(match tg with
 | .Tuple _ _ _=>true
 | .List _ _=>true
 | _=>false)
noncomputable def xSs:List Stmt->XS
 | [],δ,h=>some (.nx δ,h)
 | s::r,δ,h=>(v.S st s δ h).bind fun p=>(match p.1 with
  | .nx δ'=>xSs r δ' p.2
  | f=>some (f,p.2))
noncomputable def cG8:Expr->Bool
 | .Dict [] [] _=>true
 | _=>false
noncomputable def aY4:XR W:=fun _ h=>some (.c h.length,h++[.k []])
noncomputable def wfC:Expr->Bool
 | .Call (.Name f _) _ [] _=>(st.ob.fnW f).isSome
 | _=>false
def bO8 (e:Expr):XR W:=aV (v.F st e)
noncomputable def aO (i:Nat) (x:XR W):XS:=fun δ h=>(x δ h).bind fun p=>some (.nx (δ.set i (some p.1)),p.2)
def swB (e:Expr) (x:Str) (px:Pos):Bool:=match e with
 | .ListComp _ _ sc p=>cS st.S x&&(px.line==p.line)&&!(sc.names.any fun (n,k)=>n==x&&(k==.local||k==.cell))
 | _=>false
def rW (s:Stmt):XS:=match s with
 | .Return (some e) _=>fun δ h=>((if st.cv.contains "return"=true then bO8 v st e else v.E st e) δ h).bind fun p=>some (.rt p.1,p.2)
 | .If c a b _=>fun δ h=>(v.T st c δ h).bind fun p=>if p.1=true then xSs v st a δ p.2 else xSs v st b δ p.2
 | .Expr e _=>if iX e=true then fun _ _=>none else fun δ h=>(v.E st e δ h).bind fun p=>some (.nx δ,p.2)
 | .Pass _=>fun δ h=>some (.nx δ,h)
 | .Break _=>fun δ h=>some (.bk δ,h)
 | .Continue _=>fun δ h=>some (.ct δ,h)
 | .For tg iter body [] _=>if gO iter=true then fun _ _=>none else fun δ h=>(oG v st tg iter δ h).bind fun p=>bB (v.G st tg) (xSs v st body) p.1.2 p.1.1 p.1.1 δ p.2
 | .Assign [.Name x px] e _=>(match slot st x with
  | some i=>if pQ st.S x&&(st.top||cS st.S x) then
    (if iX e=true then (if (swB st e x px||!(cS st.S x))=true then aO i (if st.cv.contains x=true then aV (bL v st e) else aN (bL v st e)) else fun _ _=>none)
    else if (st.cv.contains x&&cG8 e)=true then aO i aY4
    else if (st.cv.contains x&&!(aC1 e||wfC st e))=true then aO i (aV (v.F st e)) else aO i (v.E st e))
   else fun _ _=>none
  | none=>fun _ _=>none)
 | .Assign [.Attribute o f _] e _=>bO7 v st o f e
 | .Assign [tg] e _=>if (iX e||aP2 e tg||!(aH tg))=true then fun _ _=>none else fun δ h=>((if cvS st tg e=true then aV (v.F st e) else v.E st e) δ h).bind fun p=>(v.G st tg p.1 δ p.2).bind fun q=>some (.nx q.1,q.2)
 | _=>fun _ _=>none
end
def step (v:Evs):Evs:=⟨rU v,aY3 v,bL v,rV v,rW v⟩
def evs:Nat->Evs
 | 0=>.no
 | n+1=>step (evs n)

def parsOf (s:Stmt):List Str:=(cB s).args.map (·.arg)
def bW (s:Stmt):List Str:=parsOf s++((defScope s).names.filter fun p=>(p.2==.local||p.2==.cell)&&!((parsOf s).contains p.1)).map (·.1)
def fnB (s:Stmt):Bool:=decide ((defScope s).kind=.function)&&(!(defScope s).isCoroutine&&(!(defScope s).isGenerator&&(decide (bW s).Nodup&&(((parsOf s).all fun x=>pQ (defScope s) x)&&((defScope s).names.all fun y=>!(y.2==.free))))))
open Classical in
noncomputable def aM (h0:aA) (p:Fl×aA):Option (PyData×aA):=if okP h0 p.2 then (match p.1 with
 | .nx _=>some (.none,p.2.take h0.length)
 | .rt (.d z)=>some (z,p.2.take h0.length)
 | .rt (.c i)=>(match p.2[i]? with
  | some (.l xs)=>if h0.length<=i then some (.list xs,p.2.take h0.length) else none
  | some (.k kvs)=>if h0.length<=i then some (.dict kvs,p.2.take h0.length) else none
  | _=>none)
 | _=>none) else none
noncomputable def iO (p:Fl×aA):Option (W×aA):=match p.1 with
 | .nx _=>some (.d .none,p.2)
 | .rt w=>some (w,p.2)
 | _=>none
structure Top where
 bl:List Str
 gc:Str->Option PyData
 tk:Str->Option (Str->Option PyData)
 defs:Str->Option Stmt
 ac:Str->List Nat
 cv:Str->List Str
 fuel:Nat
 deep:Nat
 wf:Str->Bool
 ini:Str->Option (Addr×Stmt)
 mt:Str->Option (Addr×Stmt)
 fo:Addr->Str->Bool
 qn:Str->Option (Str×Pos)
def Top.sta (t:Top) (fn:Str->Option XF) (ob:ObS) (x:Str) (s:Stmt):Sta:=⟨t.bl,t.gc,t.tk,fn,t.ac,t.cv x,bW s,defScope s,true,t.fuel,ob,t.qn x⟩
def lW (t:Top) (fn:Str->Option XF) (ob:ObS) (x:Str) (s:Stmt):XF:=fun ws h =>
 if fnB s=true/\ws.length=(parsOf s).length then (xSs (evs t.deep) (t.sta fn ob x s) (bG s) (dK (bW s) ws) h).bind (aM h) else none
def iP (t:Top) (fn:Str->Option XF) (ob:ObS) (x:Str) (s:Stmt):XFW:=fun ws h =>
 if fnB s=true/\ws.length=(parsOf s).length then (xSs (evs t.deep) (t.sta fn ob x s) (bG s) (dK (bW s) ws) h).bind iO else none
abbrev fnT (t:Top) (D:Str->XF):Str->Option XF:=fun y=>(t.defs y).map fun _=>D y
abbrev obT (t:Top) (W I M:Str->XFW):ObS:=⟨fun y=>if t.wf y=true then (t.defs y).map fun _=>W y else none,fun y=>(t.ini y).map fun p=>(p.1,I y),fun y=>(t.mt y).map fun p=>(p.1,M y),t.fo⟩
mutual
noncomputable def aD (t:Top):Nat->Str->XF
 | 0,_=>fun _ _=>none
 | d+1,x=>(match t.defs x with
  | some s=>lW t (fnT t fun y=>aD t d y) (obT t (fun y=>callW t d y) (fun y=>callI t d y) fun y=>callM t d y) x s
  | none=>fun _ _=>none)
noncomputable def callW (t:Top):Nat->Str->XFW
 | 0,_=>fun _ _=>none
 | d+1,x=>(match t.defs x with
  | some s=>iP t (fnT t fun y=>aD t d y) (obT t (fun y=>callW t d y) (fun y=>callI t d y) fun y=>callM t d y) x s
  | none=>fun _ _=>none)
noncomputable def callM (t:Top):Nat->Str->XFW
 | 0,_=>fun _ _=>none
 | d+1,x=>(match t.mt x with
  | some (_,s)=>iP t (fnT t fun y=>aD t d y) (obT t (fun y=>callW t d y) (fun y=>callI t d y) fun y=>callM t d y) x s
  | none=>fun _ _=>none)
noncomputable def callI (t:Top):Nat->Str->XFW
 | 0,_=>fun _ _=>none
 | 1,_=>fun _ _=>none
 | d+2,x=>(match t.ini x with
  | some (_,s)=>iP t (fnT t fun y=>aD t d y) (obT t (fun y=>callW t d y) (fun y=>callI t d y) fun y=>callM t d y) x s
  | none=>fun _ _=>none)
end
end CI

namespace CI
def bind_some {α β:Type} {x:Option α} {f:α->Option β} {b:β} (e:x.bind f=some b):∃ a,x=some a/\f a=some b:=Option.bind_eq_some_iff.mp e
def map_some {α β:Type} {x:Option α} {f:α->β} {b:β} (e:x.map f=some b):∃ a,x=some a/\f a=b:=Option.map_eq_some_iff.mp e
def aE {α:Type} {c:Prop} [Decidable c] {x:Option α} {b:α} (e:(if c then x else none)=some b):c/\x=some b:=by
 by_cases h:c
 ·rw [if_pos h] at e;exact ⟨h,e⟩
 ·rw [if_neg h] at e;cases e
end CI
namespace DL
open PySem PySem.Spec PyProof.Rows L2 CI
def thn {α:Type} {t:Sem α} {Q Q':α->Shared->Prop} {M:Model} {A:Around} {E:Value->Shared->Prop} {s:Shared} (h:wpAny M A t Q E s) (hQ:∀ a s,Q a s->Q' a s):wpAny M A t Q' E s:=wpAny_mono h hQ fun _ _ x=>x
abbrev Wp (S:Sx) (A:Around) {α:Type} (t:Sem α) (Q:α->Shared->Prop) (E:Value->Shared->Prop) (s:Shared):Prop:=wpAny (model S.P S.w) A t Q E s
def Pw (S:Sx) (κ:Kp) (M:Mp) (h:aA) (w:W) (u:Value) (s:Shared):Prop:=∃ M',Le M M'/\Mem S κ M' h s/\RepW S M' w u
def Pf (S:Sx) (κ:Kp) (M:Mp) (h:aA) (xs:List PyData) (u:Value) (s:Shared):Prop :=
 ∃ M',Le M M'/\Mem S κ M' h s/\∃ a us n,u=.ref a/\s.heap.get? a=some (aU us n)/\bA κ M' a/\us.length<=sizeLine/\Reps' S M' xs us
structure Room (k:Nat) (A:Around):Prop where
 hd:A.handled=none
 dp:A.depth+3*k+5 < recursionLimit
 un:A.units+16*k+200 < cLine
section
variable {S:Sx} {κ:Kp} {M:Mp} {h h':aA} {s:Shared} {A:Around} {E:Value->Shared->Prop} {x y w:W} {u v:Value} {d:Nat}
def wi {i:Int}:RepW S M (.d (.int i)) u ↔ ∃ t,u=.int i t:=rep_i (S:=S) (Z:=M.Z)
def wb {i:Bool}:RepW S M (.d (.bool i)) u ↔ u=.bool i:=rep_b (S:=S) (Z:=M.Z)
def wn:RepW S M (.d .none) u ↔ u=.none:=rep_n (S:=S) (Z:=M.Z)
def Pw.go {M':Mp} (l:Le M M') (p:Pw S κ M' h w u s):Pw S κ M h w u s:=let ⟨N,a,b⟩:=p;⟨N,l.trans a,b⟩
def Mem.pw (R:Mem S κ M h s) (r:RepW S M w u):Pw S κ M h w u s:=⟨M,.refl,R,r⟩
def Mem.pi (R:Mem S κ M h s) {i:Int} {t t':Nat}:Pw S κ M h (.d (.int i)) (.int i t) { s with toks:=t' }:=(R.tok t').pw (wi.mpr ⟨_,rfl⟩)
def Mem.pb (R:Mem S κ M h s) {b:Bool}:Pw S κ M h (.d (.bool b)) (.bool b) s:=R.pw (wb.mpr rfl)
def Mem.pn (R:Mem S κ M h s):Pw S κ M h (.d .none) .none s:=R.pw (wn.mpr rfl)
def pT {xs:List PyData} (p:Pf S κ M h xs u s):Pw S κ M h (.d (.list xs)) u s:=by
 obtain ⟨N,l,R,a,us,n,rfl,e,f,z,r⟩:=p;exact ⟨N.add a (aU us n),l.trans (.add f.1),R.frz f e,rep_l.mpr ⟨a,_,us,rfl,jB,⟨⟨n,rfl⟩,z⟩,r.go (.add f.1)⟩⟩
def aC8 {xs:List PyData} (p:Pf S κ M h xs u s):Pw S κ M (h++[.l xs]) (.c h.length) u s:=by
 obtain ⟨N,l,R,a,us,n,rfl,e,f,z,r⟩:=p;exact ⟨N.cel (a,a),l.trans .cel,R.add f f ⟨⟨_,e⟩,_,e⟩ ⟨us,n,e,z,r.go .cel⟩,(a,a),by show (N.m++[(a,a)])[h.length]?=_;rw [<- R.len];simp,rfl⟩
def Mem.tup {xs:List PyData} {us:List Value} {t:Nat} (R:Mem S κ M h s) (r:Reps' S M xs us) (z:us.length<=sizeLine):Pw S κ M h (.d (.tuple xs)) (.ref s.heap.objs.size) { s with heap:=s.heap.push { cls:=.type "tuple",data:=.seq us.toArray },toks:=t }:=by
 have R1:Mem S κ M h { s with heap:=s.heap.push { cls:=.type "tuple",data:=.seq us.toArray },toks:=t }:=R.kept fun b o e=>Heap.get?_push_of_some _ e;exact ⟨_,.add R.size.1,R1.frz R.size (Heap.get?_push_size _ rfl),rep_t.mpr ⟨_,_,us,rfl,jB,⟨⟨_,rfl⟩,z⟩,r.go (.add R.size.1)⟩⟩
def Mem.lst {h2:Heap} {xs:List PyData} {us:List Value} {n t:Nat} (R:Mem S κ M h s) (k:∀ b o,s.heap.get? b=some o->h2.get? b=some o) (e:h2.get? s.heap.objs.size=some (aU us n)) (r:Reps' S M xs us) (z:us.length<=sizeLine) :
  Pf S κ M h xs (.ref s.heap.objs.size) { s with heap:=h2,toks:=t }:=⟨M,.refl,R.kept k,_,us,n,rfl,e,R.size,z,r⟩
def Mem.lstP {xs:List PyData} {us:List Value} {n t:Nat} (R:Mem S κ M h s) (r:Reps' S M xs us) (z:us.length<=sizeLine):Pf S κ M h xs (.ref s.heap.objs.size) { s with heap:=s.heap.push (aU us n),toks:=t } :=
 R.lst (fun b o e=>Heap.get?_push_of_some _ e) (Heap.get?_push_size _ rfl) r z
def cH {xs:List PyData} (R:Mem S κ M h s) (r:RepW S M w u) (e:ref h w=some (.list xs)):∃ a us n,u=.ref a/\s.heap.get? a=some (aU us n)/\us.length<=sizeLine/\Reps' S M xs us:=by
 cases w with
 | d y =>
  cases e;obtain ⟨a,o,us,e,z,⟨⟨n,rfl⟩,l⟩,r⟩:=rep_l.mp (show Rep S M.Z (.list xs) u from r);exact ⟨a,us,n,e,R.z a _ z,l,r⟩
 | c i =>
  obtain ⟨p,e1,rfl⟩:=r;dsimp only [DL.ref] at e;cases q:h[i]? with
  | none=>rw [q] at e;cases e
  | some c =>
   cases c with
   | l ys=>rw [q] at e;cases e;obtain ⟨us,n,a,b,c⟩:=R.cel i p _ e1 q;exact ⟨_,us,n,rfl,a,b,c⟩
   | _=>rw [q] at e;cases e
def dY {xs:List PyData} (R:Mem S κ M h s) (r:RepW S M w u) (e:ref h w=some (.tuple xs)):∃ a us n,u=.ref a/\M.Z a=some { cls:=.type "tuple",data:=.seq us.toArray n }/\us.length<=sizeLine/\Reps' S M xs us:=by
 cases w with
 | d y =>
  cases e;obtain ⟨a,o,us,e,z,⟨⟨n,rfl⟩,l⟩,r⟩:=rep_t.mp (show Rep S M.Z (.tuple xs) u from r);exact ⟨a,us,n,e,z,l,r⟩
 | c i =>
  dsimp only [DL.ref] at e;cases q:h[i]? with
  | none=>rw [q] at e;cases e
  | some c=>cases c<;>(rw [q] at e;cases e)
def wQ {kvs:List (PyData×PyData)} (R:Mem S κ M h s) (r:RepW S M w u) (hf:gJ kvs=none) (e:ref h w=some (.dict kvs)):∃ a vs,u=.ref a/\s.heap.DictOf (bY S.P S.w) a vs/\RepK S M.Z kvs vs/\(a==sysModules)=false/\vs.length<=sizeLine:=by
 cases w with
 | d y =>
  cases e;obtain ⟨a,o,vs,e,z,q,r⟩:=(wL hf).mp (show Rep S M.Z (.dict kvs) u from r);exact ⟨a,vs,e,q.2.2 _ (R.z a o z),r,q.1,q.2.1⟩
 | c i =>
  obtain ⟨p,e1,rfl⟩:=r;dsimp only [DL.ref] at e;cases q:h[i]? with
  | none=>rw [q] at e;cases e
  | some c =>
   cases c with
   | k ys=>rw [q] at e;cases e;obtain ⟨vs,a,b,c⟩:=R.cel i p _ e1 q;exact ⟨_,vs,rfl,a,b,c⟩
   | _=>rw [q] at e;cases e
def bK {a:Addr} {us:List Value} {n:Nat} (e:s.heap.get? a=some (aU us n)):PlainL s.heap a us.toArray:=⟨_,n,e,rfl,rfl,rfl⟩
def eY {hp:Heap} {a:Addr} {us:List Value} {n:Nat} (e:hp.get? a=some { cls:=.type "tuple",data:=.seq us.toArray n }):IsTup hp a us.toArray:=⟨_,e,rfl,n,rfl⟩
def nM {x:W} {d:PyData} (R:Mem S κ M h s) (r:RepW S M x u) (e:ref h x=some d) (p:aJ 64 d=true):(∃ as,Reads s.heap u d as)/\SeqAt.shaped d=true:=by
 have go:(∃ as,Reads s.heap u d as)/\d.canLay0=true/\d.depth<=64:=by
  cases x with
  | d y=>cases e;exact Rep.reads R.z 64 r p
  | c i =>
   cases d with
   | list xs =>
    obtain ⟨a,us,n,rfl,ho,_,rr⟩:=cH R r e;obtain ⟨⟨as,q⟩,c,l⟩:=Reps.reads R.z 63 (reps_iff.mpr rr) (by simpa [aJ] using p);exact ⟨⟨_,Reads.list ho rfl rfl (by simpa using q)⟩,by simp [PyData.canLay0,PyData.depth,c,l]⟩
   | dict _=>simp [aJ] at p
   | _ =>
    dsimp only [DL.ref] at e;cases q:h[i]? with
    | none=>rw [q] at e;cases e
    | some c=>cases c<;>(rw [q] at e;cases e)
 exact ⟨go.1,by unfold SeqAt.shaped;rw [go.2.1];simpa using go.2.2⟩
def bC9 {j:Int} (h:cG j=true):0 < j/\j.natAbs.log2 < 9000:=by
 unfold cG at h;simp only [Bool.and_eq_true,Bool.or_eq_true,decide_eq_true_eq] at h;refine ⟨h.1,?_⟩;rcases h.2 with z | z
 ·have h0:j.natAbs≠0:=by omega
  have:=(Nat.log2_lt h0 (k:=30)).mpr (by omega);omega
 ·omega
def uJ (k:Nat):(0:Int)<=2^k:=by rw [two_pow_cast];exact Int.natCast_nonneg _
def bD0 {i j:Int} (h:gE i j=true):IntMulOk i j:=by
 unfold gE at h;simp only [Bool.and_eq_true,Bool.or_eq_true,decide_eq_true_eq] at h;rcases h with ⟨h1,h2⟩ | ⟨h1,h2⟩
 ·exact .of_left (intBits_le_64 h1 h2)
 ·exact .of_right (intBits_le_64 h1 h2)
def bD1 (R:Mem S κ M h s) (ra:RepW S M x u) (rb:RepW S M y v) (e:bB7 x y h=some (w,h')):Wp S A (binaryOp .Add u v) (Pw S κ M h' w) E s:=by
 unfold bB7 at e;split at e
 ·cases e;obtain ⟨t,rfl⟩:=wi.mp ra;obtain ⟨t',rfl⟩:=wi.mp rb;exact add_int R.pi
 ·obtain ⟨hz,e⟩:=aE e;cases e;obtain ⟨a,us,n,rfl,ea,la,ra'⟩:=dY (h:=h) R ra rfl;obtain ⟨b,vs,m,rfl,eb,lb,rb'⟩:=dY (h:=h) R rb rfl;have l1:=ra'.length;have l2:=rb'.length
  by_cases e1:us=[]
  ·subst e1;cases ra';refine concat_meets ⟨_,R.z _ _ ea,rfl⟩ ⟨_,R.z _ _ eb,rfl⟩ noFill_tuple_add seq_tuple_add PySem.F.slot_tuple_add PySem.F.entry_tuple_add (PySem.F.args_tuple_add_2 _ _) (tuple_addW0 a b _ _ n m none none #[] #[] rfl) ⟨R.z _ _ ea,R.z _ _ eb,?_⟩;exact R.pw rb
  ·refine HT.cat_tup (eY (R.z _ _ ea)) (eY (R.z _ _ eb)) e1 (fun z=>?_) (fun _=>?_) (by omega)
   ·subst z;cases rb';rw [List.append_nil];exact R.pw ra
   ·exact R.tup (t:=s.toks) (uB ra' rb') (by rw [List.length_append];omega)
 ·split at e
  ·rename_i ha hb;obtain ⟨hz,e⟩:=aE e;cases e;obtain ⟨a,us,n,rfl,ea,la,ra'⟩:=cH R ra ha;obtain ⟨b,vs,m,rfl,eb,lb,rb'⟩:=cH R rb hb;have l1:=ra'.length;have l2:=rb'.length;refine PySem.P.add_list ea eb ?_ (by rw [List.size_toArray,List.size_toArray];omega);have ea:us.toArray++vs.toArray=(us++vs).toArray:=by simp
   rw [ea];exact pT (R.lstP (t:=s.toks) (uB ra' rb') (by rw [List.length_append];omega))
  ·cases e
theorem jW (its:List Value):∀ (k:Nat) (acc:List Value),List.foldl (fun x1 x2=>x1++x2) acc.toArray (List.replicate k its.toArray)=(acc++(List.replicate k its).flatten).toArray
 | 0,acc=>by simp
 | k+1,acc=>by
  have e:acc.toArray++its.toArray=(acc++its).toArray:=by simp
  have e2:(acc++its)++(List.replicate k its).flatten=acc++(List.replicate (k+1) its).flatten:=by
   rw [List.replicate_succ,List.flatten_cons,List.append_assoc]
  rw [<- e2,<- jW its k (acc++its),<- e,List.replicate_succ,List.foldl_cons]
def pU {α:Type} (xs:List α) (k:Nat):(List.replicate k xs).flatten.length=k*xs.length:=by
 induction k with
 | zero=>simp
 | succ k ih=>rw [List.replicate_succ,List.flatten_cons,List.length_append,ih,Nat.succ_mul,Nat.add_comm]
theorem bD2 {S:Sx} {M:Mp} {xs:List PyData} {us:List Value} (r:Reps' S M xs us):∀ k,Reps' S M (List.replicate k xs).flatten (List.replicate k us).flatten
 | 0=>.nil
 | k+1=>by rw [List.replicate_succ,List.replicate_succ,List.flatten_cons,List.flatten_cons];exact uB r (bD2 r k)
def lX:fillsNumberSlot (.type "tuple") "mul"=pure false :=
 PySem.fillsNumberSlot_seq (id:="tuple.__mul__") (r:=some (.builtin "tuple.__rmul__")) PySem.F.slot_tuple_mul.lookup (by decide +kernel) PySem.F.slot_tuple_rmul.lookup (by decide +kernel)
def nN:seqRepeat? (.type "tuple")=pure (some (.builtin "tuple.__mul__")):=by
 unfold seqRepeat?;rw [PySem.seqSlot_of (T:="tuple") (name:="__mul__") (id:="tuple.__mul__") PySem.F.slot_tuple_mul.lookup (by decide +kernel),PySem.seqSlot_of (T:="tuple") (name:="__rmul__") (id:="tuple.__rmul__") PySem.F.slot_tuple_rmul.lookup (by decide +kernel)];rfl
def lY (a:Int) (t:Tok) (l:Addr) (items:Array Value) (n:Nat) (dd:Option Addr) (sl:Array (Option Value)) :
  Meets (Builtin.«int.__rmul__» ⟨[.int a t,.ref l],[]⟩) (fun _ R s=>s.heap.get? l=some { cls:=.type "tuple",dict:=dd,data:=.seq items n,slots:=sl }/\R (.ok (.ret Value.notImplemented)) s) :=
 .of_wp fun prog w A R s h=>by
  obtain ⟨hp,g,d,tk,os⟩:=s;obtain ⟨hl,h⟩:=h
  wp_walk
  exact ⟨_,rfl,h⟩
def rX (l:Addr) (items:Array Value) (n:Nat) (dd:Option Addr) (sl:Array (Option Value)) (k:Int) (u:Tok) (h1:¬ (k < -(2^63)||k ≥ 2^63)=true) (h2:¬ (items.isEmpty||k==1)=true) (h3:¬ (decide (k<=0)||items.isEmpty)=true)
  (h4:¬ (items.size*k > (2^63 - 1) / 8)) (h6:¬ Builtin.Tuple.tupleTooMany (items.size*k)=true) (h5:¬ ((List.replicate k.toNat items).foldl (·++·) #[]).size > sizeLine) :
  Meets (Builtin.«tuple.__mul__» ⟨[.ref l,.int k u],[]⟩) (fun _ R s=>s.heap.get? l=some { cls:=.type "tuple",dict:=dd,data:=.seq items n,slots:=sl } /\
   R (.ok (.ret (.ref s.heap.objs.size))) { s with heap:=s.heap.push { cls:=.type "tuple",data:=.seq ((List.replicate k.toNat items).foldl (·++·) #[]) 0 } }) :=
 .of_wp fun prog w A R s h=>by
  obtain ⟨hp,g,d,tk,os⟩:=s;obtain ⟨hl,h⟩:=h;have f2:=AutoSeq1.sub_tuple_tuple
  wp_walk
  refine wpAny_ite_false (decide_eq_false h1) ?_
  wp_walk using wpAny_loadPart' hl
  refine wpAny_ite_false (decide_eq_false h4) ?_
  wp_walk
  exact ⟨_,rfl,h⟩
def bO9 {xs:List PyData} {k:Int} (R:Mem S κ M h s) (ra:RepW S M (.d (.tuple xs)) u) (rb:RepW S M (.d (.int k)) v) (hc:xs≠[]/\1 < k/\k < 2^63/\xs.length*k.toNat<=sizeLine):Wp S A (binaryOp .Mult u v) (Pw S κ M h (.d (.tuple (List.replicate k.toNat xs).flatten))) E s:=by
 obtain ⟨hne,k1,k2,hz⟩:=hc;obtain ⟨t,rfl⟩:=wi.mp rb;obtain ⟨l,its,n,rfl,z,_,r⟩:=dY (h:=h) R ra rfl;have ho:=R.z _ _ z;have hl:=r.length;have he:its.toArray.isEmpty=false:=by
  cases its with
  | nil=>cases r;exact absurd rfl hne
  | cons=>rfl
 have hf:(List.replicate k.toNat its.toArray).foldl (·++·) #[]=(List.replicate k.toNat its).flatten.toArray:=by
  have:=jW its k.toNat [];rw [List.nil_append] at this;exact this
 have hm:(its.length:Int)*k=((its.length*k.toNat:Nat):Int):=by
  rw [Int.natCast_mul,Int.toNat_of_nonneg (by omega)]
 have hz':its.length*k.toNat<=sizeLine:=by rw [<- hl];exact hz
 have hsl:(sizeLine:Int)<=(2^63 - 1) / 8:=by decide
 refine wpAny_binaryOp_repeat_ref (T:="tuple") (U:="int") (by decide) ⟨_,ho,rfl⟩ (fun s'=>typeIs_int s' k t) lX PySem.F.fills_int_mul PySem.F.slot_int_rmul nN PySem.F.slot_int_index.lookup
  (call_meets PySem.F.slot_int_rmul (typeIs_int s k t) PySem.F.entry_int_rmul (PySem.F.args_int_rmul_2 _ _) (lY k t l its.toArray n none #[])
   ⟨ho,rfl,⟨_,ho,rfl⟩,call_meets PySem.F.slot_tuple_mul ⟨_,ho,rfl⟩ PySem.F.entry_tuple_mul (PySem.F.args_tuple_mul_2 _ _) (rX l its.toArray n none #[] k t ?_ ?_ ?_ ?_ ?_ ?_) ⟨ho,?_⟩⟩)
 ·simp;omega
 ·rw [he];simp;omega
 ·rw [he];simp;omega
 ·rw [List.size_toArray,hm];omega
 ·unfold Builtin.Tuple.tupleTooMany;rw [List.size_toArray,hm,decide_eq_true_eq];omega
 ·rw [hf,List.size_toArray,pU,Nat.mul_comm];omega
 ·rw [hf];exact R.tup (t:=s.toks) (bD2 r k.toNat) (by rw [pU,Nat.mul_comm];exact hz')
def bin_ok {op:Operator} (R:Mem S κ M h s) (ra:RepW S M x u) (rb:RepW S M y v) (e:gN op x y h=some (w,h')):Wp S A (binaryOp op u v) (Pw S κ M h' w) E s:=by
 unfold gN at e;split at e
 ·exact bD1 R ra rb e
 ·unfold bN9 at e;split at e
  ·obtain ⟨hm,e⟩:=aE e;cases e;obtain ⟨t,rfl⟩:=wi.mp ra;obtain ⟨t',rfl⟩:=wi.mp rb;exact mul_int R.pi (bD0 hm)
  ·obtain ⟨hm,e⟩:=aE e;cases e;exact bO9 R ra rb hm
  ·cases e
 ·split at e
  ·rename_i i j;obtain ⟨t,rfl⟩:=wi.mp ra;obtain ⟨t',rfl⟩:=wi.mp rb;split at e
   ·cases e;exact sub_int R.pi
   ·obtain ⟨hm,e⟩:=aE e;cases e;obtain ⟨h1,h2⟩:=bC9 hm;exact floordiv_int (by omega) (by rw [Int.fdiv_eq_ediv_of_nonneg i (by omega)];exact R.pi) (.inl (PyProof.noPylong_of_log2 h2))
   ·obtain ⟨hm,e⟩:=aE e;cases e;exact mod_int' (by omega) (by rw [Int.fmod_eq_emod_of_nonneg i (by omega)];exact R.pi)
   ·obtain ⟨hm,e⟩:=aE e;cases e;unfold lR at hm;simp only [Bool.and_eq_true,decide_eq_true_eq] at hm;exact pow_int_small hm.1 hm.2.1 hm.2.2 R.pi
   ·obtain ⟨hm,e⟩:=aE e;cases e;exact rshift_int hm (by rw [Int.fdiv_eq_ediv_of_nonneg i (uJ _)];exact R.pi)
   ·cases e;exact and_int R.pi
   ·cases e
  ·cases e
def bD3 {i:Int} (R:Mem S κ M h s) (ra:RepW S M (.d (.int i)) u):Wp S A (unaryOp .USub u) (Pw S κ M h (.d (.int (-i)))) E s:=by
 obtain ⟨t,rfl⟩:=wi.mp ra;exact neg_int R.pi
def lZ {Z:Zm} {a b:PyData} {k:Bool} (ra:Rep S Z a u) (rb:Rep S Z b v) (e:isSame a b=some k):plainIs u v=true/\(u==v)=k:=by
 cases b with
 | none =>
  rw [Rep] at rb;subst rb;cases a with
  | none=>rw [Rep] at ra;subst ra;cases e;exact ⟨rfl,rfl⟩
  | bool c=>rw [Rep] at ra;subst ra;cases e;exact ⟨rfl,rfl⟩
  | int c=>rw [Rep] at ra;obtain ⟨t,rfl⟩:=ra;cases e;exact ⟨rfl,rfl⟩
  | str c=>rw [Rep] at ra;obtain ⟨⟨t,rfl⟩,_⟩:=ra;cases e;exact ⟨rfl,rfl⟩
  | list c=>rw [Rep] at ra;obtain ⟨p,o,vs,rfl,_⟩:=ra;cases e;exact ⟨rfl,rfl⟩
  | tuple c=>rw [Rep] at ra;obtain ⟨p,o,vs,rfl,_⟩:=ra;cases e;exact ⟨rfl,rfl⟩
  | dict c=>cases e
 | bool b =>
  rw [Rep] at rb;subst rb;cases a with
  | none=>rw [Rep] at ra;subst ra;cases e;exact ⟨rfl,rfl⟩
  | bool c=>rw [Rep] at ra;subst ra;cases e;cases b<;>cases c<;>exact ⟨rfl,rfl⟩
  | int c=>rw [Rep] at ra;obtain ⟨t,rfl⟩:=ra;cases e;exact ⟨rfl,rfl⟩
  | str c=>rw [Rep] at ra;obtain ⟨⟨t,rfl⟩,_⟩:=ra;cases e;exact ⟨rfl,rfl⟩
  | list c=>rw [Rep] at ra;obtain ⟨p,o,vs,rfl,_⟩:=ra;cases e;exact ⟨rfl,rfl⟩
  | tuple c=>rw [Rep] at ra;obtain ⟨p,o,vs,rfl,_⟩:=ra;cases e;exact ⟨rfl,rfl⟩
  | dict c=>cases e
 | _=>cases a<;>cases e
end
end DL

namespace DL
open PySem PySem.Spec PyProof.Rows L2 CI
section
variable {S:Sx} {κ:Kp} {M:Mp} {h h':aA} {s:Shared} {A:Around} {E:Value->Shared->Prop} {x y w:W} {u v:Value} {d:Nat} {b:Bool}
def Room.mono {j k:Nat} (r:Room k A) (h:j<=k):Room j A:=⟨r.hd,by have:=r.dp;omega,by have:=r.un;omega⟩
def Room.u64 (r:Room d A):A.units+64 < cLine:=by have:=r.un;omega
def Room.u65 (r:Room d A):A.units+65 < cLine:=by have:=r.un;omega
def uK {z:PyData} {k:Key} {Z:Zm} (e:cP z=some k) (r:Rep S Z z u):(bY S.P S.w).is k u=true:=by
 cases z with
 | int i=>cases e;obtain ⟨t,rfl⟩:=rep_i.mp r;exact rN _ _ i t
 | str z =>
  unfold cP at e;obtain ⟨_,e⟩:=aE e;cases e;obtain ⟨⟨t,rfl⟩,_⟩:=rep_s.mp r;exact rO _ _ z t
 | _=>cases e
def aP3 {k:Key} {kvs:List (PyData×PyData)} {p:PyData×PyData} (e:(kvs.find? fun p=>decide (cP p.1=some k))=some p):gJ kvs=none:=by
 cases q:gJ kvs with
 | none=>rfl
 | some g=>rw [wJ q] at e;simp [cP] at e
def oH {Z:Zm} (k:Key) {kvs:List (PyData×PyData)} {vs:List (Key×Value)} (r:RepK S Z kvs vs) :
  (∀ p,(kvs.find? fun p=>decide (cP p.1=some k))=some p->∃ v,valueAt vs k=some v/\Rep S Z p.2 v)/\((kvs.find? fun p=>decide (cP p.1=some k))=none->valueAt vs k=none):=by
 unfold valueAt;induction r with
 | nil=>exact ⟨fun p e=>(nomatch e),fun _=>rfl⟩
 | @cons p q ps qs hp _ ih =>
  by_cases e:q.1=k
  ·have a1:decide (cP p.1=some k)=true:=by rw [hp.1,e];simp
   simp only [List.find?_cons,a1,decide_eq_true e];exact ⟨fun _ ep=>by cases ep;exact ⟨_,rfl,hp.2⟩,fun ep=>by cases ep⟩
  ·have a1:decide (cP p.1=some k)=false:=by rw [hp.1];simpa using e
   simp only [List.find?_cons,a1,decide_eq_false e];exact ih
theorem rY {α:Type} (p:α->Bool):∀ xs:List α,xs.any p=(xs.find? p).isSome
 | []=>rfl
 | x::r=>by
  rw [List.any_cons];cases e:p x with
  | true=>rw [List.find?_cons_of_pos e];rfl
  | false=>rw [List.find?_cons_of_neg (by rw [e];exact Bool.false_ne_true),<- rY p r];rfl
def aC9 {Z:Zm} (k:Key) {kvs:List (PyData×PyData)} {vs:List (Key×Value)} (r:RepK S Z kvs vs):(kvs.any fun p=>decide (cP p.1=some k))=(valueAt vs k).isSome:=by
 rw [rY];obtain ⟨f1,f2⟩:=oH k r;cases q:kvs.find? fun p=>decide (cP p.1=some k) with
 | none=>rw [f2 q];rfl
 | some p=>obtain ⟨v,e,_⟩:=f1 p q;rw [e];rfl
def wR {z:PyData} {k:Key} (R:Mem S κ M h s) (r:RepW S M x u) (e:ref h x=some z) (ek:cP z=some k):(bY S.P S.w).is k u=true:=by
 cases x with
 | d y=>cases e;exact uK ek r
 | c i =>
  dsimp only [DL.ref] at e;cases q:h[i]? with
  | none=>rw [q] at e;cases e
  | some c=>cases c<;>(rw [q] at e;cases e)<;>cases ek
def aD0 {kvs:List (PyData×PyData)} (R:Mem S κ M h s) (r:RepW S M x u) (e:uF x h=some kvs):∃ i p xs,x=.c i/\M.m[i]?=some p/\h[i]?=some (.n kvs)/\u=.ref p.1/\s.heap.DictOfH (lM S) p.1 xs/\lO S M.Z kvs xs/\(p.1==sysModules)=false/\xs.length<=sizeLine:=by
 unfold uF at e;split at e
 ·rename_i i;split at e
  ·rename_i kv ei;cases e;obtain ⟨p,ep,rfl⟩:=r;obtain ⟨xs,⟨o,es,epo,h1,h2,h3,h4,h5⟩,rr,hs,hz⟩:=R.cel i p _ ep ei;refine ⟨i,p,xs,rfl,ep,ei,rfl,⟨o,es,epo,h1,h2,h3,h4,fun x hx=>?_,h5⟩,rr,hs,hz⟩;obtain ⟨j,hj⟩:=List.getElem?_of_mem hx;have:∀ {l:List (PyData×PyData)} {r:List (HK×Addr×Value)},lO S M.Z l r->x∈r->Rep S M.Z x.1.1 (.ref x.2.1):=fun {l r} q hx=>by
    unfold lO at q;induction q with
    | nil=>simp at hx
    | cons a _ ih =>
     rcases List.mem_cons.mp hx with rfl | hx
     ·rw [<- a.1];exact a.2.1
     ·exact ih hx
   exact Rep.go R.z (this rr hx)
  ·cases e
 ·cases e
def pV {d:PyData} (R:Mem S κ M h s) (r:RepW S M x u) (e:ref h x=some d) (hd:(gL d&&hkB 4 d)=true):∃ (hk:hkB 4 d=true) (a:Addr),u=.ref a/\(lM S).is s.heap ⟨d,hk⟩ a/\Rep S M.Z d (.ref a):=by
 rw [Bool.and_eq_true] at hd;cases d with
 | tuple ys =>
  have hx:x=.d (.tuple ys):=by
   cases x with
   | d z=>cases e;rfl
   | c i =>
    dsimp only [DL.ref] at e;cases q:h[i]? with
    | none=>rw [q] at e;cases e
    | some c=>cases c<;>(rw [q] at e;cases e)
  subst hx;obtain ⟨a,o,us,rfl,rest⟩:=rep_t.mp (show Rep S M.Z _ _ from r);exact ⟨hd.2,a,rfl,Rep.go R.z (show Rep S M.Z _ _ from r),r⟩
 | _=>simp [gL] at hd
def aD1 {d:PyData} (hk:hkB 4 d=true) {Z:Zm}:∀ {kvs:List (PyData×PyData)} {xs:List (HK×Addr×Value)},lO S Z kvs xs->(kvs.any fun p=>peq p.1 d)=(atKey xs ⟨d,hk⟩).isSome:=by
 intro kvs xs r;unfold lO at r;unfold atKey;rw [Option.isSome_map];induction r with
 | nil=>rfl
 | @cons q x _ _ a _ ih =>
  have e:peq q.1 d=decide (x.1=⟨d,hk⟩):=by
   rw [a.1,Bool.eq_iff_iff,(gK x.1.2 hk).2,decide_eq_true_iff];exact (Subtype.ext_iff (a1:=x.1) (a2:=⟨d,hk⟩)).symm
  rw [List.any_cons,List.find?_cons,e,ih];cases decide (x.1=⟨d,hk⟩)<;>rfl
def aP4 {d:PyData} (hk:hkB 4 d=true) {Z:Zm} {p:PyData×PyData}:∀ {kvs:List (PyData×PyData)} {xs:List (HK×Addr×Value)},lO S Z kvs xs->(kvs.find? fun p=>peq p.1 d)=some p->∃ v,atKey xs ⟨d,hk⟩=some v/\Rep S Z p.2 v.2:=by
 intro kvs xs r e;unfold lO at r;unfold atKey;induction r with
 | nil=>cases e
 | @cons q x _ _ a _ ih =>
  have eq:peq q.1 d=decide (x.1=⟨d,hk⟩):=by
   rw [a.1,Bool.eq_iff_iff,(gK x.1.2 hk).2,decide_eq_true_iff];exact (Subtype.ext_iff (a1:=x.1) (a2:=⟨d,hk⟩)).symm
  rw [List.find?_cons,eq] at e;rw [List.find?_cons];cases hd:decide (x.1=⟨d,hk⟩) with
  | true=>rw [hd] at e;cases e;exact ⟨x.2,rfl,a.2.2⟩
  | false=>rw [hd] at e;exact ih e
def Room.nd (hr:Room d A):(lM S).room A.in1:=by
 have:=hr.un;show A.units+1+5 < cLine;omega
def bD4 {neg:Bool} {z:PyData} (hr:Room d A) (R:Mem S κ M h s) (ra:RepW S M x u) (rb:RepW S M y v) (ea:ref h x=some z) (e:bO0 z y h=some b):Wp S A (compareOp (if neg then .NotIn else .In) u v) (Pw S κ M h (.d (.bool (neg ^^ b)))) E s:=by
 obtain ⟨kvs,e1,e⟩:=bind_some (show (uF y h).bind _=_ from e);obtain ⟨hz,e⟩:=aE e;cases e;obtain ⟨i,p,xs,rfl,ep,ei,rfl,dd,rr,hs,_⟩:=aD0 R rb e1;obtain ⟨hk,a,rfl,ik,_⟩:=pV R ra ea hz;rw [aD1 hk rr];cases neg
 ·exact wpAny_in_heap hr.nd ik hs dd (by simpa using (R.tok _).pb)
 ·exact wpAny_notIn_heap hr.nd ik hs dd (by simpa using (R.tok _).pb)
def aY5 {neg:Bool} (hr:Room d A) (R:Mem S κ M h s) (ra:RepW S M x u) (rb:RepW S M y v) (e:xIn x y h=some b):Wp S A (compareOp (if neg then .NotIn else .In) u v) (Pw S κ M h (.d (.bool (neg ^^ b)))) E s:=by
 unfold xIn at e;split at e
 ·rename_i z xs ea eb;obtain ⟨hp,e⟩:=aE e;cases e;rw [Bool.and_eq_true] at hp;obtain ⟨⟨bs,z2⟩,q2⟩:=nM R rb eb hp.1;obtain ⟨⟨as,z1⟩,q1⟩:=nM R ra ea hp.2;cases neg
  ·exact SeqAt.in_list_reads z2 z1 (SeqAt.canLay_of_shaped q2) (SeqAt.canLay_of_shaped q1) (room_in_shaped q1 hr.u65) (by simpa using R.pb)
  ·exact SeqAt.notIn_list_reads z2 z1 (SeqAt.canLay_of_shaped q2) (SeqAt.canLay_of_shaped q1) (room_in_shaped q1 hr.u65) (by simpa using R.pb)
 ·rename_i z xs ea eb;obtain ⟨hp,e⟩:=aE e;cases e;rw [Bool.and_eq_true] at hp;obtain ⟨⟨bs,z2⟩,q2⟩:=nM R rb eb hp.1;obtain ⟨⟨as,z1⟩,q1⟩:=nM R ra ea hp.2;cases neg
  ·exact SeqAt.in_tuple_reads z2 z1 (SeqAt.canLay_of_shaped q2) (SeqAt.canLay_of_shaped q1) (room_in_shaped q1 hr.u65) (by simpa using R.pb)
  ·exact SeqAt.notIn_tuple_reads z2 z1 (SeqAt.canLay_of_shaped q2) (SeqAt.canLay_of_shaped q1) (room_in_shaped q1 hr.u65) (by simpa using R.pb)
 ·rename_i z kvs ea eb;split at e
  ·rename_i k ek;obtain ⟨hfk,e⟩:=aE e;cases e;obtain ⟨a,vs,rfl,dd,rk,hd,_⟩:=wQ R rb (by simpa using hfk) eb;rw [aC9 k rk];cases neg
   ·exact wpAny_in_of (wR R ra ea ek) hd dd.mapOf (by simpa using (R.tok _).pb)
   ·exact wpAny_notIn_of (wR R ra ea ek) hd dd.mapOf (by simpa using (R.tok _).pb)
  ·obtain ⟨hz,e⟩:=aE e;cases e;rw [Bool.and_eq_true,List.isEmpty_iff] at hz;obtain ⟨rfl,hz⟩:=hz;obtain ⟨a,vs,rfl,⟨o,es,ep,h1,h2,h3,_,h5,_⟩,rk,hd,_⟩:=wQ R rb rfl eb;cases rk;have ees:es.toList=[]:=by generalize es.toList=l at h5;cases h5;rfl
   obtain ⟨hk,ka,rfl,ik,_⟩:=pV R ra ea hz;have dd:s.heap.DictOfH (lM S) a []:=⟨o,es,ep,h1,h2,h3,ees,fun _ z=>(by cases z),List.nodup_nil⟩;cases neg
   ·exact wpAny_in_heap hr.nd ik hd dd (by simpa [atKey] using (R.tok _).pb)
   ·exact wpAny_notIn_heap hr.nd ik hd dd (by simpa [atKey] using (R.tok _).pb)
 ·rename_i z ea eb;exact bD4 hr R ra rb ea e
 ·cases e
def gQ {op:CmpOp} {p:Bool×aA} (hr:Room d A) (R:Mem S κ M h s) (ra:RepW S M x u) (rb:RepW S M y v) (e:dC op x y h=some p):p.2=h/\Wp S A (compareOp op u v) (Pw S κ M h (.d (.bool p.1))) E s:=by
 unfold dC at e;split at e
 ·obtain ⟨b,e1,rfl⟩:=map_some e;refine ⟨rfl,?_⟩;unfold xEq at e1;split at e1
  ·rename_i ea eb;obtain ⟨hp,e1⟩:=aE e1;cases e1;rw [Bool.and_eq_true] at hp;obtain ⟨⟨as,z1⟩,q1⟩:=nM R ra ea hp.1;obtain ⟨⟨bs,z2⟩,q2⟩:=nM R rb eb hp.2;exact eq_dataH z1 z2 q1 q2 hr.u64 R.pb
  ·cases e1
 ·obtain ⟨b,e1,rfl⟩:=map_some e;refine ⟨rfl,?_⟩;unfold xEq at e1;split at e1
  ·rename_i ea eb;obtain ⟨hp,e1⟩:=aE e1;cases e1;rw [Bool.and_eq_true] at hp;obtain ⟨⟨as,z1⟩,q1⟩:=nM R ra ea hp.1;obtain ⟨⟨bs,z2⟩,q2⟩:=nM R rb eb hp.2;exact ne_dataH z1 z2 q1 q2 hr.u64 R.pb
  ·cases e1
 ·obtain ⟨b,e1,rfl⟩:=map_some e;unfold xIs at e1;split at e1
  ·obtain ⟨h1,h2⟩:=lZ ra rb e1;exact ⟨rfl,wpAny_is_plain h1 (by rw [h2];exact R.pb)⟩
  ·cases e1;obtain ⟨p,_,rfl⟩:=ra;cases rep_n.mp (show Rep S M.Z .none v from rb);exact ⟨rfl,wpAny_is_plain rfl R.pb⟩
  ·cases e1
 ·obtain ⟨b,e1,rfl⟩:=map_some e;unfold xIs at e1;split at e1
  ·obtain ⟨h1,h2⟩:=lZ ra rb e1;exact ⟨rfl,wpAny_isNot_plain h1 (by rw [h2];exact R.pb)⟩
  ·cases e1;obtain ⟨p,_,rfl⟩:=ra;cases rep_n.mp (show Rep S M.Z .none v from rb);exact ⟨rfl,wpAny_isNot_plain rfl R.pb⟩
  ·cases e1
 ·obtain ⟨b,e1,rfl⟩:=map_some e;exact ⟨rfl,by simpa using aY5 (neg:=false) (A:=A) (E:=E) hr R ra rb e1⟩
 ·obtain ⟨b,e1,rfl⟩:=map_some e;exact ⟨rfl,by simpa using aY5 (neg:=true) (A:=A) (E:=E) hr R ra rb e1⟩
 ·split at e
  ·obtain ⟨f,e1,rfl⟩:=map_some e;obtain ⟨t,rfl⟩:=wi.mp ra;obtain ⟨t',rfl⟩:=wi.mp rb;refine ⟨rfl,?_⟩;cases op<;>cases e1
   ·exact lt_int R.pb
   ·exact le_int R.pb
   ·exact gt_int R.pb
   ·exact ge_int R.pb
  ·cases e
def lA {n:Nat} {i:Int} {j:Nat} (h:ixN n i=some j):seqIndex? i n=some j/\j < n/\-(n:Int)<=i/\i < n:=by
 unfold ixN at h
 by_cases h0:0<=i
 ·rw [if_pos h0] at h;obtain ⟨h1,h⟩:=aE h;cases h;exact ⟨seqIndex_of h0 h1,by omega,by omega,h1⟩
 ·rw [if_neg h0] at h;obtain ⟨h1,h⟩:=aE h;cases h;exact ⟨seqIndex_neg (by omega) h1,by omega,h1,by omega⟩
def pW {α β:Type} {F:α->β->Prop} {l:List α} {r:List β} {i:Int} {a:α} (p:Paired F l r) (e:atI l i=some a):∃ j b,seqIndex? i r.length=some j/\r[j]?=some b/\F a b/\-(r.length:Int)<=i/\i < r.length:=by
 obtain ⟨j,h1,h2⟩:=bind_some e;obtain ⟨b,h3,h4⟩:=jR p h2;rw [p.length] at h1;obtain ⟨q1,_,q3,q4⟩:=lA h1;exact ⟨j,b,q1,h3,h4,q3,q4⟩
def mB:(sizeLine:Nat) < 2^62:=by decide
def aD2 {us:List Value} {n:Nat} {a:Addr} {i:Int} {t:Tok} {j:Nat} {c:Value} {value slice:Expr} {Q:Value->Shared->Prop} (ho:s.heap.get? a=some (aU us n)) (hz:us.length<=sizeLine) (h1:seqIndex? i us.length=some j) (h2:us[j]?=some c) (h3:-(us.length:Int)<=i) (h4:i < us.length)
  (hs:subscripted slice false (.ref a) (.int i t)=operate [.ref a,.int i t] (getItem (.ref a) (.int i t))) (q:Q c s):Wp S A (subscriptTail value slice (.ref a) (.int i t)) Q E s:=by
 have hn:=mB
 by_cases h0:0<=i
 ·have hj:i.toNat=j:=by rw [seqIndex_of h0 h4] at h1;exact Option.some.inj h1
  exact item_listR (bK ho).isList h0 (by omega) (by rw [hj];simpa using h2) q hs
 ·have hj:(i+(us.toArray.size:Int)).toNat=j:=by rw [seqIndex_neg (by omega) h3] at h1;rw [List.size_toArray];exact Option.some.inj h1
  exact subscriptTail_builtinR (x:=c) (bK ho).isList.typeIs slot_list_getitem.lookup
   (wpAny_getItem_list_neg (Q:=fun r s'=>r=c/\Q r s') (bK ho).isList (by omega) (by rw [List.size_toArray]<;>omega) (by omega) (by rw [hj];simpa using h2) ⟨rfl,q⟩) hs
def pX {T id:String} {o i:Value} {value slice:Expr} {Q:Value->Shared->Prop} (hT:s.TypeIs o T) (hl:typeLookup (.type T) "__getitem__"=pure (some (.builtin id))) (hs:subscripted slice false o i=operate [o,i] (getItem o i)) (h:Wp S A (getItem o i) Q E s):Wp S A (subscriptTail value slice o i) Q E s:=by
 unfold subscriptTail;refine wpAny_bind ?_;rw [getitemInPython_of_ne hT.not_modules];refine wpAny_bind (wpAny_specialOf hT hl ?_);have fin:Wp S A (subscripted slice false o i) (fun r s₃=>Wp S A (letTemporaryGo value o r >>= fun _=>pure r) Q E s₃) E s:=by
  rw [hs];exact wpAny_operating (wpAny_mono h (fun r s₃ h₃=>wpAny_bind (wpAny_letTemporaryGo (wpAny_pure h₃))) fun _ _ x=>x)
 first
  | exact wpAny_pure (wpAny_bind fin)
  | exact wpAny_bind (wpAny_pure (wpAny_bind fin))
  | exact wpAny_bind fin
def bP0 {value slice:Expr} (hr:Room d A) (R:Mem S κ M h s) (ra:RepW S M x u) (rb:RepW S M y v) (e:xIx x y h=some (w,h')) (hs:∀ o i,subscripted slice false o i=operate [o,i] (getItem o i)):Wp S A (subscriptTail value slice u v) (Pw S κ M h' w) E s:=by
 unfold xIx at e;cases ea:ref h x with
 | none =>
  rw [ea] at e;cases y with
  | c _=>cases e
  | d y =>
   cases y with
   | int k =>
    replace e:xIr x k h=some (w,h'):=e
    unfold xIr at e;split at e
    ·rename_i i;split at e
     ·rename_i is ei;obtain ⟨z,ez,e⟩:=map_some e;cases e;obtain ⟨t,rfl⟩:=wi.mp rb;obtain ⟨p,ep,rfl⟩:=ra;obtain ⟨us,n,ho,hz,rr⟩:=R.cel i p _ ep ei;obtain ⟨j,c,h1,h2,h3,h4,h5⟩:=pW rr ez;exact aD2 ho hz h1 h2 h4 h5 (hs _ _) (R.pw h3)
     ·cases e
    ·cases e
   | tuple ks =>
    obtain ⟨kvs,e1,e⟩:=bind_some (show (uF x h).bind _=_ from e);obtain ⟨hz,e⟩:=aE e;obtain ⟨q,eq,e⟩:=map_some e;cases e;obtain ⟨i,p,xs,rfl,ep,ei,rfl,dd,rr,hsm,_⟩:=aD0 R ra e1;obtain ⟨hk,a,rfl,ik,_⟩:=pV (h:=h) R rb rfl hz;obtain ⟨c,hc,rc⟩:=aP4 hk rr eq;exact pX dd.typeIs PySem.F.slot_dict_getitem.lookup (hs _ _) (wpAny_getItem_heap hr.nd ik dd hc ((R.tok _).pw rc))
   | _=>cases e
 | some t =>
  rw [ea] at e;cases t with
  | list xs =>
   cases y with
   | c _=>cases e
   | d y =>
    cases y with
    | int i =>
     obtain ⟨z,ez,e⟩:=map_some e;cases e;obtain ⟨t,rfl⟩:=wi.mp rb;obtain ⟨a,us,n,rfl,ho,hz,rr⟩:=cH R ra ea;obtain ⟨j,c,h1,h2,h3,h4,h5⟩:=pW rr ez;exact aD2 ho hz h1 h2 h4 h5 (hs _ _) (R.pw h3)
    | _=>cases e
  | tuple xs =>
   cases y with
   | c _=>cases e
   | d y =>
    cases y with
    | int i =>
     obtain ⟨z,ez,e⟩:=map_some e;cases e;obtain ⟨t,rfl⟩:=wi.mp rb;obtain ⟨a,us,n,rfl,ho,hz,rr⟩:=dY R ra ea;obtain ⟨j,c,h1,h2,h3,h4,h5⟩:=pW rr ez;have pl:=eY (R.z _ _ ho);have hn:=mB;exact subscriptTail_builtinR (x:=c) pl.typeIs slot_tuple_getitem.lookup (getItem_tuple (j:=j) (Q:=fun r s'=>r=c/\Pw S κ M h (.d z) r s') pl (by omega) (by omega) (by rw [List.size_toArray];exact h1) (by simpa using h2) ⟨rfl,R.pw h3⟩) (hs _ _)
    | _=>cases e
  | dict kvs =>
   cases y with
   | c _=>cases e
   | d z =>
    dsimp only at e;cases ek:cP z with
    | none=>rw [ek] at e;cases e
    | some k =>
     rw [ek] at e;obtain ⟨p,ep,e⟩:=map_some e;cases e;obtain ⟨a,vs,rfl,dd,rk,hd,_⟩:=wQ R ra (aP3 ep) ea;obtain ⟨c,hc,rc⟩:=(oH k rk).1 p ep;exact pX dd.typeIs PySem.F.slot_dict_getitem.lookup (hs _ _) (wpAny_getItem_of (uK ek rb) dd.mapOf hc ((R.tok _).pw rc))
  | _=>cases e
end
end DL

namespace DL
open PySem PySem.Spec PyProof.Rows L2 CI
section
variable {S:Sx} {κ:Kp} {M:Mp} {h h':aA} {s:Shared} {A:Around} {E:Value->Shared->Prop} {x y w:W} {u v:Value} {d:Nat} {b:Bool} {ws:List W} {us:List Value}
def aD3 {α:Type} (xs:List α) (lo hi:Option Int):((xs.drop (HT.sIx xs.length 0 lo)).take (HT.sIx xs.length xs.length hi - HT.sIx xs.length 0 lo)).length<=xs.length:=by rw [List.length_take,List.length_drop];omega
def pY (lo hi:Option Int) (n:Nat):(sliceBounds lo hi none n).1=((HT.sIx n 0 lo:Nat):Int)/\(sliceBounds lo hi none n).2.1=((HT.sIx n n hi:Nat):Int)/\(sliceBounds lo hi none n).2.2=1:=by
 refine ⟨?_,?_,rfl⟩
 ·cases lo with
  | none=>simp [sliceBounds,HT.sIx]
  | some i =>
   simp only [sliceBounds,HT.sIx,Option.getD_none,show (1:Int) > 0 by decide,if_true]
   by_cases h:i < 0
   ·simp only [h,if_true]<;>omega
   ·simp only [h,if_false]<;>omega
 ·cases hi with
  | none=>simp [sliceBounds,HT.sIx]
  | some i =>
   simp only [sliceBounds,HT.sIx,Option.getD_none,show (1:Int) > 0 by decide,if_true]
   by_cases h:i < 0
   ·simp only [h,if_true]<;>omega
   ·simp only [h,if_false]<;>omega
def nO (its:List Value) (lo hi:Option Int):slicePick its.toArray lo hi none=((its.drop (HT.sIx its.length 0 lo)).take (HT.sIx its.length its.length hi - HT.sIx its.length 0 lo)).toArray:=by
 obtain ⟨h1,h2,h3⟩:=pY lo hi its.toArray.size;unfold slicePick;rw [h1,h2,h3];simp only [sliceRange_one,pick_run,List.size_toArray]<;>rfl
def yV {prog:Program} {w:World} {A:Around} {E:Value->Shared->Prop} {s:Shared} {t sl:Addr} {items:Array Value} {vl vu:Value} {lo hi:Option Int} {Q:Value->Shared->Prop} (ht:IsTup s.heap t items) (hs:s.heap.IsSliceOf sl vl vu .none) (pl:IsPart vl lo) (pu:IsPart vu hi)
  (hw:HT.sIx items.size 0 lo=0/\HT.sIx items.size items.size hi=items.size) (h:Q (.ref t) s):wpAny (model prog w) A (getItem (.ref t) (.ref sl)) Q E s:=by
 obtain ⟨os,hos,hcs,hds⟩:=id hs;have hTs:s.TypeIs (.ref sl) "slice":=⟨os,hos,hcs⟩;unfold getItem;try with_reducible refine wpAny_holding ?_
 first | refine wpAny_bind (wpAny_pure ?_) | skip
 refine wpAny_bind (wpAny_sequenceKey ht.typeIs (by decide) ?_);refine wpAny_bind (wpAny_callSpecial?_slot (name:=Str.ofString "__getitem__") ht.typeIs PyProof.Rows.slot_tuple_getitem
  (wpAny_call_entry PyProof.Rows.slot_tuple_getitem ht.typeIs entry_tuple_getitem ?_ (args_tuple_getitem _ _)))
 show wpAny _ _ (Builtin.Tuple.tupleItemsOf (.ref t) >>= _) _ _ s;refine wpAny_bind (tupleItemsOf_ ht (wpAny_bind (wpAny_typeOf hTs ?_)));rw [if_pos (by decide)];refine wpAny_bind (HT.sliceApplied_gen hs pl pu ?_);have hy:(((HT.sIx items.size 0 lo:Nat):Int)==0&&(1:Int)==1&&(HT.sIx items.size items.size hi - HT.sIx items.size 0 lo)==items.size)=true:=by
  rw [hw.1,hw.2];simp
 show wpAny _ _ (if (((HT.sIx items.size 0 lo:Nat):Int)==0&&(1:Int)==1&&(HT.sIx items.size items.size hi - HT.sIx items.size 0 lo)==items.size)=true then _ else _) _ _ s;rw [if_pos hy];refine wpAny_bind (wpAny_bind (wpAny_typeOf ht.typeIs (wpAny_pure ?_)));rw [if_pos (by decide)];exact wpAny_bind (wpAny_rule (wpAny_pure ⟨_,rfl,wpAny_pure h⟩))
def sl_l {xs:List PyData} {vl vu:Value} {lo hi:Option Int} {sl:Addr} (R:Mem S κ M h s) (ra:RepW S M x u) (e:ref h x=some (.list xs)) (hs:s.heap.IsSliceOf sl vl vu .none) (pl:IsPart vl lo) (pu:IsPart vu hi):s.TypeIs u "list"/\Wp S A (getItem u (.ref sl)) (Pf S κ M h (cut xs lo hi)) E s:=by
 obtain ⟨a,us,n,rfl,ho,hz,rr⟩:=cH R ra e;refine ⟨(bK ho).isList.typeIs,wpAny_getItem_list_slice (bK ho).isList hs pl pu .none (by simp) ?_ (by rw [List.size_toArray]<;>omega)⟩;rw [nO];unfold cut;rw [rr.length];exact R.lstP (t:=s.toks) (n:=0) (aB5 _ (aB6 _ rr)) (Nat.le_trans (aD3 us lo hi) hz)
def sl_t {xs:List PyData} {vl vu:Value} {lo hi:Option Int} {sl:Addr} (R:Mem S κ M h s) (ra:RepW S M (.d (.tuple xs)) u) (hs:s.heap.IsSliceOf sl vl vu .none) (pl:IsPart vl lo) (pu:IsPart vu hi):s.TypeIs u "tuple"/\Wp S A (getItem u (.ref sl)) (Pw S κ M h (.d (.tuple (cut xs lo hi)))) E s:=by
 obtain ⟨a,us,n,rfl,ho,hz,rr⟩:=dY (h:=h) R ra rfl;have ht:=eY (R.z _ _ ho);have hl:=rr.length;have hlen:us.toArray.size=us.length:=List.size_toArray;refine ⟨ht.typeIs,?_⟩
 by_cases hw:HT.sIx us.length 0 lo=0/\HT.sIx us.length us.length hi=us.length
 ·refine yV ht hs pl pu (by rw [hlen];exact hw) ?_;have ec:cut xs lo hi=xs:=by
   unfold cut;rw [hl,hw.1,hw.2,List.drop_zero,Nat.sub_zero,<- hl,List.take_length]
  rw [ec];exact R.pw ra
 ·refine HT.getItem_tuple_cut ht hs pl pu (by rw [hlen];exact hw) ?_ (by rw [hlen];exact hz);rw [hlen];unfold cut;rw [hl];exact R.tup (t:=s.toks) (aB5 _ (aB6 _ rr)) (Nat.le_trans (aD3 us lo hi) hz)
def w1 (r:RepWs S M [x] us):∃ u,us=[u]/\RepW S M x u:=by cases r with | cons a b=>cases b;exact ⟨_,rfl,a⟩
def w2 (r:RepWs S M [x,y] us):∃ u v,us=[u,v]/\RepW S M x u/\RepW S M y v:=by cases r with | cons a b=>obtain ⟨v,rfl,c⟩:=w1 b;exact ⟨_,v,rfl,a,c⟩
def BfS (S:Sx) (f:Value) (g:List W->aA->Option (W×aA)):Prop:=∀ {κ:Kp} {M:Mp} {h h':aA} {s:Shared} {A:Around} {E:Value->Shared->Prop} {ws:List W} {us:List Value} {w:W} {d:Nat},Room d A->S.K.In S.base->(s.heap.objs.size==sysModules)=false->Mem S κ M h s->RepWs S M ws us->g ws h=some (w,h')->Wp S A (call f us) (Pw S κ M h' w) E s
def bD5 {d:Addr} {xs:List (HK×Addr×Value)} {Q:Value->Shared->Prop} (hd:(d==sysModules)=false) (hm:NdO S s.heap d xs) (hfit:(xs.length:Int) < 2^63)
  (h:Q (.int xs.length (s.toks+1)) { s with toks:=s.toks+1+1 }):Wp S A (call (.builtin "len") [.ref d]) Q E s:=by
 obtain ⟨o,es,ep,ho,hc,hdat,he,hn⟩:=hm;have hT:s.TypeIs (.ref d) "dict":=⟨o,ho,hc.1⟩;have hes:es.size=xs.length:=size_of_entries he;refine Calls.call_function_entry kind_len plain_len entry_len (args_len1 _) ?_;have M:MeetsIn S.P S.w (Builtin.«dict.__len__» ⟨[.ref d],[]⟩) (fun _ R s=>∃ o es ep,s.heap.get? d=some o/\o.data=.dict es ep/\R (.ok (.ret (.int es.size s.toks))) { s with toks:=s.toks+1 }):=.of_wp fun A R s ⟨o,es,ep,ho,hdat,h⟩=>by
  show wpAny _ _ (dictSize d >>= _) _ _ s;unfold dictSize;refine wpAny_bind (wpAny_bind (wpAny_dictEntries ho hdat (wpAny_pure ?_)));show wpAny _ _ (Builtin.Dict.pendingCount d >>= _) _ _ s;refine wpAny_bind (wpAny_pendingCount_other hd ?_);refine wpAny_ret_mkInt ?_;rw [Nat.add_zero];exact h
 refine wpAny_bind (m:=oneArg "len" _) (wpAny_pure ?_);refine wpAny_bind (m:=callSpecial? (.ref d) (Str.ofString "__len__")) (wpAny_callSpecial?_slot (name:=Str.ofString "__len__") hT F.slot_dict_len
  (call_meetsIn F.slot_dict_len hT F.entry_dict_len (F.args_dict_len_1 _) M ⟨o,es,ep,ho,hdat,?_⟩))
 show wpAny _ _ _ _ _ { s with toks:=s.toks+1 };rw [hes];refine wpAny_bind (wpAny_holding (wpAny_pure ?_));refine wpAny_bind (wpAny_letGo ?_);show wpAny _ _ (if ((xs.length:Nat):Int) < 0 then _ else _) _ _ _;rw [if_neg (by omega)];show wpAny _ _ (if ((xs.length:Nat):Int) ≥ 2^63 then _ else _) _ _ _;rw [if_neg (by omega)];exact wpAny_bind (wpAny_mkInt (wpAny_pure ⟨_,rfl,h⟩))
def bP1:BfS S (.builtin "len") aY:=by
 intro κ M h h' s A E ws us w d hr hK hsm R r e;have hn:=mB;unfold aY at e;split at e
 ·obtain ⟨u,rfl,ra⟩:=w1 r;split at e
  ·rename_i ea;cases e;obtain ⟨a,vs,n,rfl,ho,hz,rr⟩:=cH R ra ea;refine Calls.call_len_list (bK ho).isList (by simp only [List.size_toArray]<;>omega) ?_;rw [List.size_toArray,rr.length];exact R.pi
  ·rename_i ea;cases e;obtain ⟨a,vs,n,rfl,ho,hz,rr⟩:=dY R ra ea;refine len_tuple (eY (R.z _ _ ho)) (by simp only [List.size_toArray]<;>omega) ?_;rw [List.size_toArray,rr.length];exact R.pi
  ·rename_i ea;obtain ⟨k,ek,e⟩:=map_some e;cases e;rename_i x;unfold bB8 at ek;split at ek
   ·rename_i j;obtain ⟨p,ep,rfl⟩:=ra;split at ek
    ·rename_i is ei;cases ek;obtain ⟨vs,n,ho,hz,rr⟩:=R.cel j p _ ep ei;have hl:=rr.length;refine Calls.call_len_list (bK ho).isList (by simp only [List.size_toArray]<;>omega) ?_;rw [List.size_toArray,<- hl];exact R.pi
    ·rename_i kvs ei;cases ek;obtain ⟨xs,nd,rr,hs,hz⟩:=R.cel j p _ ep ei;have hl:=rr.length;exact bD5 hs nd (by omega) (by rw [<- hl];exact (R.tok _).pi)
    ·cases ek
   ·cases ek
  ·cases e
 ·cases e
def aP5:BfS S (.type "tuple") aZ:=by
 intro κ M h h' s A E ws us w d hr hK hsm R r e;unfold aZ at e;split at e
 ·obtain ⟨u,rfl,ra⟩:=w1 r;split at e
  ·rename_i ea;cases e;obtain ⟨a,vs,n,rfl,ho,hz,rr⟩:=cH R ra ea;refine call_tuple_list (bK ho).isList (fun h2 kp=>?_) (by simp only [List.size_toArray]<;>omega);exact (R.kept (t:=s.toks) kp).tup (t:=s.toks) rr hz
  ·rename_i ea;cases e;obtain ⟨a,vs,n,rfl,ho,hz,rr⟩:=dY R ra ea;exact call_tuple_same (eY (R.z _ _ ho)) (R.pw (rep_t.mpr ⟨a,_,vs,rfl,ho,⟨⟨n,rfl⟩,hz⟩,rr⟩))
  ·cases e
 ·cases e
theorem jX {Z:Zm}:∀ {xs:List PyData} {bs:List Bool} {us:List Value},cZ xs=some bs->Paired (Rep S Z) xs us->us=bs.map .bool
 | [],_,_,e,h=>by cases e;cases h;rfl
 | x::r,bs,us,e,h=>by
  cases h with
  | cons a t =>
   cases x with
   | bool b =>
    unfold cZ at e;obtain ⟨cs,q,rfl⟩:=map_some e;rw [rep_b.mp a,jX q t];rfl
   | _=>cases e
def yW {f:Nat->Bool} (bs:List Bool) (h:∀ i b,bs[i]?=some b->f i=b):(List.range bs.length).all f=bs.all id:=by
 rw [Bool.eq_iff_iff,List.all_eq_true,List.all_eq_true];constructor
 ·intro z b hb;obtain ⟨i,hi,e⟩:=List.mem_iff_getElem.mp hb;have:=z i (by simpa using hi);rw [h i b (by simp [hi,e])] at this;exact this
 ·intro z i hi;have hi':i < bs.length:=by simpa using hi
  rw [h i bs[i] (by simp [hi'])];exact z _ (List.getElem_mem hi')
def bP2:BfS S (.builtin "all") iL:=by
 intro κ M h h' s A E ws us w d hr hK hsm R r e;unfold iL at e;split at e
 ·obtain ⟨u,rfl,ra⟩:=w1 r;split at e
  ·rename_i ea;obtain ⟨bs,eb,e⟩:=map_some e;cases e;obtain ⟨p,vs,n,rfl,ho,hz,rr⟩:=cH R ra ea;have ev:=jX eb rr;subst ev;have pl:=(bK ho).isList;refine call_all_walk (wpAny_pyIter_list pl ?_);refine ⟨s.heap.objs.size,_,_,(bs.map Value.bool).toArray.size,_,_,fun i=>(bs[i]?).getD true,rfl,Walks.list (A:=A.in1) hr.hd s.heap.objs.size p (Nat.ne_of_lt (Heap.lt_size ho)) (bs.map Value.bool).toArray,⟨⟨_,Heap.get?_push_size _ rfl,rfl,rfl⟩,?_⟩,fun i v s' Q' E' hP hQ=>?_,fun h2 tk hk=>?_⟩
   ·obtain ⟨o,ho,r⟩:=pl;exact ⟨o,Heap.get?_push_of_some _ ho,r⟩
   ·have hP':(bs.map Value.bool)[i]?=some v:=by simpa using hP
    rw [List.getElem?_map] at hP';obtain ⟨b,eb,rfl⟩:=map_some hP';dsimp only at hQ;rw [eb] at hQ;exact wpAny_truthy_bool hQ
   ·have e:(List.range (bs.map Value.bool).toArray.size).all (fun i=>(bs[i]?).getD true)=bs.all id:=by
     have:=yW (f:=fun i=>(bs[i]?).getD true) bs (fun i b e=>by simp [e]);rw [List.size_toArray,List.length_map];exact this
    rw [e];refine (R.kept fun b o eo=>hk b o ?_ (Heap.get?_push_of_some _ eo)).pb;intro z;rw [List.mem_singleton.mp z] at eo;exact absurd (Heap.lt_size eo) (Nat.lt_irrefl _)
  ·cases e
 ·cases e
def yX {f:Nat->Bool} (bs:List Bool) (h:∀ i b,bs[i]?=some b->f i=b):(List.range bs.length).any f=bs.any id:=by
 rw [Bool.eq_iff_iff,List.any_eq_true,List.any_eq_true];constructor
 ·rintro ⟨i,hi,z⟩;have hi':i < bs.length:=by simpa using hi
  rw [h i bs[i] (by simp [hi'])] at z;exact ⟨_,List.getElem_mem hi',z⟩
 ·rintro ⟨b,hb,z⟩;obtain ⟨i,hi,e⟩:=List.mem_iff_getElem.mp hb;exact ⟨i,by simpa using hi,by rw [h i b (by simp [hi,e])];exact z⟩
def bP3:BfS S (.builtin "any") rQ:=by
 intro κ M h h' s A E ws us w d hr hK hsm R r e;unfold rQ at e;split at e
 ·obtain ⟨u,rfl,ra⟩:=w1 r;split at e
  ·rename_i ea;obtain ⟨bs,eb,e⟩:=map_some e;cases e;obtain ⟨p,vs,n,rfl,ho,hz,rr⟩:=cH R ra ea;have ev:=jX eb rr;subst ev;have pl:=(bK ho).isList;refine call_any_walk (wpAny_pyIter_list pl ?_);refine ⟨s.heap.objs.size,_,_,(bs.map Value.bool).toArray.size,_,_,fun i=>(bs[i]?).getD false,rfl,Walks.list (A:=A.in1) hr.hd s.heap.objs.size p (Nat.ne_of_lt (Heap.lt_size ho)) (bs.map Value.bool).toArray,⟨⟨_,Heap.get?_push_size _ rfl,rfl,rfl⟩,?_⟩,fun i v s' Q' E' hP hQ=>?_,fun h2 tk hk=>?_⟩
   ·obtain ⟨o,ho,r⟩:=pl;exact ⟨o,Heap.get?_push_of_some _ ho,r⟩
   ·have hP':(bs.map Value.bool)[i]?=some v:=by simpa using hP
    rw [List.getElem?_map] at hP';obtain ⟨b,eb,rfl⟩:=map_some hP';dsimp only at hQ;rw [eb] at hQ;exact wpAny_truthy_bool hQ
   ·have e:(List.range (bs.map Value.bool).toArray.size).any (fun i=>(bs[i]?).getD false)=bs.any id:=by
     have:=yX (f:=fun i=>(bs[i]?).getD false) bs (fun i b e=>by simp [e]);rw [List.size_toArray,List.length_map];exact this
    rw [e];refine (R.kept fun b o eo=>hk b o ?_ (Heap.get?_push_of_some _ eo)).pb;intro z;rw [List.mem_singleton.mp z] at eo;exact absurd (Heap.lt_size eo) (Nat.lt_irrefl _)
  ·cases e
 ·cases e
def bP4:BfS S (.type "int") aC0:=by
 intro κ M h h' s A E ws us w d hr hK hsm R r e;unfold aC0 at e;split at e
 ·cases e;obtain ⟨u,rfl,ra⟩:=w1 r;cases wb.mp ra;exact call_int_bool R.pi
 ·cases e
def aD4 {xs:List PyData} (R:Mem S κ M h s) (ra:RepW S M x u) (e:ref h x=some (.list xs)\/ref h x=some (.tuple xs)):Wp S A (call (.type "list") [u]) (Pf S κ M h xs) E s:=by
 rcases e with e | e
 ·obtain ⟨a,vs,n,rfl,ho,hz,rr⟩:=cH R ra e;exact call_list_seq a (.inl rfl) ho rfl rfl (fun h2 c kp e=>R.lst (t:=s.toks) kp e rr hz) (by simp only [List.size_toArray]<;>omega)
 ·obtain ⟨a,vs,n,rfl,ho,hz,rr⟩:=dY R ra e;exact call_list_seq a (.inr rfl) (R.z _ _ ho) rfl rfl (fun h2 c kp e=>R.lst (t:=s.toks) kp e rr hz) (by simp only [List.size_toArray]<;>omega)
def mD (T:String):Prop:=∀ (K:PySem.W.Frag) (d:PyData),PySem.W.kitOne K (.type (fJ d)) (.type T)=some (isi d T)
def aP6:mD "int":=fun K d=>by cases d<;>kernel_rfl
def aD5:mD "bool":=fun K d=>by cases d<;>kernel_rfl
def aP7:mD "str":=fun K d=>by cases d<;>kernel_rfl
def yY:mD "tuple":=fun K d=>by cases d<;>kernel_rfl
def aD6:mD "list":=fun K d=>by cases d<;>kernel_rfl
def pZ {z:PyData} (e:ref h x=some z) (n:(fJ z=="list"||fJ z=="dict")=false):x=.d z:=by
 cases x with
 | d y=>cases e;rfl
 | c i =>
  dsimp only [DL.ref] at e;cases q:h[i]? with
  | none=>rw [q] at e;cases e
  | some c=>cases c<;>(rw [q] at e;cases e)<;>cases n
def aY6 {z:PyData} (R:Mem S κ M h s) (r:RepW S M x u) (e:ref h x=some z) (hn:noD z=true):∃ H,PySem.W.KitX S.K u (.type (fJ z)) H/\H s.heap/\u≠.builtin "__main__.__loader__#opaque":=by
 cases z with
 | none=>cases pZ e rfl;cases wn.mp r;exact ⟨_,PySem.W.kitx_none,True.intro,fun z=>nomatch z⟩
 | bool b=>cases pZ e rfl;cases wb.mp r;exact ⟨_,PySem.W.kitx_bool,True.intro,fun z=>nomatch z⟩
 | int i=>cases pZ e rfl;obtain ⟨t,rfl⟩:=wi.mp r;exact ⟨_,PySem.W.kitx_int,True.intro,fun z=>nomatch z⟩
 | str i=>cases pZ e rfl;obtain ⟨⟨t,rfl⟩,_⟩:=rep_s.mp (show Rep S M.Z _ _ from r);exact ⟨_,PySem.W.kitx_str,True.intro,fun z=>nomatch z⟩
 | list xs=>obtain ⟨a,us,n,rfl,ho,_⟩:=cH R r e;exact ⟨_,PySem.W.kitx_list,⟨_,ho,rfl⟩,fun z=>nomatch z⟩
 | tuple xs=>obtain ⟨a,us,n,rfl,ho,_⟩:=dY R r e;exact ⟨_,PySem.W.kitx_tuple,⟨_,R.z _ _ ho,rfl⟩,fun z=>nomatch z⟩
 | dict xs=>obtain ⟨a,vs,rfl,⟨o,_,_,ho,ex,_⟩,_⟩:=wQ R r (by simpa [noD] using hn) e;exact ⟨_,PySem.W.kitx_dict,⟨o,ho,ex.1⟩,fun z=>nomatch z⟩
def bD6 {z:PyData} {T:String} (hK:S.K.In S.base) (hk:mD T) (R:Mem S κ M h s) (r:RepW S M x u) (e:ref h x=some z) (hn:noD z=true):Wp S A (call (.builtin "isinstance") [u,.type T]) (Pw S κ M h (.d (.bool (isi z T)))) E s:=by
 obtain ⟨H,kx,p,n⟩:=aY6 R r e hn;exact PySem.W.kia_one kx (hK.keeps R.bk) p (hk S.K z) n fun tk=>(R.tok tk).pb
end
end DL

namespace DL
open PySem PySem.Spec PyProof.Rows L2 CI
abbrev NE:Value->Shared->Prop:=fun _ _=>False
structure Mod (S:Sx):Prop where
 kin:S.K.In S.base
 glob:S.base.Ns mainGlobals S.mg
 blt:∃ mb,S.base.Ns builtinsNs mb/\∀ x:Str,x≠"__name__"->mb x=bootBuiltins x
 nolimit:S.base.NoLimit
structure Cx where
 S:Sx
 A:Around
 N:List Str
 env:Env
 fn:Bool
def Vis (sc:Scope) (x:Str):Prop:=sc.names.lookup x=some .local\/sc.names.lookup x=some .cell\/sc.names.lookup x=some .free
def Loc (sc:Scope) (x:Str):Prop:=sc.names.lookup x=some .local\/sc.names.lookup x=some .cell
structure Cx.Ok (X:Cx):Prop where
 mod:Mod X.S
 kind:X.env.scope.kind=.function
 glob:X.env.globals=mainGlobals
 blt:X.env.builtins=builtinsNs
 inj:∀ x y c,X.env.cells.lookup x=some c->X.env.cells.lookup y=some c->x=y
 has:∀ x,(X.env.kindOf x=some .cell\/X.env.kindOf x=some .free)->∃ c,X.env.cells.lookup x=some c
 bsz:X.S.base.objs.size<=X.env.locals
 nd:X.N.Nodup
def aD7 (o:Obj) (m:Str->Option Value):Prop:=∃ es ep,o.data=.dict es ep/\StrKeys es/\∀ name,nsFind es name=m name
def bP5 (env:Env) (κ:Kp) (m:Str->Option Value) (x:Str) (u:Value):Prop :=
 (env.kindOf x=some .local/\m x=some u)\/((env.kindOf x=some .cell\/env.kindOf x=some .free)/\∃ c o,env.cells.lookup x=some c/\κ c=some (true,o)/\o.data=.cell (some u))
def FrO (κ:Kp) (A:Around):Prop:=∃ l,A.frames=some l/\∀ env∈l,env.scope.kind≠.module/\∃ L o,env.frame=some L/\κ L=some (false,o)/\∀ vs,o.data≠.fields vs
def FrO.kp {κ κ':Kp} {A:Around} (F:FrO κ A) (k:∀ a,(∃ l env,A.frames=some l/\env∈l/\env.frame=some a)->κ' a=κ a):FrO κ' A :=
 let ⟨l,e,f⟩:=F;⟨l,e,fun env he=>let ⟨h1,L,o,h2,h3,h4⟩:=f env he;⟨h1,L,o,h2,by rw [k L ⟨l,env,e,he,h2⟩];exact h3,h4⟩⟩
def FrO.up {κ:Kp} {A:Around} {a:Addr} {o:Obj} (F:FrO κ A) (ho:∀ vs,o.data≠.fields vs):FrO (fun b=>if b=a then some (false,o) else κ b) A :=
 let ⟨l,e,f⟩:=F;⟨l,e,fun env he=>let ⟨h1,L,o',h2,h3,h4⟩:=f env he;⟨h1,L,if L=a then o else o',h2,by dsimp only;split<;>first | rfl | exact h3,by split<;>assumption⟩⟩
def bP6 (X:Cx) (a:Addr):Prop:=a=X.env.locals\/(∃ x,X.env.cells.lookup x=some a)\/∃ l env,X.A.frames=some l/\env∈l/\env.frame=some a
structure Fra (X:Cx) (κ:Kp) (M:Mp) (δ:DSt):Prop where
 ok:X.Ok
 len:δ.length=X.N.length
 loc:∃ o m,κ X.env.locals=some (false,o)/\aD7 o m/\∀ (i:Nat) x w,X.N[i]?=some x->δ[i]?=some (some w)->Vis X.env.scope x->∃ u,RepW X.S M w u/\bP5 X.env κ m x u
 cell:∀ x c,X.env.cells.lookup x=some c->∃ o v,κ c=some (true,o)/\o.data=.cell v
 frs:FrO κ X.A
def Own (X:Cx) (κ κ':Kp):Prop:=∀ a,κ' a≠κ a->a=X.env.locals\/(X.fn=true/\∃ x,X.env.cells.lookup x=some a)
def Own.refl {X:Cx} {κ:Kp}:Own X κ κ:=fun _ h=>(h rfl).elim
def Own.trans {X:Cx} {κ κ' κ2:Kp} (a:Own X κ κ') (b:Own X κ' κ2):Own X κ κ2:=fun c h=>by
 by_cases e:κ' c=κ c
 ·exact b c (by rw [e];exact h)
 ·exact a c e
section
variable {X:Cx} {κ:Kp} {M M':Mp} {δ:DSt} {h h':aA} {s:Shared} {A:Around} {E:Value->Shared->Prop} {w:W} {u:Value} {d:Nat} {x:Str} {pos:Pos}
def Fra.go (F:Fra X κ M δ) (l:Le M M'):Fra X κ M' δ :=
 ⟨F.ok,F.len,let ⟨o,m,h1,h2,h3⟩:=F.loc;⟨o,m,h1,h2,fun i x w a b c=>let ⟨u,r,q⟩:=h3 i x w a b c;⟨u,r.go l,q⟩⟩,F.cell,F.frs⟩
def Fra.ns (F:Fra X κ M δ) (R:Mem X.S κ M h s):∃ m,s.heap.Ns X.env.locals m/\∀ (i:Nat) x w,X.N[i]?=some x->δ[i]?=some (some w)->Vis X.env.scope x->∃ u,RepW X.S M w u/\bP5 X.env κ m x u:=by
 obtain ⟨o,m,h1,⟨es,ep,h2,h3,h4⟩,h5⟩:=F.loc;obtain ⟨_,⟨sl,e⟩,_⟩:=R.k _ _ _ h1;exact ⟨m,⟨_,es,ep,e,h2,h3,h4⟩,h5⟩
def Fra.size (F:Fra X κ M δ) (R:Mem X.S κ M h s):X.S.base.objs.size<=s.heap.objs.size:=by
 obtain ⟨m,hn,_⟩:=F.ns R;exact Nat.le_trans F.ok.bsz (Nat.le_of_lt hn.lt)
def bP7 {i:Nat} (F:Fra X κ M δ) (R:Mem X.S κ M h s) (hi:X.N[i]?=some x) (e:δ[i]?=some (some w)) (hv:Vis X.env.scope x) (hn:dN x=true):Wp X.S X.A (eval (.Name x pos) X.env) (Pw X.S κ M h w) E s:=by
 unfold dN at hn;simp only [Bool.and_eq_true,Bool.not_eq_true'] at hn;obtain ⟨m,hns,hl⟩:=F.ns R;obtain ⟨u,r,l⟩:=hl i x w hi e hv;rcases l with ⟨hk,hm⟩ | ⟨hk,c,o,hc,ho,hd⟩
 ·exact wpAny_Name (wpAny_loadName_local F.ok.kind hk hns hm (R.pw r)) hn.1
 ·have hcell:s.heap.IsCell c (some u):=⟨o,(R.k _ _ _ ho).1 rfl,hd⟩;rcases hk with hk | hk
  ·exact wpAny_Name (wpAny_loadName_cell F.ok.kind hk hc hcell (R.pw r)) hn.1
  ·exact wpAny_Name (wpAny_loadName_free F.ok.kind hk hc hcell (R.pw r) hn.2.1) hn.1
def Gl (X:Cx) (x:Str):Prop:=X.env.kindOf x=some .globalImplicit
def jE {Q:Value->Shared->Prop} (F:Fra X κ M δ) (R:Mem X.S κ M h s) (hg:Gl X x) (hm:X.S.mg x=some u) (hn:dN x=true) (q:Q u s):Wp X.S X.A (eval (.Name x pos) X.env) Q E s:=by
 unfold dN at hn;simp only [Bool.and_eq_true,Bool.not_eq_true'] at hn;exact Calls.Name_function_global F.ok.kind hg (Calls.loadGlobal_global (by rw [F.ok.glob];exact F.ok.mod.glob.keeps R.bk) hm q) hn.1
def cM {Q:Value->Shared->Prop} (F:Fra X κ M δ) (R:Mem X.S κ M h s) (hg:Gl X x) (hm:X.S.mg x=none) (hv:bootBuiltins x=some u) (hn:dN x=true) (q:Q u s):Wp X.S X.A (eval (.Name x pos) X.env) Q E s:=by
 unfold dN at hn;simp only [Bool.and_eq_true,Bool.not_eq_true'] at hn;obtain ⟨mb,h1,h2⟩:=F.ok.mod.blt;exact Calls.Name_function_global F.ok.kind hg (Calls.loadGlobal_builtin (by rw [F.ok.glob];exact F.ok.mod.glob.keeps R.bk) hm (by rw [F.ok.blt];exact h1.keeps R.bk) ((h2 x (fun z=>by rw [z] at hn;exact absurd hn.2.2 (by decide))).trans hv) q) hn.1
def rZ {N:List Str} (hN:N.Nodup) {i j:Nat} {x:Str} (a:N[i]?=some x) (b:N[j]?=some x):i=j:=by
 obtain ⟨h1,e1⟩:=List.getElem?_eq_some_iff.mp a;obtain ⟨h2,e2⟩:=List.getElem?_eq_some_iff.mp b;exact (List.getElem_inj hN).mp (e1.trans e2.symm)
def aD8 {i:Nat} {Md:Model} {Q:Unit->Shared->Prop} (F:Fra X κ M δ) (R:Mem X.S κ M h s) (hi:X.N[i]?=some x) (hx:Loc X.env.scope x) (hf:X.fn=true\/X.env.scope.names.lookup x=some .local) (r:RepW X.S M w u)
  (q:∀ s' κ',Own X κ κ'->Mem X.S κ' M h s'->Fra X κ' M (δ.set i (some w))->(∃ a,Heap.SameBut a s.heap s'.heap/\κ a≠none)->Q () s'):wpAny Md A (storeName X.env x u) Q E s:=by
 have hiδ:i < δ.length:=by rw [F.len];exact (List.getElem?_eq_some_iff.mp hi).1
 have hcls:(X.env.scope.kind==.class||(X.env.scope.kind==.module&&X.env.locals != X.env.globals))=false:=by rw [F.ok.kind];rfl
 obtain ⟨o,m,h1,⟨es,ep,h2,h3,h4⟩,h5⟩:=F.loc;obtain ⟨_,⟨sl,e⟩,_⟩:=R.k _ _ _ h1;have hn:s.heap.Ns X.env.locals m:=⟨_,es,ep,e,h2,h3,h4⟩;rcases hx with hk | hk
 ·refine wpAny_storeName_local hk hn (fun h' hn' hs=>?_) hcls;obtain ⟨o',es',ep',ho',hd',hk',hm'⟩:=hn';refine q _ (κ.up X.env.locals (false,o')) (fun a ha=>?_) (R.own h1 (fun b ob hb q=>(hs.2 b hb).trans q) ho' R.bare rfl) ⟨F.ok,by rw [List.length_set];exact F.len,⟨o',_,eK,⟨es',ep',hd',hk',hm'⟩,fun j y w' e1 e2 e3=>?_⟩,fun y c ec=>?_,F.frs.up fun vs z=>by rw [hd'] at z;cases z⟩ ⟨_,hs,by rw [h1];exact fun z=>nomatch z⟩
  ·by_cases z:a=X.env.locals
   ·exact .inl z
   ·exact (ha (bJ z)).elim
  ·by_cases hj:j=i
   ·subst hj;rw [hi] at e1;cases e1;rw [List.getElem?_set_self hiδ] at e2;cases e2;exact ⟨u,r,.inl ⟨hk,by simp⟩⟩
   ·rw [List.getElem?_set_ne (Ne.symm hj)] at e2;obtain ⟨u',r',l⟩:=h5 j y w' e1 e2 e3;refine ⟨u',r',?_⟩;rcases l with ⟨k,e⟩ | ⟨k,c,oc,ec,eo,ed⟩
    ·have:y≠x:=fun e=>hj (rZ F.ok.nd e1 (e ▸ hi));exact .inl ⟨k,by simp [this,e]⟩
    ·exact .inr ⟨k,c,oc,ec,by rw [bJ fun z=>by rw [z,h1] at eo;cases eo];exact eo,ed⟩
  ·obtain ⟨oc,v,h6,h7⟩:=F.cell y c ec;exact ⟨oc,v,by rw [bJ fun z=>by rw [z,h1] at h6;cases h6];exact h6,h7⟩
 ·have hfn:X.fn=true:=by
   rcases hf with z | z
   ·exact z
   ·rw [z] at hk;cases hk
  obtain ⟨c,hc⟩:=F.ok.has x (.inl hk);obtain ⟨oc,v,h6,h7⟩:=F.cell x c hc;refine wpAny_storeName_cell F.ok.kind hk hc ⟨oc,(R.k _ _ _ h6).1 rfl,h7⟩ (fun h' hc' hs=>?_);obtain ⟨o',ho',hd'⟩:=hc';have nL:X.env.locals≠c:=fun z=>by rw [<- z,h1] at h6;cases h6
  refine q _ (κ.up c (true,o')) (fun a ha=>?_) (R.own h6 (fun b ob hb q=>(hs.2 b hb).trans q) ho' R.bare rfl) ⟨F.ok,by rw [List.length_set];exact F.len,⟨o,m,by rw [bJ nL];exact h1,⟨es,ep,h2,h3,h4⟩,fun j y w' e1 e2 e3=>?_⟩,fun y c2 ec=>?_,F.frs.kp fun a ⟨l,env,z1,z2,z3⟩=>bJ fun z=>by
   obtain ⟨l',y1,y2⟩:=F.frs;rw [z1] at y1;cases y1;obtain ⟨_,L,o9,y3,y4,_⟩:=y2 env z2;rw [z3] at y3;cases y3;rw [z,h6] at y4;cases y4⟩ ⟨_,hs,by rw [h6];exact fun z=>nomatch z⟩
  ·by_cases z:a=c
   ·exact .inr ⟨hfn,x,z ▸ hc⟩
   ·exact (ha (bJ z)).elim
  ·by_cases hj:j=i
   ·subst hj;rw [hi] at e1;cases e1;rw [List.getElem?_set_self hiδ] at e2;cases e2;exact ⟨u,r,.inr ⟨.inl hk,c,o',hc,eK,hd'⟩⟩
   ·rw [List.getElem?_set_ne (Ne.symm hj)] at e2;obtain ⟨u',r',l⟩:=h5 j y w' e1 e2 e3;refine ⟨u',r',?_⟩;rcases l with l | ⟨k,c2,oc2,ec,eo,ed⟩
    ·exact .inl l
    ·refine .inr ⟨k,c2,oc2,ec,?_,ed⟩;rw [bJ fun z=>hj (rZ F.ok.nd e1 (by rw [F.ok.inj y x c (by rw [<- z];exact ec) hc];exact hi))];exact eo
  ·by_cases z:c2=c
   ·exact ⟨o',_,by rw [z];exact eK,hd'⟩
   ·obtain ⟨o2,v2,h8,h9⟩:=F.cell y c2 ec;exact ⟨o2,v2,by rw [bJ z];exact h8,h9⟩
end
end DL

namespace L2
open PySem PySem.Spec PyProof.Rows
structure ObjM (h:Heap) (x dx C:Addr) (mA:Str->Option Value):Prop where
 obj:h.get? x=some (PySem.W.instObj C dx)
 ns:h.Ns1 dx mA
 ne:dx≠x

def yZ {h:Heap} {dx:Addr} {mA:Str->Option Value} (n:h.Ns1 dx mA):∃ od,h.get? dx=some od/\∀ name,PySem.W.lookIn name od=some (mA name):=by
 obtain ⟨o,es,ep,ho,hd,hk,_,hm⟩:=n;refine ⟨o,ho,fun name=>?_⟩;have e:=hm name;unfold nsFind findBy at e;rw [<- Array.find?_toList] at e;unfold PySem.W.lookIn;rw [hd];dsimp only;split
 ·rename_i y q;rw [q] at e;exact congrArg some e
 ·rename_i q;rw [q] at e;have a:es.toList.any (·.refKey)=false:=by
   rw [List.any_eq_false];intro y hy;obtain ⟨z,t,hkey⟩:=hk y (Array.mem_toList_iff.mp hy);simp [DictEntry.refKey,hkey]
  have a':¬ es.toList.any (·.refKey)=true:=by rw [a];exact Bool.false_ne_true
  rw [if_neg a'];exact congrArg some e

def ObjM.look {h:Heap} {x dx C:Addr} {mA:Str->Option Value} (I:ObjM h x dx C mA):∃ od,PySem.W.InstAt h x (PySem.W.instObj C dx) C (some od)/\∀ name,PySem.W.lookIn name od=some (mA name) :=
 let ⟨od,ho,hl⟩:=yZ I.ns
 ⟨od,⟨I.obj,rfl,rfl,ho⟩,hl⟩

section
variable {prog:Program} {w:World} {A:Around} {E:Value->Shared->Prop} {s:Shared} {K:PySem.W.Frag} {x dx C f:Addr} {mA:Str->Option Value} {name:Str} {v:Value}

def aP8 {expr:Bool} {Q:Value->Shared->Prop} (X:K.In s.heap) (I:ObjM s.heap x dx C mA) (hg:PySem.W.plainGet K C name=true) (hh:PySem.W.hasDictIn K C=true)
  (ha:PySem.W.findIn K (.ref C) name=some none) (hv:mA name=some v) (hv':PySem.W.handedIn v=true) (h:Q v { s with toks:=s.toks+1 }) :
  wpAny (model prog w) A (getAttr (.ref x) name expr) Q E s:=by
 obtain ⟨od,J,hl⟩:=I.look;exact PySem.W.get_value X J (PySem.W.plainGet_of hg).1 (PySem.W.findObj_own hh ha rfl (by rw [hl,hv])) hv' h

def aD9 {pl:Sem Bool} {Q:Value×List Value->Shared->Prop} (X:K.In s.heap) (I:ObjM s.heap x dx C mA) (hg:PySem.W.plainGet K C name=true)
  (hf:PySem.W.findIn K (.ref C) name=some (some (.ref f))) (ht:PySem.W.isFn K (.ref f)=true) (hv:mA name=none) (h:Q (.ref f,[.ref x]) s) :
  wpAny (model prog w) A (getMethod (.ref x) name pl) Q E s:=by
 obtain ⟨od,J,hl⟩:=I.look;exact PySem.W.method_fn X J (PySem.W.plainGet_of hg).1 (PySem.W.plainGet_of hg).2 hf (beq_iff_eq.mp ht) (by show (PySem.W.lookIn name od).map (·.isSome)=some false;rw [hl,hv];rfl) h

def aP9 {ns:List Str} {Q:Unit->Shared->Prop} (X:K.In s.heap) (I:ObjM s.heap x dx C mA)
  (hs:PySem.W.findIn K (.ref C) "__setattr__"=some (some (.builtin "object.__setattr__"))) (hp:PySem.W.plainOver K C=true) (ht:PySem.W.takerIn K C name=some none) (hh:PySem.W.hasDictIn K C=true)
  (hw:PySem.Within mA ns) (hsz:ns.length<=sizeLine)
  (h:∀ h',ObjM h' x dx C (fun y=>if y=name then some v else mA y)->Heap.SameBut dx s.heap h'->Q () { s with heap:=h',toks:=s.toks+2 }) :
  wpAny (model prog w) A (setAttr (.ref x) name v) Q E s:=by
 obtain ⟨od,J,hl⟩:=I.look;refine PySem.W.set_plain X J hs (PySem.W.osa_open (s:={ s with toks:=s.toks+1 }) (r:=none) X J hp ht fun b=>?_);obtain ⟨cd,hc,hd'⟩:=PySem.W.any_some hh;have hx:s.heap.get? x=some ⟨.ref C,some dx,.plain,#[]⟩:=I.obj;refine wpAny_bind (wpAny_pure (wpAny_bind (wpAny_bind (wpAny_loadPart hx (wpAny_bind (PySem.W.Looks.here (s:={ s with toks:=s.toks+1 }) (PySem.W.looks_clsIn X hc) ?_))))));rw [hd'];refine wpAny_pure (a:=some dx) (wpAny_bind (wpAny_pure (wpAny_bind ?_)));refine wpAny_nsSet1 (s:={ s with toks:=s.toks+1 }) I.ns fun h' hn2 hs2=>?_;obtain ⟨oD,esD,epD,hoD,hdD,hcD⟩:=hn2.count (PySem.Within.cons name v hw);refine wpAny_bind (wpAny_lookBehind hoD (by rw [hdD];exact pastItsLine_dict (Nat.le_trans hcD (by rw [List.length_cons];omega))) ?_);exact wpAny_pure (h _ ⟨(hs2.2 _ (Ne.symm I.ne)).trans I.obj,hn2,I.ne⟩ hs2)

def aE0 {R:Result->Shared->Prop} {vs:List Value} {kw:List (Str×Value)} (X:K.In s.heap) (hm:PySem.W.makesIn K C=true)
  (hi:PySem.W.findIn K (.ref C) "__init__"=some (some (.ref f))) (hf:PySem.W.typeIn K (.ref f)=some (.type "function"))
  (h:codeAny (model prog w) (A.under (.builtin "type.__call__" ⟨.ref C::vs,kw⟩)) (.call (.ref f) ⟨.ref (s.heap.objs.size+1)::vs,kw⟩) (PySem.W.InitBack (s.heap.objs.size+1) R)
   { s with heap:=(s.heap.push PySem.W.emptyDict).push (PySem.W.instObj C s.heap.objs.size) }) :
  codeAny (model prog w) A (.call (.ref C) ⟨vs,kw⟩) R s:=by
 obtain ⟨hh,g,d,t,os⟩:=s;exact PySem.W.make_core (PySem.W.makes_of X hm) (PySem.W.looks_findIn X hi) (fun self=>PySem.W.bind_fn X self hf) (.inl rfl) h
end

structure Cls (K:PySem.W.Frag) (C:Addr):Prop where
 pg:PySem.W.plainGet K C Str.empty=true
 hd:PySem.W.hasDictIn K C=true
 po:PySem.W.plainOver K C=true
 sa:PySem.W.findIn K (.ref C) "__setattr__"=some (some (.builtin "object.__setattr__"))
def Cls.get {K:PySem.W.Frag} {C:Addr} (c:Cls K C) (f:Str):PySem.W.plainGet K C f=true:=c.pg
def NoAttr (K:PySem.W.Frag) (C:Addr) (f:Str):Prop:=PySem.W.findIn K (.ref C) f=some none
def NoAttr.taker {K:PySem.W.Frag} {C:Addr} {f:Str} (n:NoAttr K C f):PySem.W.takerIn K C f=some none:=by
 unfold PySem.W.takerIn;rw [show PySem.W.findIn K (.ref C) f=some none from n];rfl
structure Meth (K:PySem.W.Frag) (C:Addr) (m:Str) (f:Addr):Prop where
 at_:PySem.W.findIn K (.ref C) m=some (some (.ref f))
 fn:PySem.W.isFn K (.ref f)=true
 kp:PySem.W.keepIn K (.ref f)=true
end L2

namespace DL
open PySem PySem.Spec PyProof.Rows L2 CI
noncomputable def oIs:Option Str->Value->Bool
 | some x,v=>Value.isStrOf x v
 | none,.none=>true
 | none,_=>false
def oIs_shape {k:Option Str} {v:Value} (h:oIs k v=true):(∃ x t,k=some x/\v=.str x t)\/(k=none/\v=.none):=by
 cases k with
 | some x =>
  obtain ⟨t,e⟩:=Value.isStrOf_shape (x:=x) (v:=v) h;exact .inl ⟨x,t,rfl,e⟩
 | none=>cases v<;>first | exact .inr ⟨rfl,rfl⟩ | cases h
def qA (x:Str) (t:Tok):oIs (some x) (.str x t)=true:=by simp [oIs,Value.isStrOf]
noncomputable def bP8 (w:World):Option Str->Int
 | some x=>hashStr w x
 | none=>reduceHash 0xFCA86420
def bP9 (prog:Program) (w:World):PySem.KeyKind prog w (Option Str) where
 is:=oIs
 hash:=bP8 w
 inj:=fun v a b ha hb=>by
  rcases oIs_shape ha with ⟨x,t,rfl,rfl⟩ | ⟨rfl,rfl⟩
  ·rcases oIs_shape hb with ⟨y,u,rfl,e⟩ | ⟨rfl,e⟩
   ·injection e with e1 _;rw [e1]
   ·exact nomatch e
  ·rcases oIs_shape hb with ⟨y,u,rfl,e⟩ | ⟨rfl,e⟩
   ·exact nomatch e
   ·rfl
 byValue:=fun k v h=>by
  rcases oIs_shape h with ⟨x,t,rfl,rfl⟩ | ⟨rfl,rfl⟩<;>rfl
 pyHash:=fun {A E s k v Q} hv h=>by
  rcases oIs_shape hv with ⟨x,t,rfl,rfl⟩ | ⟨rfl,rfl⟩
  ·exact wpAny_pyHash_str h
  ·exact PySem.W.pyHash_slot (T:="NoneType") rfl PySem.F.slot_NoneType_hash PySem.F.entry_NoneType_hash (PySem.F.args_NoneType_hash_1 _) (by decide) (.inl rfl) (wpAny_bind (wpAny_pure (wpAny_bind (wpAny_mkInt (wpAny_pure ⟨_,_,rfl,h⟩)))))
 eqBool:=fun {A E s a b u v Q} hu hv h=>by
  rcases oIs_shape hu with ⟨x,t,rfl,rfl⟩ | ⟨rfl,rfl⟩
  ·rcases oIs_shape hv with ⟨y,u,rfl,rfl⟩ | ⟨rfl,rfl⟩
   ·refine wpAny_eqBool_str ?_;have e:decide (some x=some y)=decide (x=y):=by simp
    rwa [e] at h
   ·exact SeqAt.EqAt.str_none x t _ _ _ _ (by simpa using h)
  ·rcases oIs_shape hv with ⟨y,u,rfl,rfl⟩ | ⟨rfl,rfl⟩
   ·exact SeqAt.EqAt.none_str y u _ _ _ _ (by simpa using h)
   ·exact SeqAt.EqAt.same _ _ _ _ _ (by simpa using h)
 «strs»:=fun k x t v h=>by
  rcases oIs_shape h with ⟨y,u,rfl,e⟩ | ⟨rfl,e⟩
  ·injection e with e1 _
   subst e1;cases v<;>rfl
  ·exact nomatch e
structure TabK (S:Sx) (p:Addr) (f:Str->Option PyData):Prop where
 lk:∃ es n,S.K.lookup p=some ⟨.type "dict",none,.dict es n,#[]⟩/\PySem.W.KeysLit S.w.params es.toList/\(∀ x i,f x=some i->∃ u,findBy Value.isStrOf es x=some u/\Rep S S.base.get? i u)/\∀ x,f x=none->findBy Value.isStrOf es x=none
 sm:(p==sysModules)=false
def TabK.map {S:Sx} {p:Addr} {f:Str->Option PyData} {prog:Program} {h:Heap} (T:TabK S p f) (X:S.K.In h):∃ g:Option Str->Option Value,h.MapOf (bP9 prog S.w) p g/\g none=none/\(∀ x i,f x=some i->∃ u,g (some x)=some u/\Rep S S.base.get? i u)/\∀ x,f x=none->g (some x)=none:=by
 obtain ⟨es,n,l,hk,h1,h2⟩:=T.lk;refine ⟨fun k=>findBy oIs es k,⟨_,es,n,X _ _ l,⟨rfl,rfl,rfl⟩,rfl,fun e he=>?_,fun _=>rfl⟩,?_,h1,h2⟩
 ·obtain ⟨x,t,e1,e2⟩:=hk.all e (Array.mem_toList_iff.mpr he);exact ⟨some x,by rw [e1];exact qA x t,e2⟩
 ·unfold findBy;have e:es.find? (fun e=>oIs none e.key)=none:=by
   rw [Array.find?_eq_none];intro e he;obtain ⟨x,t,e1,_⟩:=hk.all e (Array.mem_toList_iff.mpr he);rw [e1];exact Bool.false_ne_true
  show Option.map _ (es.find? fun e=>oIs none e.key)=none;rw [e];rfl
def eZ (K:PySem.W.Frag) (fd:FuncData) (ps:List Str):Prop:=∀ (s:Shared) (us:List Value),K.In s.heap->us.length=ps.length->BindsTo s fd ⟨us,[]⟩ (ps.zip us)
def CR (S:Sx) (κ:Kp) (M:Mp) (h:aA) (w:W) (r:Result) (s:Shared):Prop:=∃ u,r=.ok (.ret u)/\Pw S κ M h w u s
structure FnS (S:Sx) (d:Nat) (f:Addr) (fd:FuncData) (ps:List Str) (m:XFW):Prop where
 len:∀ ws h r,m ws h=some r->ws.length=ps.length
 run:∀ {A:Around} {κ:Kp} {M:Mp} {h h':aA} {s:Shared} {args:Args} {us:List Value} {ws:List W} {w:W},Room d A->FrO κ A->Mod S->S.base.objs.size<=s.heap.objs.size->Mem S κ M h s->BindsTo s fd args (ps.zip us)->RepWs S M ws us->m ws h=some (w,h') ->
  codeAny (model S.P S.w) A (.call (.ref f) args) (CR S κ M h' w) s
def FnG (S:Sx) (d:Nat) (x:Str) (m:XFW):Prop:=(∀ ws h,m ws h=none)\/∃ f fd ps,S.mg x=some (.ref f)/\PySem.W.keepIn S.K (.ref f)=true/\eZ S.K fd ps/\FnS S d f fd ps m
abbrev toW (m:XF):XFW:=fun ws h=>(m ws h).bind fun p=>some (.d p.1,p.2)
structure Mk (K:PySem.W.Frag) (C f:Addr):Prop where
 makes:PySem.W.makesIn K C=true
 init:PySem.W.findIn K (.ref C) "__init__"=some (some (.ref f))
 fn:PySem.W.isFn K (.ref f)=true
 kp:PySem.W.keepIn K (.ref C)=true
structure TbS (S:Sx) (c0:Addr) (pos:Pos):Prop where
 hd:PySem.W.codeHdIn S.K c0 S.tp=true
 tr:TriplesOk S.tb.toList
 no:codeAmong pos S.tb.toList=none
 bm:S.base.BuiltinsAt S.mg S.tp
structure LamOk (X:Cx) (d:Nat) (q:Str×Pos):Prop where
 qual:X.env.qual=q.1
 code:∃ c0,X.env.code=.ref c0/\TbS X.S c0 q.2
 dp:X.A.depth+3*d+7 < recursionLimit
 un:X.A.units+16*d+212 < cLine
structure Good (X:Cx) (st:Sta) (d:Nat):Prop where
 bl:∀ x,st.bl.contains x=true->X.S.mg x=none
 gc:∀ x z,st.gc x=some z->∃ u,X.S.mg x=some u/\Rep X.S X.S.base.get? z u
 tk:∀ x f,st.tk x=some f->∃ p,X.S.mg x=some (.ref p)/\TabK X.S p f
 fn:∀ x m,st.fn x=some m->FnG X.S d x (toW m)
 fnW:∀ x m,st.ob.fnW x=some m->FnG X.S d x m
 cls:∀ x C m,st.ob.cls x=some (C,m)->(∀ ws h,m ws h=none)\/∃ k f fd ps,k+1<=d/\Mk X.S.K C f/\FnS X.S k f fd ps m/\X.S.mg x=some (.ref C)/\eZ X.S.K fd ps
 om:∀ x C m,st.ob.om x=some (C,m)->(∀ ws h,m ws h=none)\/(Cls X.S.K C/\∃ f fd ps,Meth X.S.K C x f/\FnS X.S d f fd ps m/\eZ X.S.K fd ps)
 fo:∀ C f,st.ob.fo C f=true->Cls X.S.K C/\NoAttr X.S.K C f
 N:X.N=st.N
 S:X.env.scope=st.S
 top:st.top=true->X.fn=true
 rm:Room d X.A
 qn:∀ q,st.qn=some q->LamOk X d q
def Pt (S:Sx) (κ:Kp) (M:Mp) (h:aA) (b:Bool) (c:Bool) (s:Shared):Prop:=c=b/\∃ M',Le M M'/\Mem S κ M' h s
def Pa (S:Sx) (κ:Kp) (M:Mp) (h:aA) (ws:List W) (us:List Value) (s:Shared):Prop:=∃ M',Le M M'/\Mem S κ M' h s/\RepWs S M' ws us
def SE (X:Cx) (e:Expr) (f:XR W):Prop:=∀ ⦃κ M δ h s w h'⦄,Mem X.S κ M h s->Fra X κ M δ->f δ h=some (w,h')->Wp X.S X.A (eval e X.env) (Pw X.S κ M h' w) NE s
def SF (X:Cx) (e:Expr) (f:XR (List PyData)):Prop:=∀ ⦃κ M δ h s w h'⦄,Mem X.S κ M h s->Fra X κ M δ->f δ h=some (w,h')->Wp X.S X.A (eval e X.env) (Pf X.S κ M h' w) NE s
def ST (X:Cx) (e:Expr) (f:XR Bool):Prop:=∀ ⦃κ M δ h s w h'⦄,Mem X.S κ M h s->Fra X κ M δ->f δ h=some (w,h')->Wp X.S X.A (isTrue e X.env (eval e X.env)) (Pt X.S κ M h' w) NE s
def SW (X:Cx) (e:Expr) (f:XR Bool):Prop:=∀ (wh:Sem Value) ⦃κ M δ h s w h'⦄,Mem X.S κ M h s->Fra X κ M δ->f δ h=some (w,h')->Wp X.S X.A (isTrue e X.env wh) (Pt X.S κ M h' w) NE s
def SA (X:Cx) (es:List Expr) (f:XR (List W)):Prop:=∀ (pos:Pos) ⦃κ M δ h s ws h'⦄,Mem X.S κ M h s->Fra X κ M δ->f δ h=some (ws,h')->Wp X.S X.A (spliced (backTo pos (starEach es X.env))) (Pa X.S κ M h' ws) NE s
def SO (X:Cx) (e:Option Expr) (f:XR (Option Int)):Prop:=∀ ⦃κ M δ h s o h'⦄,Mem X.S κ M h s->Fra X κ M δ->f δ h=some (o,h')->Wp X.S X.A (evalPart e X.env) (fun u s'=>IsPart u o/\∃ M',Le M M'/\Mem X.S κ M' h' s') NE s
def SG (X:Cx) (tg:Expr) (g:XG):Prop:=∀ ⦃κ M δ h s w u δ' h'⦄,Mem X.S κ M h s->Fra X κ M δ->RepW X.S M w u->g w δ h=some (δ',h')->Wp X.S X.A (assign tg X.env u) (fun _ s'=>∃ κ' M',Own X κ κ'/\Le M M'/\Mem X.S κ' M' h' s'/\Fra X κ' M' δ') NE s
def Fw (X:Cx) (κ:Kp) (M:Mp):Fl->Flow->Prop
 | .nx δ,.next=>Fra X κ M δ
 | .bk δ,.brk=>Fra X κ M δ
 | .ct δ,.cont=>Fra X κ M δ
 | .rt w,.ret u=>RepW X.S M w u
 | _,_=>False
def Ps (X:Cx) (κ:Kp) (M:Mp) (h:aA) (fl:Fl) (f:Flow) (s:Shared):Prop:=∃ κ' M',Own X κ κ'/\Le M M'/\Mem X.S κ' M' h s/\Fw X κ' M' fl f
def SS (X:Cx) (st:Stmt) (f:XS):Prop:=∀ ⦃κ M δ h s fl h'⦄,Mem X.S κ M h s->Fra X κ M δ->f δ h=some (fl,h')->Wp X.S X.A (exec st X.env) (Ps X κ M h' fl) NE s
def SSs (X:Cx) (st:List Stmt) (f:XS):Prop:=∀ ⦃κ M δ h s fl h'⦄,Mem X.S κ M h s->Fra X κ M δ->f δ h=some (fl,h')->Wp X.S X.A (execs st X.env) (Ps X κ M h' fl) NE s
structure Snd (v:Evs):Prop where
 E:∀ {X st d},Good X st d->∀ e,SE X e (v.E st e)
 T:∀ {X st d},Good X st d->∀ e,ST X e (v.T st e)
 F:∀ {X st d},Good X st d->∀ e,SF X e (v.F st e)
 G:∀ {X st d},Good X st d->∀ e,SG X e (v.G st e)
 S:∀ {X st d},Good X st d->∀ s,SS X s (v.S st s)
section
variable {X:Cx} {st:Sta} {d:Nat} {x:Str} {v:Evs} {a b c t:Expr} {pos:Pos} {es:List Expr} {κ:Kp} {M:Mp} {δ:DSt} {h h':aA} {s:Shared} {w:W} {E:Value->Shared->Prop}
def aF {α β:Type} {f:XR α} {g:α->XR β} {r:β×aA} (e:xb f g δ h=some r):∃ p h1,f δ h=some (p,h1)/\g p δ h1=some r:=let ⟨⟨p,h1⟩,e1,e2⟩:=bind_some e;⟨p,h1,e1,e2⟩
def lB (G:Good X st d) {i:Nat} (e:slot st x=some i):X.N[i]?=some x:=by
 rw [G.N];obtain ⟨h1,h2,_⟩:=List.findIdx?_eq_some_iff_getElem.mp e;rw [List.getElem?_eq_getElem h1,eq_of_beq h2]
def bD7 (G:Good X st d) (h:bB6 st.S x=true):Vis X.env.scope x:=by
 unfold Vis;rw [G.S];unfold bB6 at h;split at h
 ·rename_i e;exact .inl e
 ·rename_i e;exact .inr (.inl e)
 ·rename_i e;exact .inr (.inr e)
 ·cases h
def aE1 (G:Good X st d) (h:(pQ st.S x&&(st.top||cS st.S x))=true):Loc X.env.scope x/\(X.fn=true\/X.env.scope.names.lookup x=some .local):=by
 rw [Bool.and_eq_true,Bool.or_eq_true] at h;obtain ⟨h1,h2⟩:=h;unfold Loc;rw [G.S];refine ⟨?_,?_⟩
 ·unfold pQ at h1;split at h1
  ·rename_i e;exact .inl e
  ·rename_i e;exact .inr e
  ·cases h1
 ·rcases h2 with h2 | h2
  ·exact .inl (G.top h2)
  ·unfold cS at h2;split at h2
   ·rename_i e;exact .inr e
   ·cases h2
def mE (G:Good X st d) (h:cC st x=true):dN x=true/\Gl X x:=by
 unfold cC at h;rw [Bool.and_eq_true] at h;refine ⟨h.1,?_⟩;unfold Gl Env.kindOf;rw [G.S];have h2:=h.2;unfold glB at h2;split at h2
 ·rename_i e;exact e
 ·cases h2
def bV {e:Expr}:SE X e xno:=fun _ _ _ _ _ _ _ _ _ e=>by cases e
def aE2 (G:Good X st d):SE X (.Name x pos) (wM st x):=by
 unfold wM;split
 ·rename_i hn;split
  ·rename_i i hi;split
   ·rename_i hv;intro κ M δ h s w h' R F e;unfold aB at e;split at e
    ·rename_i e';cases e;exact bP7 F R (lB G hi) e' (bD7 G hv) hn
    ·cases e
   ·exact bV
  ·split
   ·rename_i z hz;split
    ·rename_i hg;intro κ M δ h s w h' R F e;cases e;obtain ⟨u,m,r⟩:=G.gc _ _ hz;exact jE F R (mE G (by unfold cC;rw [hn,hg];rfl)).2 m hn (R.pw (Rep.go R.base r))
    ·exact bV
   ·exact bV
 ·exact bV
def aQ0 {c:Const} {j:Nat}:SE X (.Constant c j pos) (aB9 c):=by
 intro κ M δ h s w h' R F e;cases c with
 | none=>cases e;exact Constant_none R.pn
 | bool b=>cases e;exact Constant_bool R.pb
 | int i=>cases e;exact wpAny_Constant_int R.pi
 | str x =>
  have e:(if PyData.strOk x=true then aC (.d (.str x)) else xno:XR W) δ h=some (w,h'):=e
  by_cases hx:PyData.strOk x=true
  case neg=>rw [if_neg hx] at e;cases e
  rw [if_pos hx] at e;cases e;exact Calls.Constant_str ((R.tok _).pw (show Rep X.S M.Z _ _ from rep_s.mpr ⟨⟨_,rfl⟩,hx⟩))
 | _=>cases e
def two {fa fb:XR W} {k:W->W->aA->Option (W×aA)} (ha:SE X a fa) (hb:SE X b fb) {f:Value->Value->Sem Value} {r:W×aA} (R:Mem X.S κ M h s) (F:Fra X κ M δ) (e:xb fa (fun u=>xb fb fun w=>fun _ h=>k u w h) δ h=some r)
  (hf:∀ {M1 h1 s1 x y u v},Mem X.S κ M1 h1 s1->Fra X κ M1 δ->RepW X.S M1 x u->RepW X.S M1 y v->k x y h1=some r->Wp X.S X.A (f u v) (Pw X.S κ M1 r.2 r.1) NE s1) :
  Wp X.S X.A (eval a X.env) (fun u s₁=>Wp X.S X.A (eval b X.env) (fun v s₂=>Wp X.S X.A (f u v) (Pw X.S κ M r.2 r.1) NE s₂) NE s₁) NE s:=by
 obtain ⟨x,h1,e1,e⟩:=aF e;obtain ⟨y,h2,e2,e⟩:=aF e;refine thn (ha R F e1) fun u s1 ⟨M1,l1,R1,r1⟩=>thn (hb R1 (F.go l1) e2) fun v s2 ⟨M2,l2,R2,r2⟩=>?_;exact thn (hf R2 ((F.go l1).go l2) (r1.go l2) r2 e) fun _ _ q=>q.go (l1.trans l2)
def bQ0 (S:Snd v) (G:Good X st d) {op:Operator}:SE X (.BinOp a op b pos) (xb (v.E st a) fun u=>xb (v.E st b) fun w=>fun _ h=>gN op u w h):=fun _ _ _ _ _ _ _ R F e =>
 wpAny_BinOp (two (S.E G a) (S.E G b) R F e fun R1 _ ra rb e=>bin_ok R1 ra rb e)
theorem bQ1 (S:Snd v) (G:Good X st d):SE X (.UnaryOp .Not a pos) (xb (v.E st a) fun w=>(match w with
  | .d (.bool b)=>aC (.d (.bool (!b)))
  | _=>xno)):=by
 intro κ M δ h s w h' R F e;obtain ⟨x,h1,e1,e⟩:=aF e;refine UnaryOp_ (thn (S.E G a R F e1) fun u s1 ⟨M1,l1,R1,r1⟩=>?_);obtain ⟨b,rfl,e⟩:∃ b,x=.d (.bool b)/\aC (.d (.bool (!b))) δ h1=some (w,h'):=by rcases x with (_ | b | _ | _ | _ | _ | _) | _<;>first | cases e;done | exact ⟨_,rfl,e⟩
 cases e;cases wb.mp r1;exact not_of (wpAny_truthy_bool (R1.pb.go l1))
theorem bQ2 (S:Snd v) (G:Good X st d):SE X (.UnaryOp .USub a pos) (xb (v.E st a) fun w=>(match w with
  | .d (.int i)=>aC (.d (.int (-i)))
  | _=>xno)):=by
 intro κ M δ h s w h' R F e;obtain ⟨x,h1,e1,e⟩:=aF e;refine UnaryOp_ (thn (S.E G a R F e1) fun u s1 ⟨M1,l1,R1,r1⟩=>?_);obtain ⟨b,rfl,e⟩:∃ b,x=.d (.int b)/\aC (.d (.int (-b))) δ h1=some (w,h'):=by rcases x with (_ | b | _ | _ | _ | _ | _) | _<;>first | cases e;done | exact ⟨_,rfl,e⟩
 cases e;exact thn (bD3 R1 r1) fun _ _ q=>q.go l1
def bQ3 (S:Snd v) (G:Good X st d):SE X (.IfExp c a b pos) (xb (v.T st c) fun t=>if t=true then v.E st a else v.E st b):=by
 intro κ M δ h s w h' R F e;obtain ⟨x,h1,e1,e⟩:=aF e;refine wpAny_IfExp (thn (S.T G c R F e1) fun t s1 ⟨et,M1,l1,R1⟩=>?_);subst et;cases t with
 | true=>exact thn (S.E G a R1 (F.go l1) e) fun _ _ q=>q.go l1
 | false=>exact thn (S.E G b R1 (F.go l1) e) fun _ _ q=>q.go l1
theorem aE3 (S:Snd v) (G:Good X st d):∀ vs,SE X (.BoolOp .And vs pos) (aC2 v st vs)
 | []=>fun _ _ _ _ _ _ _ R F e=>by cases e
 | [a]=>fun _ _ _ _ _ _ _ R F e=>BoolOp_one (S.E G a R F e)
 | a::b::r=>by
  intro κ M δ h s w h' R F e;obtain ⟨x,h1,e1,e⟩:=aF e;refine BoolOp_and (thn (S.E G a R F e1) fun u s1 ⟨M1,l1,R1,r1⟩=>?_);rcases x with (_ | b | _ | _ | _ | _ | _) | _<;>first | cases e;done | skip
  cases wb.mp r1;cases b
  ·cases e;exact wpAny_truthy_bool (R1.pb.go l1)
  ·exact wpAny_truthy_bool (thn (aE3 S G _ R1 (F.go l1) e) fun _ _ q=>q.go l1)
theorem aY7 (S:Snd v) (G:Good X st d):∀ vs,SE X (.BoolOp .Or vs pos) (bC0 v st vs)
 | []=>fun _ _ _ _ _ _ _ R F e=>by cases e
 | [a]=>fun _ _ _ _ _ _ _ R F e=>BoolOp_one (S.E G a R F e)
 | a::b::r=>by
  intro κ M δ h s w h' R F e;obtain ⟨x,h1,e1,e⟩:=aF e;refine BoolOp_or (thn (S.E G a R F e1) fun u s1 ⟨M1,l1,R1,r1⟩=>?_);rcases x with (_ | b | _ | _ | _ | _ | _) | _<;>first | cases e;done | skip
  cases wb.mp r1;cases b
  ·exact wpAny_truthy_bool (thn (aY7 S G _ R1 (F.go l1) e) fun _ _ q=>q.go l1)
  ·cases e;exact wpAny_truthy_bool (R1.pb.go l1)
def Pt.go {S:Sx} {M M':Mp} {b c:Bool} (l:Le M M') (p:Pt S κ M' h b c s):Pt S κ M h b c s:=let ⟨e,N,a,b⟩:=p;⟨e,N,l.trans a,b⟩
theorem aY8 (S:Snd v) (G:Good X st d):∀ vs,SW X (.BoolOp .And vs pos) (aC3 v st vs)
 | []=>fun _ _ _ _ _ _ _ _ R F e=>by cases e
 | [a]=>fun wh _ _ _ _ _ _ _ R F e=>isTrue_and (thn (S.T G a R F e) fun c s1 q=>by
  cases c with
  | true=>exact isTrue_and_nil q
  | false=>exact q)
 | a::b::r=>by
  intro wh κ M δ h s w h' R F e;obtain ⟨x,h1,e1,e⟩:=aF e;refine isTrue_and (thn (S.T G a R F e1) fun t s1 ⟨et,M1,l1,R1⟩=>?_);subst et;cases t with
  | true=>exact thn (aY8 S G (b::r) wh R1 (F.go l1) e) fun _ _ q=>q.go l1
  | false=>cases e;exact ⟨rfl,M1,l1,R1⟩
theorem bQ4 (S:Snd v) (G:Good X st d):∀ vs,SW X (.BoolOp .Or vs pos) (bC1 v st vs)
 | []=>fun _ _ _ _ _ _ _ _ R F e=>by cases e
 | [a]=>fun wh _ _ _ _ _ _ _ R F e=>isTrue_or (thn (S.T G a R F e) fun c s1 q=>by
  cases c with
  | false=>exact isTrue_or_nil q
  | true=>exact q)
 | a::b::r=>by
  intro wh κ M δ h s w h' R F e;obtain ⟨x,h1,e1,e⟩:=aF e;refine isTrue_or (thn (S.T G a R F e1) fun t s1 ⟨et,M1,l1,R1⟩=>?_);subst et;cases t with
  | true=>cases e;exact ⟨rfl,M1,l1,R1⟩
  | false=>exact thn (bQ4 S G (b::r) wh R1 (F.go l1) e) fun _ _ q=>q.go l1
def aE4 (G:Good X st d) {f:Str->Option PyData} (e:jC st b=some f):∃ y p p',b=.Name y p'/\dN y=true/\Gl X y/\X.S.mg y=some (.ref p)/\TabK X.S p f:=by
 unfold jC at e;cases b<;>first | (cases e;done) | skip
 obtain ⟨ht,e⟩:=aE e;rw [Bool.and_eq_true] at ht;obtain ⟨h1,h2⟩:=mE G ht.1;obtain ⟨p,h3,h4⟩:=G.tk _ _ e;exact ⟨_,p,_,rfl,h1,h2,h3,h4⟩
def bQ5 (S:Snd v) (G:Good X st d) {f:Str->Option PyData} (hf:jC st b=some f) {r:Bool×aA} (R:Mem X.S κ M h s) (F:Fra X κ M δ) (e:kG f (v.E st a) δ h=some r) :
  behindInMarks .NotIn b=false/\Wp X.S X.A (eval a X.env) (fun u s₁=>Wp X.S X.A (eval b X.env) (fun v s₂=>Wp X.S X.A (compareOp .NotIn u v) (Pw X.S κ M r.2 (.d (.bool r.1))) NE s₂) NE s₁) NE s:=by
 obtain ⟨y,p,p',rfl,hn,hg,hm,T⟩:=aE4 G hf;refine ⟨rfl,?_⟩;obtain ⟨x,h1,e1,e⟩:=aF e;refine thn (S.E G a R F e1) fun u s1 ⟨M1,l1,R1,r1⟩=>jE (F.go l1) R1 hg hm hn ?_;obtain ⟨g,m,g0,g1,g2⟩:=T.map (prog:=X.S.P) (F.ok.mod.kin.keeps R1.bk);rcases x with (_ | _ | _ | z | _ | _ | _) | _<;>first | cases e;done | skip
 ·cases e;cases wn.mp r1;refine wpAny_notIn_of (k:=none) rfl T.sm m ?_;rw [g0];exact (R1.tok _).pb.go l1
 ·cases e;obtain ⟨⟨t,rfl⟩,_⟩:=rep_s.mp (show Rep X.S M1.Z _ _ from r1);refine wpAny_notIn_of (k:=some z) (qA z t) T.sm m ?_;have eg:(g (some z)).isSome=(f z).isSome:=by
   cases q:f z with
   | none=>rw [g2 z q];rfl
   | some i=>obtain ⟨t',q',_⟩:=g1 z i q;rw [q'];rfl
  rw [eg];exact (R1.tok _).pb.go l1
def aY9 (S:Snd v) (G:Good X st d) {op:CmpOp} {r:Bool×aA} (R:Mem X.S κ M h s) (F:Fra X κ M δ) (e:eW v st a [op] [b] δ h=some r) :
  behindInMarks op b=false/\Wp X.S X.A (eval a X.env) (fun u s₁=>Wp X.S X.A (eval b X.env) (fun v s₂=>Wp X.S X.A (compareOp op u v) (Pw X.S κ M r.2 (.d (.bool r.1))) NE s₂) NE s₁) NE s:=by
 cases hf:jC st b with
 | some f =>
  have e:(match jC st b with
   | some f=>if op=CmpOp.NotIn then kG f (v.E st a) else xno
   | none=>if behindInMarks op b=true then xno else xC1 op (v.E st a) (v.E st b)) δ h=some r:=e
  rw [hf] at e
  by_cases ho:op=CmpOp.NotIn
  ·subst ho;exact bQ5 S G hf R F e
  ·have e:(if op=CmpOp.NotIn then kG f (v.E st a) else xno) δ h=some r:=e;rw [if_neg ho] at e;cases e
 | none =>
  have e:(match jC st b with
   | some f=>if op=CmpOp.NotIn then kG f (v.E st a) else xno
   | none=>if behindInMarks op b=true then xno else xC1 op (v.E st a) (v.E st b)) δ h=some r:=e
  rw [hf] at e;have e:(if behindInMarks op b=true then xno else xC1 op (v.E st a) (v.E st b)) δ h=some r:=e
  by_cases hb:behindInMarks op b=true
  ·rw [if_pos hb] at e;cases e
  ·rw [if_neg hb] at e;refine ⟨by simpa using hb,?_⟩;obtain ⟨x,h1,e1,e⟩:=aF e;obtain ⟨y,h2,e2,e⟩:=aF e;refine thn (S.E G a R F e1) fun u s1 ⟨M1,l1,R1,r1⟩=>thn (S.E G b R1 (F.go l1) e2) fun v s2 ⟨M2,l2,R2,r2⟩=>?_;obtain ⟨q1,q2⟩:=gQ (A:=X.A) (E:=NE) G.rm R2 (r1.go l2) r2 e;rw [q1];exact thn q2 fun _ _ q=>q.go (l1.trans l2)
def bD8 (S:Snd v) (G:Good X st d) {op op':CmpOp} {p:Bool×aA} (hm:lastMarks [op,op'] [b,c]=false) (R:Mem X.S κ M h s) (F:Fra X κ M δ) (e:xC2 op op' (v.E st a) (v.E st b) (v.E st c) δ h=some p):Wp X.S X.A (eval (.Compare a [op,op'] [b,c] pos) X.env) (Pw X.S κ M p.2 (.d (.bool p.1))) NE s:=by
 obtain ⟨x,h1,e1,e⟩:=aF e;obtain ⟨y,h2,e2,e⟩:=aF e;obtain ⟨p1,e3,e⟩:=bind_some e;refine Compare_chain (thn (S.E G a R F e1) fun u s1 ⟨M1,l1,R1,r1⟩=>chain_link (thn (S.E G b R1 (F.go l1) e2) fun v s2 ⟨M2,l2,R2,r2⟩=>?_)) hm;obtain ⟨q1,q2⟩:=gQ (A:=X.A) (E:=NE) G.rm R2 (r1.go l2) r2 e3;obtain ⟨k,h3⟩:=p1;cases q1;refine thn q2 fun k' s3 ⟨M3,l3,R3,r3⟩=>?_;cases wb.mp r3;refine wpAny_truthy_bool ?_;dsimp only at e;cases k with
 | false=>cases e;exact ite_ff (R3.pb.go (l1.trans (l2.trans l3)))
 | true =>
  obtain ⟨⟨z,h4⟩,e4,e⟩:=bind_some e;refine ite_tt (chain_last (thn (S.E G c R3 ((F.go l1).go (l2.trans l3)) e4) fun t s4 ⟨M4,l4,R4,r4⟩=>?_));obtain ⟨q5,q6⟩:=gQ (A:=X.A) (E:=NE) G.rm R4 (r2.go (l3.trans l4)) r4 e;rw [q5];exact thn q6 fun _ _ q=>q.go (l1.trans (l2.trans (l3.trans l4)))
def bD9 (S:Snd v) (G:Good X st d) {op op':CmpOp} {p:Bool×aA} (hm:lastMarks [op,op'] [b,c]=false) (R:Mem X.S κ M h s) (F:Fra X κ M δ) (e:xC2 op op' (v.E st a) (v.E st b) (v.E st c) δ h=some p) {wh:Sem Value}:Wp X.S X.A (isTrue (.Compare a [op,op'] [b,c] pos) X.env wh) (Pt X.S κ M p.2 p.1) NE s:=by
 obtain ⟨x,h1,e1,e⟩:=aF e;obtain ⟨y,h2,e2,e⟩:=aF e;obtain ⟨p1,e3,e⟩:=bind_some e;refine isTrue_chain (thn (S.E G a R F e1) fun u s1 ⟨M1,l1,R1,r1⟩=>test_link (thn (S.E G b R1 (F.go l1) e2) fun v s2 ⟨M2,l2,R2,r2⟩=>?_)) hm;obtain ⟨q1,q2⟩:=gQ (A:=X.A) (E:=NE) G.rm R2 (r1.go l2) r2 e3;obtain ⟨k,h3⟩:=p1;cases q1;refine thn q2 fun k' s3 ⟨M3,l3,R3,r3⟩=>?_;cases wb.mp r3;refine wpAny_truthy_bool ?_;dsimp only at e;cases k with
 | false=>cases e;exact ite_ff ⟨rfl,M3,l1.trans (l2.trans l3),R3⟩
 | true =>
  obtain ⟨⟨z,h4⟩,e4,e⟩:=bind_some e;refine ite_tt (test_last (thn (S.E G c R3 ((F.go l1).go (l2.trans l3)) e4) fun t s4 ⟨M4,l4,R4,r4⟩=>?_));obtain ⟨q5,q6⟩:=gQ (A:=X.A) (E:=NE) G.rm R4 (r2.go (l3.trans l4)) r4 e;refine thn q6 fun k2 s5 ⟨M5,l5,R5,r5⟩=>?_;cases wb.mp r5;rw [q5];exact wpAny_truthy_bool ⟨rfl,M5,l1.trans (l2.trans (l3.trans (l4.trans l5))),R5⟩
def kI (S:Snd v) (G:Good X st d) {ops:List CmpOp} {cs:List Expr}:SE X (.Compare a ops cs pos) (bC (eW v st a ops cs)):=by
 intro κ M δ h s w h' R F e;obtain ⟨p,e2,ew⟩:=map_some (show (eW v st a ops cs δ h).map asW=_ from e);cases ew;clear e;have e:=e2;clear e2;rcases ops with _ | ⟨op,_ | ⟨op',_ | ⟨_,_⟩⟩⟩
 ·cases e
 ·rcases cs with _ | ⟨b,_ | ⟨_,_⟩⟩
  ·cases e
  ·obtain ⟨q1,q2⟩:=aY9 S G R F e;exact wpAny_Compare1 q2 q1
  ·cases e
 ·rcases cs with _ | ⟨b,_ | ⟨c,_ | ⟨_,_⟩⟩⟩
  ·cases e
  ·cases e
  ·have e:(if lastMarks [op,op'] [b,c]=true then xno else xC2 op op' (v.E st a) (v.E st b) (v.E st c)) δ h=some _:=e
   by_cases hm:lastMarks [op,op'] [b,c]=true
   ·rw [if_pos hm] at e;cases e
   ·rw [if_neg hm] at e;exact bD8 S G (by simpa using hm) R F e
  ·cases e
 ·cases e
def bQ6 (S:Snd v) (G:Good X st d) {ops:List CmpOp} {cs:List Expr}:ST X (.Compare a ops cs pos) (eW v st a ops cs):=by
 intro κ M δ h s w h' R F e;rcases ops with _ | ⟨op,_ | ⟨op',_ | ⟨_,_⟩⟩⟩
 ·cases e
 ·rcases cs with _ | ⟨b,_ | ⟨_,_⟩⟩
  ·cases e
  ·obtain ⟨q1,q2⟩:=aY9 S G R F e;refine wpAny_isTrue_Compare1 (thn q2 fun u s1 q=>thn q fun v s2 q=>thn q fun k s3 ⟨M3,l3,R3,r3⟩=>?_) q1;cases wb.mp r3;exact wpAny_truthy_bool ⟨rfl,M3,l3,R3⟩
  ·cases e
 ·rcases cs with _ | ⟨b,_ | ⟨c,_ | ⟨_,_⟩⟩⟩
  ·cases e
  ·cases e
  ·have e:(if lastMarks [op,op'] [b,c]=true then xno else xC2 op op' (v.E st a) (v.E st b) (v.E st c)) δ h=some _:=e
   by_cases hm:lastMarks [op,op'] [b,c]=true
   ·rw [if_pos hm] at e;cases e
   ·rw [if_neg hm] at e;exact bD9 S G (by simpa using hm) R F e
  ·cases e
 ·cases e
def bM (e:Expr) (hs:aH e=true):starEach (e::es) X.env=(false,eval e X.env)::starEach es X.env:=by
 cases e<;>first | rfl | cases hs
theorem cD (S:Snd v) (G:Good X st d):∀ es,SA X es (aQ v st es)
 | []=>fun pos _ _ _ _ _ _ _ R F e=>by cases e;exact Calls.spliced_nil ⟨_,.refl,R,.nil⟩
 | a::es=>by
  intro pos κ M δ h s ws h' R F e;have e:(if aH a=true then xb (v.E st a) fun w=>xb (aQ v st es) fun ws=>aC (w::ws) else xno) δ h=some (ws,h'):=e
  by_cases hs:aH a=true
  ·rw [if_pos hs] at e;obtain ⟨x,h1,e1,e⟩:=aF e;obtain ⟨y,h2,e2,e⟩:=aF e;cases e;rw [bM a hs];show Wp _ _ (spliced ((false,eval a X.env)::backTo pos (starEach es X.env))) _ _ s;refine Calls.spliced_cons (thn (S.E G a R F e1) fun u s1 ⟨M1,l1,R1,r1⟩=>?_);exact thn (cD S G es pos R1 (F.go l1) e2) fun us s2 ⟨M2,l2,R2,r2⟩=>⟨M2,l1.trans l2,R2,.cons (r1.go l2) r2⟩
  ·rw [if_neg hs] at e;cases e
theorem cI {v:Evs} {st:Sta}:∀ {es:List Expr} {δ:DSt} {h:aA} {r:List W×aA},aQ v st es δ h=some r->es.all aH=true
 | [],_,_,_,_=>rfl
 | a::es,δ,h,r,e=>by
  have e:(if aH a=true then xb (v.E st a) fun w=>xb (aQ v st es) fun ws=>aC (w::ws) else xno) δ h=some r:=e
  by_cases hs:aH a=true
  ·rw [if_pos hs] at e;obtain ⟨x,h1,e1,e⟩:=aF e;obtain ⟨y,h2,e2,e⟩:=aF e;rw [List.all_cons,hs,cI e2];rfl
  ·rw [if_neg hs] at e;cases e
theorem bQ (pos:Pos):∀ (es:List Expr),es.all aH=true->(backTo pos (starEach es X.env)).any (·.1)=false
 | [],_=>rfl
 | e::es,h=>by
  rw [List.all_cons,Bool.and_eq_true] at h;have:=bQ pos es h.2;rw [bM e h.1];show (false||(backTo pos (starEach es X.env)).any (·.1))=false;rw [this];rfl
theorem mF {S:Sx} {M:Mp}:∀ {ws:List W} {xs:List PyData} {us:List Value},gM ws=some xs->RepWs S M ws us->Reps' S M xs us
 | [],_,_,e,h=>by cases e;cases h;exact .nil
 | .d x::ws,_,_,e,h=>by
  unfold gM at e;obtain ⟨ys,q,rfl⟩:=map_some e;cases h with
  | cons a t=>exact .cons a (mF q t)
 | .c _::ws,_,_,e,h=>by cases e
def wS (S:Snd v) (G:Good X st d) {xs:List PyData} {Q:List Value->Shared->Prop} (R:Mem X.S κ M h s) (F:Fra X κ M δ) (e:xPl (aQ v st es) δ h=some (xs,h'))
  (q:∀ {M1 s1 us},Le M M1->Mem X.S κ M1 h' s1->Reps' X.S M1 xs us->us.length<=sizeLine->Q us s1):Wp X.S X.A (spliced (backTo pos (starEach es X.env))) Q NE s:=by
 obtain ⟨ws,h1,e1,e⟩:=aF e;refine thn (cD S G es pos R F e1) fun us s1 ⟨M1,l1,R1,r1⟩=>?_;split at e
 ·rename_i ys ey;obtain ⟨hl,e⟩:=aE e;cases e;have r:=mF ey r1;exact q l1 R1 r (by rw [<- r.length];exact hl)
 ·cases e
def bQ7 (S:Snd v) (G:Good X st d) {k}:SE X (.Tuple es k pos) (xb (xPl (aQ v st es)) fun xs=>aC (.d (.tuple xs))):=by
 intro κ M δ h s w h' R F e;obtain ⟨x,h1,e1,e⟩:=aF e;cases e;exact wpAny_Tuple_spliced (wS S G R F e1 fun l1 R1 r z=>⟨z,(R1.tup (t:=_) r z).go l1⟩)
def uL (S:Snd v) (G:Good X st d):SF X (.List es pos) (xPl (aQ v st es)):=by
 intro κ M δ h s w h' R F e;refine wpAny_List_spliced (wS S G R F e fun {M1 s1 us} l1 R1 r z=>⟨z,?_⟩);obtain ⟨N,a,b⟩:=R1.lstP (t:=s1.toks) (n:=0) r z;exact ⟨N,l1.trans a,b⟩
theorem aE5 (S:Snd v) (G:Good X st d):∀ o,SO X o (jU v st o)
 | none=>fun _ _ _ _ _ _ _ R F e=>by cases e;rw [evalPart_none];exact wpAny_pure ⟨.none,_,.refl,R⟩
 | some a=>by
  intro κ M δ h s o h' R F e;obtain ⟨x,h1,e1,e⟩:=aF (show xb (v.E st a) (fun w=>match w with
   | .d (.int i)=>aC (some i)
   | _=>xno) δ h=some (o,h') from e)
  rw [evalPart_some];refine thn (S.E G a R F e1) fun u s1 ⟨M1,l1,R1,r1⟩=>?_;rcases x with (_ | _ | i | _ | _ | _ | _) | _<;>first | cases e;done | skip
  cases e;obtain ⟨t,rfl⟩:=wi.mp r1;exact ⟨.int _ t,M1,l1,R1⟩
def bQ8 (S:Snd v) (G:Good X st d) {lo hi:Option Expr} {p2:Pos} {α:Type} {Q:α->Value->Shared->Prop} {k:W->Option Int->Option Int->aA->Option (α×aA)} {r:α×aA} (R:Mem X.S κ M h s) (F:Fra X κ M δ) (e:xb (v.E st a) (fun x=>xb (jU v st lo) fun l=>xb (jU v st hi) fun u=>fun _ h=>k x l u h) δ h=some r)
  (q:∀ {M1 h1 s1 x u vl vu l hh sl},Le M M1->Mem X.S κ M1 h1 s1->RepW X.S M1 x u->s1.heap.IsSliceOf sl vl vu .none->IsPart vl l->IsPart vu hh->k x l hh h1=some r->∃ T id,typeLookup (.type T) "__getitem__"=pure (some (.builtin id))/\s1.TypeIs u T/\Wp X.S X.A (getItem u (.ref sl)) (Q r.1) NE s1) :
  Wp X.S X.A (eval (.Subscript a (.Slice lo hi none p2) pos) X.env) (Q r.1) NE s:=by
 obtain ⟨x,h1,e1,e⟩:=aF e;obtain ⟨l,h2,e2,e⟩:=aF e;obtain ⟨hh,h3,e3,e⟩:=aF e;refine Subscript_ (thn (S.E G a R F e1) fun u s1 ⟨M1,l1,R1,r1⟩=>?_);refine wpAny_Slice (thn (aE5 S G lo R1 (F.go l1) e2) fun vl s2 ⟨pl,M2,l2,R2⟩=>thn (aE5 S G hi R2 ((F.go l1).go l2) e3) fun vu s3 ⟨pu,M3,l3,R3⟩=>?_);rw [evalPart_none];refine wpAny_pure ?_;have R4:Mem X.S κ M3 h3 { s3 with heap:=s3.heap.push { cls:=.type "slice",data:=.fields #[vl,vu,.none] } }:=R3.kept (t:=s3.toks) fun b ob q=>Heap.get?_push_of_some _ q;obtain ⟨T,id,hT,ht,hg⟩:=q (l1.trans (l2.trans l3)) R4 (r1.go (l2.trans l3)) (Heap.IsSliceOf.new ..) pl pu e;show Wp X.S X.A (subscriptTail a (.Slice lo hi none p2) u (.ref s3.heap.objs.size)) _ _ { s3 with heap:=s3.heap.push { cls:=.type "slice",data:=.fields #[vl,vu,.none] } };exact tail_any (ops:=[.ref s3.heap.objs.size,u]) ht hT hg (by with_unfolding_all rfl)
end
end DL

namespace DL
open PySem PySem.Spec PyProof.Rows L2 CI
structure Turn (S:Sx) (tg:Expr) (all:List PyData) (c:Cw) (M0:Mp) (fp:List Addr) (it:Addr) (tn:Nat->Heap->Prop):Prop where
 keep:∀ i h h',tn i h->(∀ b∈fp,∀ o,h.get? b=some o->h'.get? b=some o)->tn i h'
 obj:∀ i h,tn i h->∀ b∈fp,∃ o,h.get? b=some o
 item:∀ {A:Around} {κ:Kp} {M:Mp} {h:aA} {s:Shared} {E:Value->Shared->Prop} {i:Nat} {x:PyData},A.handled=none->Mem S κ M h s->Le M0 M->(∀ b∈fp,bA κ M b)->tn i s.heap->all[i]?=some x->condB c all h=true ->
  Wp S A (pyNext (.ref it)) (fun r s1=>∃ u,r=some u/\Wp S A (letOwnedTupleGo tg (.ref it) u) (fun _ s2=>∃ M',Le M M'/\Mem S κ M' h s2/\Rep S M'.Z x u/\tn (i+1) s2.heap/\∀ b∈fp,bA κ M' b) E s1) E s
 done:∀ {A:Around} {κ:Kp} {M:Mp} {h:aA} {s:Shared} {E:Value->Shared->Prop} {i:Nat},A.handled=none->Mem S κ M h s->Le M0 M->(∀ b∈fp,bA κ M b)->tn i s.heap->all.length<=i->condB c all h=true ->
  Wp S A (pyNext (.ref it)) (fun r s1=>r=none/\Mem S κ M h s1) E s
 self:∀ (A:Around) (i:Nat) (s:Shared) (Q:Value->Shared->Prop) (E:Value->Shared->Prop),tn i s.heap->Q (.ref it) s->Wp S A (pyIter (.ref it)) Q E s
structure TurnW (S:Sx) (tg:Expr) (all:List W) (co:aA->Bool) (M0:Mp) (fp:List Addr) (it:Addr) (tn:Nat->Heap->Prop):Prop where
 keep:∀ i h h',tn i h->(∀ b∈fp,∀ o,h.get? b=some o->h'.get? b=some o)->tn i h'
 obj:∀ i h,tn i h->∀ b∈fp,∃ o,h.get? b=some o
 item:∀ {A:Around} {κ:Kp} {M:Mp} {h:aA} {s:Shared} {E:Value->Shared->Prop} {i:Nat} {x:W},A.handled=none->Mem S κ M h s->Le M0 M->(∀ b∈fp,bA κ M b)->tn i s.heap->all[i]?=some x->co h=true ->
  Wp S A (pyNext (.ref it)) (fun r s1=>∃ u,r=some u/\Wp S A (letOwnedTupleGo tg (.ref it) u) (fun _ s2=>∃ M',Le M M'/\Mem S κ M' h s2/\RepW S M' x u/\tn (i+1) s2.heap/\∀ b∈fp,bA κ M' b) E s1) E s
 done:∀ {A:Around} {κ:Kp} {M:Mp} {h:aA} {s:Shared} {E:Value->Shared->Prop} {i:Nat},A.handled=none->Mem S κ M h s->Le M0 M->(∀ b∈fp,bA κ M b)->tn i s.heap->all.length<=i->co h=true ->
  Wp S A (pyNext (.ref it)) (fun r s1=>r=none/\Mem S κ M h s1) E s
 self:∀ (A:Around) (i:Nat) (s:Shared) (Q:Value->Shared->Prop) (E:Value->Shared->Prop),tn i s.heap->Q (.ref it) s->Wp S A (pyIter (.ref it)) Q E s
def Turn.w {S:Sx} {tg:Expr} {all:List PyData} {c:Cw} {M0:Mp} {fp:List Addr} {it:Addr} {tn:Nat->Heap->Prop} (T:Turn S tg all c M0 fp it tn):TurnW S tg (all.map .d) (condB c all) M0 fp it tn where
 keep:=T.keep
 obj:=T.obj
 item:=fun {A κ M h s E i x} hd R l hf st hx co=>by
  rw [List.getElem?_map] at hx;obtain ⟨y,hy,rfl⟩:=map_some hx;exact T.item hd R l hf st hy co
 done:=fun hd R l hf st hx co=>T.done hd R l hf st (by simpa using hx) co
 self:=T.self
def Pi (S:Sx) (κ:Kp) (M:Mp) (h:aA) (tg:Expr) (p:List PyData×Cw) (u:Value) (s:Shared):Prop :=
 ∃ M' it fp tn,Le M M'/\Mem S κ M' h s/\u=.ref it/\Turn S tg p.1 p.2 M' fp it tn/\tn 0 s.heap/\(∀ b∈fp,bA κ M' b)/\p.1.length<=sizeLine
def SI (X:Cx) (tg iter:Expr) (f:XR (List PyData×Cw)):Prop:=∀ ⦃κ M δ h s p h'⦄,Mem X.S κ M h s->Fra X κ M δ->f δ h=some (p,h')->Wp X.S X.A (eval iter X.env) (fun v s1=>Wp X.S X.A (pyIter v) (Pi X.S κ M h' tg p) NE s1) NE s
def wT {M:Model} {A:Around} {E:Value->Shared->Prop} {s:Shared} {tg:Expr} {it:Addr} {u:Value} {o:Obj} {n:String} {vs:Array Value} {Q:Unit->Shared->Prop} (ho:s.heap.get? it=some o) (hc:o.cls=.type n) (hd:o.data=.fields vs)
  (hn:["enumerate","zip","dict_itemiterator","dict_reverseitemiterator","odict_iterator","itertools.zip_longest","itertools.pairwise"].contains n=false) (hQ:Q () s):wpAny M A (letOwnedTupleGo tg (.ref it) u) Q E s:=by
 unfold letOwnedTupleGo;cases tg<;>first
  | exact wpAny_pure hQ
  | (cases u<;>first
    | exact wpAny_pure hQ
    | (refine wpAny_bind (wpAny_load ho ?_)
       rw [hc,hd];show wpAny M A (if (["enumerate","zip","dict_itemiterator","dict_reverseitemiterator","odict_iterator","itertools.zip_longest","itertools.pairwise"].contains n&&vs[0]?==some (rawInt _))=true then _ else _) Q E s;rw [if_neg (by intro h;rw [hn,Bool.false_and] at h;cases h)];exact wpAny_pure hQ))
mutual
theorem aE6:∀ {a b:PyData},peq a b=true->a=b
 | .none,b,h=>by cases b<;>first | rfl | cases h
 | .bool x,b,h=>by cases b<;>first | cases h;done | (rw [eq_of_beq (show (x==_)=true from h)])
 | .int x,b,h=>by cases b<;>first | cases h;done | (rw [eq_of_beq (show (x==_)=true from h)])
 | .str x,b,h=>by cases b<;>first | cases h;done | (rw [eq_of_beq (show (x==_)=true from h)])
 | .list x,b,h=>by cases b<;>first | cases h;done | (rw [peqs_eq (show peqs x _=true from h)])
 | .tuple x,b,h=>by cases b<;>first | cases h;done | (rw [peqs_eq (show peqs x _=true from h)])
 | .dict x,b,h=>by cases b<;>cases h
theorem peqs_eq:∀ {a b:List PyData},peqs a b=true->a=b
 | [],b,h=>by cases b<;>first | rfl | cases h
 | x::a,b,h=>by
  cases b with
  | nil=>cases h
  | cons y b=>replace h:(peq _ y&&peqs _ b)=true:=h;rw [Bool.and_eq_true] at h;rw [aE6 h.1,peqs_eq h.2]
end
section
variable {S:Sx} {κ:Kp} {M M0:Mp} {h:aA} {s:Shared} {A:Around} {E:Value->Shared->Prop} {tg:Expr} {all:List PyData} {c:Cw} {a it:Addr} {us:List Value} {n:Nat}
def Mem.turn {h2:Heap} {t:Nat} {fp:List Addr} (R:Mem S κ M h s) (hf:∀ b∈fp,bA κ M b) (k:∀ b o,b∉fp->s.heap.get? b=some o->h2.get? b=some o):Mem S κ M h { s with heap:=h2,toks:=t } :=
 R.keep (fun b o e nf=>k b o (fun z=>nf (hf b z)) e) R.bare rfl
def aE7 {hc:c=none->∃ us n,M0.Z a=some (aU us n)/\us.length<=sizeLine/\Reps' S M0 all us} {hi:∀ q,c=some q->q.2=false/\∃ p,M0.m[q.1]?=some p/\p.1=a} (R:Mem S κ M h s) (l:Le M0 M) (co:condB c all h=true) :
  ∃ us n,s.heap.get? a=some (aU us n)/\us.length<=sizeLine/\Reps' S M all us:=by
 cases c with
 | none =>
  obtain ⟨us,n,e,z,r⟩:=hc rfl;exact ⟨us,n,R.z _ _ (l.z _ _ e),z,r.go l⟩
 | some q =>
  obtain ⟨i,q2⟩:=q;obtain ⟨h0,p,e,rfl⟩:=hi _ rfl;cases (show q2=false from h0);have co:(match h[i]? with
   | some (.l ys)=>peqs ys all
   | _=>false)=true:=co
  split at co
  ·rename_i ys ey;rw [<- peqs_eq co];obtain ⟨us,n,e1,e2,e3⟩:=R.cel i p _ (l.at e) ey;exact ⟨us,n,e1,e2,e3⟩
  ·cases co
def oI (hc:c=none->∃ us n,M0.Z a=some (aU us n)/\us.length<=sizeLine/\Reps' S M0 all us) (hi:∀ q,c=some q->q.2=false/\∃ p,M0.m[q.1]?=some p/\p.1=a):Turn S tg all c M0 [it] it (fun i h=>h.IsListIter it a i) where
 keep:=fun i h h' st k=>st.at fun o e=>k it (by simp) o e
 obj:=fun i h st b hb=>by
  rw [List.mem_singleton.mp hb];obtain ⟨o,e,_⟩:=st;exact ⟨o,e⟩
 item:=by
  intro A κ M h s E i x hd R l hf st hx co;obtain ⟨us,n,ho,hz,rr⟩:=aE7 (hc:=hc) (hi:=hi) R l co;obtain ⟨u,hu,ru⟩:=jR rr hx;refine wpAny_pyNext_list_item st (bK ho).isList (x:=u) (by simpa using hu) fun h' st' sb=>?_;have R1:Mem S κ M h { s with heap:=h' }:=R.turn (t:=s.toks) hf fun b o hb e=>(sb.2 b fun z=>hb (by simp [z])).trans e;obtain ⟨o,e,c,d⟩:=id st';exact ⟨u,rfl,wT (s:={ s with heap:=h' }) e c d (by decide) ⟨M,.refl,R1,ru,st',hf⟩⟩
 done:=by
  intro A κ M h s E i hd R l hf st hx co;obtain ⟨us,n,ho,hz,rr⟩:=aE7 (hc:=hc) (hi:=hi) R l co;have hl:=rr.length;exact wpAny_pyNext_list_end hd st (bK ho).isList (by simp;omega) fun h' eb=>⟨rfl,R.turn (t:=s.toks) hf fun b o hb e=>eb b o (fun z=>hb (by simp [z])) e⟩
 self:=fun _ _ _ _ _ st h=>wpAny_pyIter_listiter st h
def uM (e0:M0.Z a=some { cls:=.type "tuple",data:=.seq us.toArray n }) (r0:Reps' S M0 all us):Turn S tg all none M0 [it] it (fun i h=>h.IsTupleIter it a i) where
 keep:=fun i h h' st k=>st.at fun o e=>k it (by simp) o e
 obj:=fun i h st b hb=>by
  rw [List.mem_singleton.mp hb];obtain ⟨o,e,_⟩:=st;exact ⟨o,e⟩
 item:=by
  intro A κ M h s E i x hd R l hf st hx co;obtain ⟨u,hu,ru⟩:=jR (r0.go l) hx;refine wpAny_pyNext_tuple_item st (show s.heap.IsTuple a us.toArray from eY (R.z _ _ (l.z _ _ e0))) (x:=u) (by simpa using hu) fun h' st' sb=>?_;have R1:Mem S κ M h { s with heap:=h' }:=R.turn (t:=s.toks) hf fun b o hb e=>(sb.2 b fun z=>hb (by simp [z])).trans e;obtain ⟨o,e,c,d⟩:=id st';exact ⟨u,rfl,wT (s:={ s with heap:=h' }) e c d (by decide) ⟨M,.refl,R1,ru,st',hf⟩⟩
 done:=by
  intro A κ M h s E i hd R l hf st hx co;have hl:=r0.length;exact wpAny_pyNext_tuple_end hd st (show s.heap.IsTuple a us.toArray from eY (R.z _ _ (l.z _ _ e0))) (by simp;omega) fun h' eb=>⟨rfl,R.turn (t:=s.toks) hf fun b o hb e=>eb b o (fun z=>hb (by simp [z])) e⟩
 self:=fun _ _ _ _ _ st h=>wpAny_pyIter_tupleiter st h
theorem wU:∀ {a b:List W},yU a b=true->a=b
 | [],[],_=>rfl
 | [],_::_,h=>by cases h
 | _::_,[],h=>by cases h
 | x::a,y::b,h=>by
  obtain ⟨h1,h2⟩:=Bool.and_eq_true_iff.mp (show (weq x y&&yU a b)=true from h);have e:x=y:=by
   cases x<;>cases y<;>first | (cases h1;done) | skip
   ·rw [aE6 (show peq _ _=true from h1)]
   ·rw [eq_of_beq (show (_==_)=true from h1)]
  rw [e,wU h2]
def uN {M:Mp} {j:Nat} {p:Addr×Addr} {ws:List W} (R:Mem S κ M h s) (ep:M.m[j]?=some p) (e:wsC j h=some ws):∃ us n,s.heap.get? p.1=some (aU us n)/\us.length<=sizeLine/\RepWs S M ws us:=by
 unfold wsC at e;split at e
 ·rename_i xs ej;cases e;obtain ⟨us,n,a,b,r⟩:=R.cel j p _ ep ej;exact ⟨us,n,a,b,rP r⟩
 ·rename_i ws' ej;cases e;exact R.cel j p _ ep ej
 ·cases e
def aE8 {j:Nat} {ws:List W} {h:aA} (co:coW j ws h=true):wsC j h=some ws:=by
 unfold coW at co;split at co
 ·rename_i us e;rw [e,wU co]
 ·cases co
def aQ1 {j:Nat} {p:Addr×Addr} {ws:List W} (ep:M0.m[j]?=some p):TurnW S tg ws (coW j ws) M0 [it] it (fun i h=>h.IsListIter it p.1 i) where
 keep:=fun i h h' st k=>st.at fun o e=>k it (by simp) o e
 obj:=fun i h st b hb=>by
  rw [List.mem_singleton.mp hb];obtain ⟨o,e,_⟩:=st;exact ⟨o,e⟩
 item:=by
  intro A κ M h s E i x hd R l hf st hx co;obtain ⟨us,n,ho,hz,rr⟩:=uN R (l.at ep) (aE8 co);obtain ⟨u,hu,ru⟩:=jR rr hx;refine wpAny_pyNext_list_item st (bK ho).isList (x:=u) (by simpa using hu) fun h' st' sb=>?_;have R1:Mem S κ M h { s with heap:=h' }:=R.turn (t:=s.toks) hf fun b o hb e=>(sb.2 b fun z=>hb (by simp [z])).trans e;obtain ⟨o,e,c,d⟩:=id st';exact ⟨u,rfl,wT (s:={ s with heap:=h' }) e c d (by decide) ⟨M,.refl,R1,ru,st',hf⟩⟩
 done:=by
  intro A κ M h s E i hd R l hf st hx co;obtain ⟨us,n,ho,hz,rr⟩:=uN R (l.at ep) (aE8 co);have hl:=rr.length;exact wpAny_pyNext_list_end hd st (bK ho).isList (by simp;omega) fun h' eb=>⟨rfl,R.turn (t:=s.toks) hf fun b o hb e=>eb b o (fun z=>hb (by simp [z])) e⟩
 self:=fun _ _ _ _ _ st h=>wpAny_pyIter_listiter st h
def aQ4 {lo:Int} {n i:Nat} {x:PyData} (e:(rng lo n)[i]?=some x):i < n/\x=.int (lo+i):=by
 unfold rng at e;rw [List.getElem?_map] at e;obtain ⟨j,e1,rfl⟩:=map_some e;obtain ⟨h1,h2⟩:=List.getElem?_eq_some_iff.mp e1;rw [List.getElem_range] at h2;subst h2;exact ⟨by simpa using h1,rfl⟩
def uO {lo:Int}:Turn S tg (rng lo n) none M0 [it] it (fun i h=>IsRangeIter h it (lo+(i:Nat)*1) ((n:Int) - (i:Nat)) 1) where
 keep:=fun i h h' st k=>k it (by simp) _ st
 obj:=fun i h st b hb=>by rw [List.mem_singleton.mp hb];exact ⟨_,st⟩
 item:=by
  intro A κ M h s E i x hd R l hf st hx co;obtain ⟨hi,rfl⟩:=aQ4 hx;have W:=Walks.range (prog:=S.P) (w:=S.w) hd it lo 1 n;refine W.item i s _ _ hi st fun v h' tk hv st' kk=>?_;obtain ⟨t,rfl⟩:=hv;have R1:Mem S κ M h { s with heap:=h',toks:=tk }:=R.turn hf fun b o hb e=>kk b o (by simpa using hb) e;refine ⟨_,rfl,wT (s:={ s with heap:=h',toks:=tk }) (n:="range_iterator") st' rfl rfl (by decide) ⟨M,.refl,R1,rep_i.mpr ⟨t,?_⟩,st',hf⟩⟩;rw [Int.mul_one]
 done:=by
  intro A κ M h s E i hd R l hf st hx co;have hx:n<=i:=by simpa [rng] using hx
  exact wpAny_pyNext_range_end hd st (by omega) fun h' eb=>⟨rfl,R.turn (t:=s.toks) hf fun b o hb e=>eb b o (fun z=>hb (by simp [z])) e⟩
 self:=fun _ _ _ _ _ st h=>wpAny_pyIter_rangeiter st h
def Mem.one (R:Mem S κ M h s):∀ b∈[s.heap.objs.size],bA κ M b:=fun b hb=>by rw [List.mem_singleton.mp hb];exact R.size
def sA {lo hi:Int} {t u v:Tok} {tk:Nat} (R:Mem S κ M h s) (h1:-(2^62)<=lo) (h2:lo < 2^62) (h3:-(2^62)<=hi) (h4:hi < 2^62) (h5:hi - lo<=16000000) :
  Wp S A (pyIter (.ref s.heap.objs.size)) (Pi S κ M h tg (rng lo (hi - lo).toNat,none)) E { s with heap:=s.heap.push { cls:=.type "range",data:=.fields #[.int lo t,.int hi u,.int 1 v] },toks:=tk }:=by
 refine wpAny_pyIter_range (IsRange.new ..) (small_one h1 h2 h3 h4) ?_;have R1:Mem S κ M h { s with heap:=s.heap.push { cls:=.type "range",data:=.fields #[.int lo t,.int hi u,.int 1 v] },toks:=tk }:=R.kept fun b o e=>Heap.get?_push_of_some _ e;refine ⟨M,_,[(s.heap.push { cls:=.type "range",data:=.fields #[.int lo t,.int hi u,.int 1 v] }).objs.size],_,.refl,R1.kept (t:=tk) fun b o e=>Heap.get?_push_of_some _ e,rfl,uO,?_,R1.one,?_⟩
 case refine_2=>show (rng lo (hi - lo).toNat).length<=sizeLine;unfold rng;rw [List.length_map,List.length_range,sizeLine_eq];omega
 have e1:lo+((0:Nat):Int)*1=lo:=by simp
 have e2:(((hi - lo).toNat:Nat):Int) - ((0:Nat):Int)=Builtin.Range.rangeSize lo hi 1:=by rw [rangeSize_one];split<;>omega
 show IsRangeIter _ _ (lo+((0:Nat):Int)*1) ((((hi - lo).toNat:Nat):Int) - ((0:Nat):Int)) 1;rw [e1,e2];exact Heap.get?_push_size _ rfl
end
section
variable {X:Cx} {st:Sta} {d:Nat} {v:Evs} {a b tg iter:Expr} {κ:Kp} {M:Mp} {δ:DSt} {h h':aA} {s:Shared} {E:Value->Shared->Prop} {pos p:Pos}
def Pi.go {S:Sx} {M M':Mp} {q:List PyData×Cw} {u:Value} (l:Le M M') (x:Pi S κ M' h tg q u s):Pi S κ M h tg q u s:=let ⟨N,it,fp,tn,a,b⟩:=x;⟨N,it,fp,tn,l.trans a,b⟩
def uP (S:Snd v) (G:Good X st d):SI X tg iter (aS (v.E st iter)):=by
 intro κ M δ h s p h' R F e;obtain ⟨x,h1,e1,e⟩:=aF e;refine thn (S.E G iter R F e1) fun u s1 ⟨M1,l1,R1,r1⟩=>?_;rcases x with (_ | _ | _ | _ | xs | xs | _) | i<;>first | cases e;done | skip
 ·cases e;obtain ⟨a,us,n,rfl,z,⟨⟨n,rfl⟩,hz⟩,rr⟩:=rep_l.mp (show Rep X.S M1.Z (.list _) u from r1);exact wpAny_pyIter_list (bK (R1.z _ _ z)).isList (Pi.go l1 ⟨M1,_,[s1.heap.objs.size],_,.refl,R1.kept (t:=s1.toks) fun b o e=>Heap.get?_push_of_some _ e,rfl,oI (fun _=>⟨_,_,z,hz,rr⟩) (fun i z=>nomatch z),⟨_,Heap.get?_push_size _ rfl,rfl,rfl⟩,R1.one,by rw [rr.length];exact hz⟩)
 ·cases e;obtain ⟨a,us,n,rfl,z,hz,rr⟩:=dY R1 r1 rfl;exact wpAny_pyIter_tuple (show s1.heap.IsTuple a us.toArray from eY (R1.z _ _ z)) (Pi.go l1 ⟨M1,_,[s1.heap.objs.size],_,.refl,R1.kept (t:=s1.toks) fun b o e=>Heap.get?_push_of_some _ e,rfl,uM z rr,⟨_,Heap.get?_push_size _ rfl,rfl,rfl⟩,R1.one,by rw [rr.length];exact hz⟩)
 ·dsimp only at e;split at e
  ·rename_i xs ei;cases e;obtain ⟨p,ep,rfl⟩:=r1;obtain ⟨us,n,ho,hz,rr⟩:=R1.cel i p _ ep ei;exact wpAny_pyIter_list (bK ho).isList (Pi.go l1 ⟨M1,_,[s1.heap.objs.size],_,.refl,R1.kept (t:=s1.toks) fun b o e=>Heap.get?_push_of_some _ e,rfl,oI (fun z=>nomatch z) (fun j z=>by cases z;exact ⟨rfl,p,ep,rfl⟩),⟨_,Heap.get?_push_size _ rfl,rfl,rfl⟩,R1.one,by rw [rr.length];exact hz⟩)
  ·cases e
def aZ0 {i j:Int} (h:cU i j=true):j - i<=16000000/\-(2^62)<=i/\i < 2^62/\-(2^62)<=j/\j < 2^62:=by
 unfold cU at h
 simpa only [Bool.and_eq_true,decide_eq_true_eq] using h
def cN (G:Good X st d) {x:Str} (hx:(cC st x&&(slot st x).isNone&&st.bl.contains x)=true):dN x=true/\Gl X x/\X.S.mg x=none:=by
 rw [Bool.and_eq_true,Bool.and_eq_true] at hx;obtain ⟨h1,h2⟩:=mE G hx.1.1;exact ⟨h1,h2,G.bl _ hx.2⟩
theorem bE0 (S:Snd v) (G:Good X st d) (hx:(cC st "range"&&(slot st "range").isNone&&st.bl.contains "range")=true) (hs:aH a=true):SI X tg (.Call (.Name "range" p) [a] [] pos) (xb (v.E st a) fun w=>fun _ h=>(match w with
   | .d (.int j)=>if cU 0 j=true then some ((rng 0 j.toNat,none),h) else none
   | _=>none)):=by
 intro κ M δ h s q h' R F e;obtain ⟨h1,h2,h3⟩:=cN G hx;obtain ⟨x,hh,e1,e⟩:=aF e;have ea:aQ v st [a] δ h=some ([x],hh):=by unfold aQ;rw [if_pos hs];unfold aQ xb aC;rw [e1];rfl
 have es:=bM (X:=X) (es:=[]) a hs;refine Call_ (cM F R h2 h3 boot_range h1 (PyProof.Rows.callWith_type1 (thn (cD S G [a] pos R F ea) fun us s1 ⟨M1,l1,R1,r0⟩=>?_) es rfl));obtain ⟨u,rfl,r1⟩:=w1 r0;split at e
 ·obtain ⟨hb,e⟩:=aE e;cases e;obtain ⟨t,rfl⟩:=wi.mp r1;obtain ⟨b1,b2,b3,b4,b5⟩:=aZ0 hb;refine call_range_1 (thn (sA (tg:=tg) R1 b2 b3 b4 b5 b1) fun _ _ q=>Pi.go l1 ?_);rw [Int.sub_zero] at q;exact q
 ·cases e
theorem bE1 (S:Snd v) (G:Good X st d) (hx:(cC st "range"&&(slot st "range").isNone&&st.bl.contains "range")=true) (hs:aH a=true) (hs2:aH b=true):SI X tg (.Call (.Name "range" p) [a,b] [] pos) (xb (v.E st a) fun u=>xb (v.E st b) fun w=>fun _ h=>(match u,w with
   | .d (.int i),.d (.int j)=>if cU i j=true then some ((rng i (j - i).toNat,none),h) else none
   | _,_=>none)):=by
 intro κ M δ h s q h' R F e;obtain ⟨h1,h2,h3⟩:=cN G hx;obtain ⟨x,hh,e1,e⟩:=aF e;obtain ⟨y,hh2,e2,e⟩:=aF e;have ea:aQ v st [a,b] δ h=some ([x,y],hh2):=by unfold aQ;rw [if_pos hs];unfold xb;rw [e1];unfold aQ;dsimp only [Option.bind];rw [if_pos hs2];unfold aQ xb aC;dsimp only;rw [e2];rfl
 refine Call_ (cM F R h2 h3 boot_range h1 (PyProof.Rows.callWith_type1 (thn (cD S G [a,b] pos R F ea) fun us s1 ⟨M1,l1,R1,r0⟩=>?_) (bM a hs) (by rw [bM b hs2];rfl)));obtain ⟨u,v,rfl,r1,r2⟩:=w2 r0;split at e
 ·obtain ⟨hb,e⟩:=aE e;cases e;obtain ⟨t,rfl⟩:=wi.mp r1;obtain ⟨t',rfl⟩:=wi.mp r2;obtain ⟨b1,b2,b3,b4,b5⟩:=aZ0 hb;exact call_range_2 (thn (sA R1 b2 b3 b4 b5 b1) fun _ _ q=>Pi.go l1 q)
 ·cases e
noncomputable def eM (κ:Kp) (fp:List Addr) (hp:Heap):Kp:=fun a=>if a∈fp then (hp.get? a).map fun o=>(true,o) else κ a
noncomputable def unK (fp:List Addr) (κ:Kp):Kp:=fun a=>if a∈fp then none else κ a
def Mem.pin {S:Sx} {fp:List Addr} (R:Mem S κ M h s) (hf:∀ b∈fp,bA κ M b):Mem S (eM κ fp s.heap) M h s:=by
 refine ⟨R.z,fun a b o e=>?_,R.len,R.ap,fun q hq a ha=>?_,R.cel,R.base,R.bare,R.os⟩
 ·unfold eM at e;split at e
  ·rename_i hm;obtain ⟨o',e1,e2⟩:=map_some e;cases e2;exact ⟨fun _=>e1,⟨_,e1⟩,(hf a hm).1⟩
  ·exact R.k a b o e
 ·obtain ⟨h1,h2,h3⟩:=R.off q hq a ha;refine ⟨h1,?_,h3⟩;unfold eM;rw [if_neg fun hm=>by rcases ha with z | z;exact ((hf a hm).2.2 q hq).1 z.symm;exact ((hf a hm).2.2 q hq).2 z.symm];exact h2
def Fra.kp {κ':Kp} (F:Fra X κ M δ) (k:∀ a,bP6 X a->κ' a=κ a):Fra X κ' M δ :=
 ⟨F.ok,F.len,let ⟨o,m,h1,h2,h3⟩:=F.loc;⟨o,m,by rw [k _ (.inl rfl)];exact h1,h2,fun i x w a b c=>let ⟨u,r,l⟩:=h3 i x w a b c;⟨u,r,l.imp id fun ⟨q,c,o,e1,e2,e3⟩=>⟨q,c,o,e1,by rw [k _ (.inr (.inl ⟨x,e1⟩))];exact e2,e3⟩⟩⟩,fun x c e=>let ⟨o,v,h1,h2⟩:=F.cell x c e;⟨o,v,by rw [k _ (.inr (.inl ⟨x,e⟩))];exact h1,h2⟩,F.frs.kp fun a h=>k a (.inr (.inr h))⟩
def Fra.mine (F:Fra X κ M δ) {a:Addr} (ha:bP6 X a):κ a≠none:=by
 rcases ha with rfl | ⟨x,e⟩ | ⟨l,env,z1,z2,z3⟩
 ·obtain ⟨o,m,h1,_⟩:=F.loc;rw [h1];exact fun z=>nomatch z
 ·obtain ⟨o,v,h1,_⟩:=F.cell x a e;rw [h1];exact fun z=>nomatch z
 ·obtain ⟨l',y1,y2⟩:=F.frs;rw [z1] at y1;cases y1;obtain ⟨_,L,o,y3,y4,_⟩:=y2 env z2;rw [z3] at y3;cases y3;rw [y4];exact fun z=>nomatch z
def Fra.pin {fp:List Addr} {hp:Heap} (F:Fra X κ M δ) (hf:∀ b∈fp,bA κ M b):Fra X (eM κ fp hp) M δ:=F.kp fun a ha=>by
 unfold eM;rw [if_neg fun hm=>F.mine ha (hf a hm).2.1]
def aE9 {S:Sx} {fp:List Addr} {hp:Heap} {κ2:Kp} {M2:Mp} {h2:aA} {s2:Shared} (F:Fra X κ M δ) (hf:∀ b∈fp,bA κ M b) (ho:∀ b∈fp,∃ o,hp.get? b=some o) (o2:Own X (eM κ fp hp) κ2) (R2:Mem S κ2 M2 h2 s2) :
  Own X κ (unK fp κ2)/\Mem S (unK fp κ2) M2 h2 s2/\(∀ b∈fp,bA (unK fp κ2) M2 b)/\(∀ b∈fp,∀ o,hp.get? b=some o->s2.heap.get? b=some o)/\∀ δ',Fra X κ2 M2 δ'->Fra X (unK fp κ2) M2 δ':=by
 have same:∀ b∈fp,κ2 b=eM κ fp hp b:=fun b hb=>by
  by_cases e:κ2 b=eM κ fp hp b
  ·exact e
  ·refine absurd (hf b hb).2.1 (F.mine ?_);rcases o2 b e with z | z
   ·exact .inl z
   ·exact .inr (.inl z.2)
 have pins:∀ b∈fp,∀ o,hp.get? b=some o->κ2 b=some (true,o):=fun b hb o e=>by rw [same b hb];unfold eM;rw [if_pos hb,e];rfl
 refine ⟨fun a ha=>?_,R2.less fun a x e=>?_,fun b hb=>?_,fun b hb o e=>?_,fun δ' F'=>F'.kp fun a ha=>?_⟩
 ·have nm:a∉fp:=fun hm=>ha (by unfold unK;rw [if_pos hm,(hf a hm).2.1]);refine o2 a fun e=>ha ?_;unfold unK;rw [if_neg nm,e];unfold eM;rw [if_neg nm]
 ·unfold unK at e;split at e
  ·cases e
  ·exact e
 ·obtain ⟨o,e⟩:=ho b hb;have k2:=pins b hb o e;exact ⟨(R2.k b _ _ k2).2.2,by unfold unK;rw [if_pos hb],R2.kc k2⟩
 ·exact (R2.k b _ _ (pins b hb o e)).1 rfl
 ·have nm:a∉fp:=fun hm=>F.mine ha (hf a hm).2.1;unfold unK;rw [if_neg nm]
end
end DL

namespace DL
open PySem PySem.Spec PyProof.Rows L2 CI
section
variable {X:Cx} {st:Sta} {d:Nat} {v:Evs} {a b c tg iter:Expr} {κ:Kp} {M:Mp} {δ:DSt} {h h':aA} {s:Shared} {pos:Pos} {body els:List Stmt} {x:Str} {g:XG} {tb:XS}
def Ps.go {κ1:Kp} {M1:Mp} {fl:Fl} {f:Flow} (o:Own X κ κ1) (l:Le M M1) (p:Ps X κ1 M1 h fl f s):Ps X κ M h fl f s:=let ⟨κ2,M2,a,b,q⟩:=p;⟨κ2,M2,o.trans a,l.trans b,q⟩
def quiet (F:Fra X κ M δ):interactive X.env=false:=by simp [interactive,F.ok.kind]
theorem sB (S:Snd v) (G:Good X st d):∀ ss,SSs X ss (xSs v st ss)
 | []=>fun _ _ _ _ _ _ _ R F e=>by cases e;exact wpAny_execs_nil ⟨_,_,.refl,.refl,R,F⟩
 | t::r=>by
  intro κ M δ h s fl h' R F e;obtain ⟨⟨f1,h1⟩,e1,e⟩:=bind_some (show (v.S st t δ h).bind (fun p=>match p.1 with
   | .nx δ'=>xSs v st r δ' p.2
   | f=>some (f,p.2))=some (fl,h') from e)
  refine wpAny_execs_cons (thn (S.S G t R F e1) fun f s1 ⟨κ1,M1,o1,l1,R1,q⟩=>?_);cases f1 with
  | nx δ1 =>
   cases f<;>first | exact q.elim | skip
   exact thn (sB S G r R1 q e) fun _ _ p=>p.go o1 l1
  | rt w=>cases e;cases f<;>first | exact q.elim | exact ⟨κ1,M1,o1,l1,R1,q⟩
  | bk w=>cases e;cases f<;>first | exact q.elim | exact ⟨κ1,M1,o1,l1,R1,q⟩
  | ct w=>cases e;cases f<;>first | exact q.elim | exact ⟨κ1,M1,o1,l1,R1,q⟩
def kQ {t:Stmt}:SS X t fun _ _=>none:=fun _ _ _ _ _ _ _ _ _ e=>by cases e
def bQ9 {f:XR W} (hf:SE X a f):SS X (.Return (some a) pos) fun δ h=>(f δ h).bind fun p=>some (.rt p.1,p.2):=by
 intro κ M δ h s fl h' R F e;obtain ⟨⟨w,h1⟩,e1,e⟩:=bind_some e;cases e;exact wpAny_Return_some (thn (hf R F e1) fun u s1 ⟨M1,l1,R1,r1⟩=>⟨κ,M1,.refl,l1,R1,r1⟩)
def cG9 (S:Snd v) (G:Good X st d):SS X (.If c body els pos) fun δ h=>(v.T st c δ h).bind fun p=>if p.1=true then xSs v st body δ p.2 else xSs v st els δ p.2:=by
 intro κ M δ h s fl h' R F e;obtain ⟨⟨t,h1⟩,e1,e⟩:=bind_some e;refine wpAny_If (thn (S.T G c R F e1) fun t' s1 ⟨et,M1,l1,R1⟩=>?_);subst et;cases t' with
 | true=>exact thn (sB S G body R1 (F.go l1) e) fun _ _ p=>p.go .refl l1
 | false=>exact thn (sB S G els R1 (F.go l1) e) fun _ _ p=>p.go .refl l1
def bE2 (S:Snd v) (G:Good X st d) (hs:swapsWith a none pos.line X.env=pure false):SS X (.Expr a pos) fun δ h=>(v.E st a δ h).bind fun p=>some (.nx δ,p.2):=by
 intro κ M δ h s fl h' R F e;obtain ⟨⟨w,h1⟩,e1,e⟩:=bind_some e;cases e;exact wpAny_Expr_any (thn (S.E G a R F e1) fun u s1 ⟨M1,l1,R1,r1⟩=>⟨κ,M1,.refl,l1,R1,F.go l1⟩) (quiet F) hs
def wV {α:Type} {l:List α} {i:Nat} {x:α} (e:l[i]?=some x):l.drop i=x::l.drop (i+1):=by
 obtain ⟨hi,rfl⟩:=List.getElem?_eq_some_iff.mp e;exact List.drop_eq_getElem_cons hi
def bR0 {f:XR (List PyData×Cw)} (hd:X.A.handled=none) (hi:SI X tg iter f) (hg:SG X tg g) (hb:SSs X body tb) (hs:∀ x,foldedSetIterable iter X.env x=pure x) :
  SS X (.For tg iter body [] pos) fun δ h=>(f δ h).bind fun p=>bB g tb p.1.2 p.1.1 p.1.1 δ p.2:=by
 intro κ M δ h s fl h' R F e;obtain ⟨⟨⟨all,c⟩,h1⟩,e1,e⟩:=bind_some e;refine wpAny_For (thn (hi R F e1) fun v s1 q1=>thn q1 fun itv s2 q2=>?_) hs;obtain ⟨M2,it,fp,tn,l2,R2,rfl,T,t2,f2,_⟩:=q2;dsimp only at T e;have hp:PassesOwn (model X.S.P X.S.w) X.A X.env NE:=PassesOwn.never;obtain ⟨I,hI⟩:∃ I:Nat->Shared->Prop,I=fun n s'=>∃ i κ' M' δ' hh,n=all.length - i/\i<=all.length/\Own X κ κ'/\Le M2 M'/\Mem X.S κ' M' hh s'/\Fra X κ' M' δ'/\tn i s'.heap/\(∀ b∈fp,bA κ' M' b)/\bB g tb c all (all.drop i) δ' hh=some (fl,h'):=⟨_,rfl⟩;refine codeAny_forLoop_any I ?_ all.length (by rw [hI];exact ⟨0,κ,M2,δ,h1,rfl,Nat.zero_le _,.refl,.refl,R2,F.go l2,t2,f2,e⟩);intro n s3 hn;rw [hI] at hn;obtain ⟨i,κ3,M3,δ3,h3,rfl,hle,o3,l3,R3,F3,t3,f3,e3⟩:=hn;cases q:all[i]? with
 | none =>
  have hl:all.length<=i:=List.getElem?_eq_none_iff.mp q;rw [List.drop_of_length_le hl] at e3;obtain ⟨co,e3⟩:=aE (show (if condB c all h3=true then some (Fl.nx δ3,h3) else none)=some (fl,h') from e3);cases e3;refine wpAny_passesOwn hp (thn (T.done hd R3 l3 f3 t3 hl co) fun r s4 ⟨hr,R4⟩=>?_);subst hr;exact wpAny_execs_nil ⟨κ3,M3,o3,l2.trans l3,R4,F3⟩
 | some x =>
  have hlt:i < all.length:=(List.getElem?_eq_some_iff.mp q).1;rw [wV q] at e3;obtain ⟨co,e3⟩:=aE (show (if condB c all h3=true then (g (.d x) δ3 h3).bind (fun p=>(tb p.1 p.2).bind fun q=>(match q.1 with
    | .nx δ'=>bB g tb c all (all.drop (i+1)) δ' q.2
    | .ct δ'=>bB g tb c all (all.drop (i+1)) δ' q.2
    | .bk δ'=>some (.nx δ',q.2)
    | .rt w=>some (.rt w,q.2))) else none)=some (fl,h') from e3)
  obtain ⟨⟨δ4,h4⟩,e4,e3⟩:=bind_some e3;obtain ⟨⟨f5,h5⟩,e5,e3⟩:=bind_some e3;refine wpAny_passesOwn hp (thn (T.item hd R3 l3 f3 t3 q co) fun r s4 ⟨u,hr,q4⟩=>?_);subst hr;refine wpAny_passesOwn hp (thn q4 fun _ s5 ⟨M5,l5,R5,r5,t5,fr5⟩=>?_);have F5:=F3.go l5;refine wpAny_passesOwn hp (thn (hg (R5.pin fr5) (F5.pin fr5) (show RepW X.S M5 (.d x) u from r5) e4) fun _ s6 ⟨κ6,M6,o6,l6,R6,F6⟩=>?_);refine wpAny_passesOwn hp (thn (hb R6 F6 e5) fun f s7 ⟨κ7,M7,o7,l7,R7,q7⟩=>?_);obtain ⟨u1,u2,u3,u4,u5⟩:=aE9 F5 fr5 (T.obj _ _ t5) (o6.trans o7) R7;have l37:=l5.trans (l6.trans l7);have again:∀ {δ'},Fra X κ7 M7 δ'->bB g tb c all (all.drop (i+1)) δ' h5=some (fl,h')->∃ m,m < all.length - i/\I m s7:=fun F7 e7 =>
   ⟨all.length - (i+1),by omega,by rw [hI];exact ⟨i+1,_,M7,_,h5,rfl,hlt,o3.trans u1,l3.trans l37,u2,u5 _ F7,T.keep _ _ _ t5 u4,u3,e7⟩⟩
  cases f5 with
  | nx δ5=>cases f<;>first | exact q7.elim | exact again q7 e3
  | ct δ5=>cases f<;>first | exact q7.elim | exact again q7 e3
  | bk δ5=>cases e3;cases f<;>first | exact q7.elim | exact ⟨_,M7,o3.trans u1,l2.trans (l3.trans l37),u2,u5 _ q7⟩
  | rt w=>cases e3;cases f<;>first | exact q7.elim | exact ⟨_,M7,o3.trans u1,l2.trans (l3.trans l37),u2,q7⟩

def bE3 (G:Good X st d) {i:Nat} (hi:slot st x=some i) (hl:(pQ st.S x&&(st.top||cS st.S x))=true):SG X (.Name x pos) fun w δ h=>some (δ.set i (some w),h):=by
 intro κ M δ h s w u δ' h' R F r e;cases e;obtain ⟨h1,h2⟩:=aE1 G hl;exact wpAny_assign_Name (aD8 F R (lB G hi) h1 h2 r fun s' κ' o R' F' _=>⟨κ',M,o,.refl,R',F'⟩)
def wW (e:Expr) (hs:aH e=true) (es:List Expr):(assignEach (e::es) X.env).map (·.2)=assign e X.env::(assignEach es X.env).map (·.2)/\(assignEach (e::es) X.env).length=(assignEach es X.env).length+1/\((assignEach es X.env).findIdx? (·.1)=none->(assignEach (e::es) X.env).findIdx? (·.1)=none):=by
 have t:assignEach (e::es) X.env=(false,assign e X.env)::assignEach es X.env:=by cases e<;>first | rfl | cases hs
 rw [t];refine ⟨rfl,rfl,fun z=>?_⟩;rw [List.findIdx?_cons,z];rfl
theorem wX:∀ (es:List Expr),es.all aH=true->(assignEach es X.env).length=es.length/\(assignEach es X.env).findIdx? (·.1)=none
 | [],_=>⟨rfl,rfl⟩
 | e::es,h=>by
  rw [List.all_cons,Bool.and_eq_true] at h;obtain ⟨h1,h2⟩:=wX es h.2;obtain ⟨_,h4,h5⟩:=wW (X:=X) e h.1 es;exact ⟨by rw [h4,h1];rfl,h5 h2⟩
theorem aF0 (S:Snd v) (G:Good X st d):∀ (es:List Expr),es.all aH=true->∀ {κ M δ h s xs us δ' h'},Mem X.S κ M h s->Fra X κ M δ->Reps' X.S M xs us->cT (lV v st es) xs δ h=some (δ',h') ->
  es.length=xs.length/\Wp X.S X.A (assignInOrder ((assignEach es X.env).map (·.2)) us) (fun _ s'=>∃ κ' M',Own X κ κ'/\Le M M'/\Mem X.S κ' M' h' s'/\Fra X κ' M' δ') NE s
 | [],_,κ,M,δ,h,s,xs,us,δ',h',R,F,r,e=>by
  cases xs with
  | nil=>cases e;cases r;exact ⟨rfl,assignInOrder_nil ⟨κ,M,.refl,.refl,R,F⟩⟩
  | cons _ _=>cases e
 | t::es,ha,κ,M,δ,h,s,xs,us,δ',h',R,F,r,e=>by
  rw [List.all_cons,Bool.and_eq_true] at ha;cases xs with
  | nil=>cases e
  | cons x xs =>
   cases r with
   | @cons _ u _ us r1 r2 =>
    obtain ⟨⟨δ1,h1⟩,e1,e⟩:=bind_some (show (v.G st t (.d x) δ h).bind (fun p=>cT (lV v st es) xs p.1 p.2)=some (δ',h') from e);have len:es.length=xs.length:=by
     have go:∀ (es:List Expr) (xs:List PyData) δ h r,cT (lV v st es) xs δ h=some r->es.length=xs.length:=by
      intro es;induction es with
      | nil=>intro xs δ h r e;cases xs with | nil=>rfl | cons _ _=>cases e
      | cons t es ih =>
       intro xs δ h r e;cases xs with
       | nil=>cases e
       | cons x xs =>
        obtain ⟨p,_,e⟩:=bind_some (show (v.G st t (.d x) δ h).bind (fun p=>cT (lV v st es) xs p.1 p.2)=some r from e);rw [List.length_cons,List.length_cons,ih _ _ _ _ e]
     exact go _ _ _ _ _ e
    refine ⟨by rw [List.length_cons,List.length_cons,len],?_⟩;rw [(wW (X:=X) t ha.1 es).1];refine assignInOrder_cons (thn (S.G G t R F (show RepW X.S M (.d x) u from r1) e1) fun _ s1 ⟨κ1,M1,o1,l1,R1,F1⟩=>?_);exact thn (aF0 S G es ha.2 R1 F1 (Reps'.go l1 r2) e).2 fun _ s2 ⟨κ2,M2,o2,l2,q⟩=>⟨κ2,M2,o1.trans o2,l1.trans l2,q⟩
def bR1 (S:Snd v) (G:Good X st d) {es:List Expr} {k} (ha:es.all aH=true):SG X (.Tuple es k pos) (aP (lV v st es)):=by
 intro κ M δ h s w u δ' h' R F r e;unfold aP at e;split at e
 ·obtain ⟨a,us,n,rfl,z,hz,rr⟩:=dY (h:=h) R r rfl;obtain ⟨h1,h2⟩:=wX (X:=X) es ha;obtain ⟨hl,_⟩:=aF0 S G es ha R F rr e;refine assign_Tuple_tuple G.rm.hd (eY (R.z _ _ z)) (by rw [h1,hl,rr.length];simp) h2 fun h2 hx=>?_;exact (aF0 S G es ha (R.kept (t:=s.toks) fun b o e=>hx b o (Nat.ne_of_lt (Heap.lt_size e)) e) F (by simpa using rr) e).2
 ·cases e
def mG (its:List Value) (n j:Nat) (u:Value):Obj.mapSeq (·.setIfInBounds j u) (aU its n)=aU (its.set j u) n:=by simp [Obj.mapSeq]
def Mem.upd {S:Sx} {i:Nat} {p:Addr×Addr} {us us':List Value} {n n' t:Nat} {xs:List PyData} {f:Obj->Obj} (R:Mem S κ M h s) (ei:M.m[i]?=some p) (hl:∃ ys,h[i]?=some (.l ys)) (ho:s.heap.get? p.1=some (aU us n)) (hf:f (aU us n)=aU us' n') (r:Reps' S M xs us') (z:us'.length<=sizeLine) :
  Mem S κ M (h.set i (.l xs)) { s with heap:=s.heap.update p.1 f,toks:=t }:=by
 have e:(s.heap.update p.1 f).get? p.1=some (aU us' n'):=by rw [Heap.get?_update_self f ho (by rw [hf]<;>rfl),hf]
 obtain ⟨_,_,o2,ho2⟩:=R.off p (List.mem_of_getElem? ei) p.2 (.inr rfl);refine R.wr ei (fun b o n1 _ q=>(Heap.get?_update_other _ _ (Ne.symm n1)).trans q) ⟨⟨_,e⟩,?_⟩ R.bare rfl ⟨us',n',e,z,r⟩
 by_cases hq:p.2=p.1
 ·exact ⟨_,by rw [hq];exact e⟩
 ·exact ⟨o2,(Heap.get?_update_other _ _ (Ne.symm hq)).trans ho2⟩
def sC {S:Sx} {Z:Zm} {k:Key} {y x:PyData} {u:Value} (ek:cP y=some k) (rx:Rep S Z x u) {kvs:List (PyData×PyData)} {vs:List (Key×Value)} (r:RepK S Z kvs vs):RepK S Z (uD kvs y x) (stored vs k u):=by
 unfold uD stored;have ea:(kvs.any fun p=>decide (cP p.1=cP y))=vs.any fun kv=>decide (kv.1=k):=by
  rw [ek];induction r with
  | nil=>rfl
  | cons h t ih=>rw [List.any_cons,List.any_cons,ih,h.1];simp
 rw [ea,ek];split
 ·rename_i hq;clear ea hq;induction r with
  | nil=>exact .nil
  | @cons p q ps qs h t ih =>
   rw [List.map_cons,List.map_cons];refine .cons ?_ ih
   by_cases e:q.1=k
   ·rw [if_pos (by rw [h.1,e]),if_pos e];exact ⟨h.1,rx⟩
   ·rw [if_neg (by rw [h.1];exact fun z=>e (Option.some.inj z)),if_neg e];exact h
 ·exact Paired.snoc r ⟨ek,rx⟩
def bE4 {S:Sx} {A:Around} {E:Value->Shared->Prop} {i j:Nat} {p:Addr×Addr} {xs:List PyData} {k:Int} {t:Tok} {x:PyData} {u:Value} {Q:Unit->Shared->Prop} (R:Mem S κ M h s) (ei:M.m[i]?=some p) (eh:h[i]?=some (.l xs)) (ej:ixN xs.length k=some j) (rx:Rep S M.Z x u)
  (q:∀ s',Mem S κ M (h.set i (.l (xs.set j x))) s'->Q () s'):Wp S A (setItem (.ref p.1) (.int k t) u) Q E s:=by
 obtain ⟨us,n,ho,hz,rr⟩:=R.cel i p _ ei eh;have hl:=rr.length;obtain ⟨h1,h2,h3,h4⟩:=lA ej;have hn:=mB;have R':=R.upd (t:=s.toks) ei ⟨_,eh⟩ ho (mG us n j u) (bB3 rx j rr) (by rw [List.length_set];exact hz)
 by_cases h0:0<=k
 ·have hk:k.toNat=j:=by rw [seqIndex_of h0 h4] at h1;exact Option.some.inj h1
  exact PySem.W.ki_setAt ho h0 (by omega) (by rw [List.size_toArray,<- hl];exact h4) (by rw [hk];exact q _ R')
 ·have hk:(k+(us.toArray.size:Int)).toNat=j:=by rw [seqIndex_neg (by omega) h3] at h1;rw [List.size_toArray,<- hl];exact Option.some.inj h1
  exact PySem.W.ki_setBack ho (by omega) (by rw [List.size_toArray,<- hl];exact h3) (by omega) (by rw [hk];exact q _ R')
def bE5 {S:Sx} {A:Around} {E:Value->Shared->Prop} {i:Nat} {p:Addr×Addr} {kvs:List (PyData×PyData)} {y x:PyData} {k:Key} {u uk:Value} {Q:Unit->Shared->Prop} (R:Mem S κ M h s) (ei:M.m[i]?=some p) (eh:h[i]?=some (.k kvs)) (ek:cP y=some k) (hlt:kvs.length < sizeLine) (ry:Rep S M.Z y uk) (rx:Rep S M.Z x u)
  (q:∀ s',Mem S κ M (h.set i (.k (uD kvs y x))) s'->Q () s'):Wp S A (setItem (.ref p.1) uk u) Q E s:=by
 obtain ⟨vs,dd,rk,hd,hz⟩:=R.cel i p _ ei eh;have hl:=rk.length;refine wpAny_setItem_pairs (hsz:=hz) (uK ek ry) dd fun h' dd' hs=>q _ ?_;obtain ⟨o',es',ep',ho',hx'⟩:=id dd';obtain ⟨_,_,o2,ho2⟩:=R.off p (List.mem_of_getElem? ei) p.2 (.inr rfl);refine R.wr ei (fun b o n1 _ q=>(hs.2 b n1).trans q) ⟨⟨_,ho'⟩,?_⟩ R.bare rfl ⟨_,dd',sC ek rx rk,hd,?_⟩
 ·by_cases hq:p.2=p.1
  ·exact ⟨_,by rw [hq];exact ho'⟩
  ·exact ⟨o2,(hs.2 _ hq).trans ho2⟩
 ·have:(uD kvs y x).length<=kvs.length+1:=by
   unfold uD;split
   ·rw [List.length_map];omega
   ·rw [List.length_append];simp
  rw [<- (sC ek rx rk).length];omega
def aF1 {S:Sx} {Z:Zm} {y x:PyData} {a:Addr} {u:Value} (hk:hkB 4 y=true) (ry:Rep S Z y (.ref a)) (rx:Rep S Z x u) {kvs:List (PyData×PyData)} {xs:List (HK×Addr×Value)} (r:lO S Z kvs xs):lO S Z (uE kvs y x) (storedH xs ⟨y,hk⟩ a u):=by
 unfold uE storedH;rw [aD1 hk r];cases q:(atKey xs ⟨y,hk⟩).isSome with
 | false=>exact Paired.snoc r ⟨rfl,ry,rx⟩
 | true =>
  rw [if_pos rfl,if_pos rfl];clear q;unfold lO at r ⊢;induction r with
  | nil=>exact .nil
  | @cons p z _ _ b _ ih =>
   refine .cons ?_ ih;have e:(peq p.1 y=true) ↔ z.1=⟨y,hk⟩:=by
    rw [b.1,(gK z.1.2 hk).2];exact (Subtype.ext_iff (a1:=z.1) (a2:=⟨y,hk⟩)).symm
   unfold putAt;dsimp only
   by_cases c:z.1=⟨y,hk⟩
   ·rw [if_pos (e.mpr c),if_pos c];exact ⟨b.1,b.2.1,rx⟩
   ·rw [if_neg fun z'=>c (e.mp z'),if_neg c];exact b
def aQ5 {S:Sx} {A:Around} {E:Value->Shared->Prop} {d i:Nat} {w:W} {p:Addr×Addr} {kvs:List (PyData×PyData)} {y x:PyData} {u uk:Value} {Q:Unit->Shared->Prop} (hr:Room d A) (R:Mem S κ M h s) (ei:M.m[i]?=some p) (eh:h[i]?=some (.n kvs)) (hy:(gL y&&hkB 4 y)=true) (hlt:kvs.length < sizeLine) (ry:Rep S M.Z y uk) (rx:Rep S M.Z x u)
  (q:∀ s',Mem S κ M (h.set i (.n (uE kvs y x))) s'->Q () s'):Wp S A (setItem (.ref p.1) uk u) Q E s:=by
 obtain ⟨j,p',xs,ej,ep,ei2,e3,dd,rr,hs,hz⟩:=aD0 (x:=.c i) (u:=.ref p.1) R ⟨p,ei,rfl⟩ (by unfold uF;dsimp only;rw [eh]);cases ej;rw [ei] at ep;cases ep;obtain ⟨hk,a,rfl,ik,ra⟩:=pV (x:=.d y) (h:=h) R ry rfl hy;have hl:=rr.length;refine wpAny_setItem_heap hr.nd ik dd (fun h' dd' sb=>q _ ?_) (hsz:=hz);obtain ⟨o',es',ep',ho',hx1,hx2,hx3,_,hx5⟩:=dd';obtain ⟨_,_,o2,ho2⟩:=R.off p (List.mem_of_getElem? ei) p.2 (.inr rfl);have rp:=aF1 hk ra rx rr;refine R.wr ei (fun b o n1 _ q=>(sb.2 b n1).trans q) ⟨⟨_,ho'⟩,?_⟩ R.bare rfl ⟨_,⟨o',es',ep',ho',hx1,hx2,hx3,hx5⟩,rp,hs,?_⟩
 ·by_cases hq:p.2=p.1
  ·exact ⟨_,by rw [hq];exact ho'⟩
  ·exact ⟨o2,(sb.2 _ hq).trans ho2⟩
 ·have:(uE kvs y x).length<=kvs.length+1:=by
   unfold uE;split
   ·rw [List.length_map];omega
   ·rw [List.length_append];simp
  rw [<- rp.length];omega
def Mem.updW {S:Sx} {i:Nat} {p:Addr×Addr} {us us':List Value} {n n' t:Nat} {ws:List W} {f:Obj->Obj} (R:Mem S κ M h s) (ei:M.m[i]?=some p) (ho:s.heap.get? p.1=some (aU us n)) (hf:f (aU us n)=aU us' n') (r:RepWs S M ws us') (z:us'.length<=sizeLine) :
  Mem S κ M (h.set i (.r ws)) { s with heap:=s.heap.update p.1 f,toks:=t }:=by
 have e:(s.heap.update p.1 f).get? p.1=some (aU us' n'):=by rw [Heap.get?_update_self f ho (by rw [hf]<;>rfl),hf]
 obtain ⟨_,_,o2,ho2⟩:=R.off p (List.mem_of_getElem? ei) p.2 (.inr rfl);refine R.wr ei (fun b o n1 _ q=>(Heap.get?_update_other _ _ (Ne.symm n1)).trans q) ⟨⟨_,e⟩,?_⟩ R.bare rfl ⟨us',n',e,z,r⟩
 by_cases hq:p.2=p.1
 ·exact ⟨_,by rw [hq];exact e⟩
 ·exact ⟨o2,(Heap.get?_update_other _ _ (Ne.symm hq)).trans ho2⟩
def qB {S:Sx} {A:Around} {E:Value->Shared->Prop} {i j n:Nat} {p:Addr×Addr} {us:List Value} {ws:List W} {k:Int} {t:Tok} {w:W} {u:Value} {Q:Unit->Shared->Prop} (R:Mem S κ M h s) (ei:M.m[i]?=some p) (ho:s.heap.get? p.1=some (aU us n)) (hz:us.length<=sizeLine) (rr:RepWs S M ws us) (ej:ixN ws.length k=some j) (rx:RepW S M w u)
  (q:∀ s',Mem S κ M (h.set i (.r (ws.set j w))) s'->Q () s'):Wp S A (setItem (.ref p.1) (.int k t) u) Q E s:=by
 have hl:=rr.length;obtain ⟨h1,h2,h3,h4⟩:=lA ej;have hn:=mB;have R':=R.updW (t:=s.toks) ei ho (mG us n j u) (bB3 rx j rr) (by rw [List.length_set];exact hz)
 by_cases h0:0<=k
 ·have hk:k.toNat=j:=by rw [seqIndex_of h0 h4] at h1;exact Option.some.inj h1
  exact PySem.W.ki_setAt ho h0 (by omega) (by rw [List.size_toArray,<- hl];exact h4) (by rw [hk];exact q _ R')
 ·have hk:(k+(us.toArray.size:Int)).toNat=j:=by rw [seqIndex_neg (by omega) h3] at h1;rw [List.size_toArray,<- hl];exact Option.some.inj h1
  exact PySem.W.ki_setBack ho (by omega) (by rw [List.size_toArray,<- hl];exact h3) (by omega) (by rw [hk];exact q _ R')
def bR2 (S:Snd v) (G:Good X st d) (ha:∀ v,assign (.Subscript a b pos) X.env v=(do
   let ov <- holding [v] (eval a X.env)
   let iv <- holding [v,ov] (eval b X.env)
   standAt pos
   holding [v,ov,iv] (setItem ov iv v)
   release [v,ov,iv] [])):SG X (.Subscript a b pos) fun w δ h=>(v.E st a δ h).bind fun p=>(v.E st b δ p.2).bind fun q=>(match p.1,q.1,w with
  | .c j,.d y,.d x=>fL j y x δ q.2
  | .c j,.d y,.c i=>jD j y i δ q.2
  | _,_,_=>none):=by
 intro κ M δ h s w u δ' h' R F r e;obtain ⟨⟨x1,h1⟩,e1,e⟩:=bind_some e;obtain ⟨⟨x2,h2⟩,e2,e⟩:=bind_some e;rw [ha];refine wpAny_bind (wpAny_holding (thn (S.E G a R F e1) fun ov s1 ⟨M1,l1,R1,r1⟩=>?_));refine wpAny_bind (wpAny_holding (thn (S.E G b R1 (F.go l1) e2) fun iv s2 ⟨M2,l2,R2,r2⟩=>?_));refine wpAny_bind (wpAny_standAt (wpAny_bind (wpAny_holding ?_)));have l:=l1.trans l2;have rw':=r.go l;have fin:∀ {hh:aA} {s3:Shared},Mem X.S κ M2 hh s3->Wp X.S X.A (release [u,ov,iv] []) (fun _ s'=>∃ κ' M',Own X κ κ'/\Le M M'/\Mem X.S κ' M' hh s'/\Fra X κ' M' δ) NE s3:=fun R3=>wpAny_release ⟨κ,M2,.refl,l,R3,F.go l⟩;rcases x1 with _ | j
 ·cases e
 rcases x2 with y | _
 case c=>cases e
 rcases w with x | m
 case c =>
  obtain ⟨p,ep,rfl⟩:=r1.go l2;dsimp only at e;unfold jD at e;cases ej:h2[j]? with
  | none=>rw [ej] at e;cases e
  | some c =>
   rw [ej] at e;cases c with
   | l xs =>
    cases y<;>first | cases e;done | skip
    rename_i k;obtain ⟨n,en,e⟩:=map_some e;cases e;obtain ⟨t,rfl⟩:=wi.mp r2;obtain ⟨us,q,ho,hz,rr⟩:=R2.cel j p _ ep ej;exact qB R2 ep ho hz (ws:=xs.map .d) (rP rr) (by rw [List.length_map];exact en) rw' fun s3 R3=>fin R3
   | r ws =>
    cases y<;>first | cases e;done | skip
    rename_i k;obtain ⟨n,en,e⟩:=map_some e;cases e;obtain ⟨t,rfl⟩:=wi.mp r2;obtain ⟨us,q,ho,hz,rr⟩:=R2.cel j p _ ep ej;exact qB R2 ep ho hz rr en rw' fun s3 R3=>fin R3
   | _=>cases e
 obtain ⟨p,ep,rfl⟩:=r1.go l2;dsimp only at e;unfold fL at e;cases ej:h2[j]? with
 | none=>rw [ej] at e;cases e
 | some c =>
  rw [ej] at e;cases c with
  | l xs =>
   cases y<;>first | cases e;done | skip
   rename_i k;obtain ⟨n,en,e⟩:=map_some e;cases e;obtain ⟨t,rfl⟩:=wi.mp r2;exact bE4 R2 ep ej en rw' fun s3 R3=>fin R3
  | k kvs =>
   obtain ⟨⟨hk,hlt⟩,e⟩:=aE e;cases e;obtain ⟨k,ek⟩:=Option.isSome_iff_exists.mp hk;exact bE5 R2 ep ej ek hlt r2 rw' fun s3 R3=>fin R3
  | r ws =>
   cases y<;>first | cases e;done | skip
   rename_i k;obtain ⟨n,en,e⟩:=map_some e;cases e;obtain ⟨t,rfl⟩:=wi.mp r2;obtain ⟨us,q,ho,hz,rr⟩:=R2.cel j p _ ep ej;exact qB R2 ep ho hz rr en (w:=.d x) rw' fun s3 R3=>fin R3
  | n kvs =>
   obtain ⟨⟨hk,hlt⟩,e⟩:=aE e;cases e;exact aQ5 (w:=.d .none) G.rm R2 ep ej hk hlt r2 rw' fun s3 R3=>fin R3
  | _=>cases e
end
end DL

namespace DL
open PySem PySem.Spec PyProof.Rows L2 CI
structure CompSc (N N':List Str) (ixs:List (Option Nat)) (S sc:Scope):Prop where
 kind:sc.kind=.function
 nocell:∀ y∈sc.names,y.2≠.cell
 loc:∀ y∈sc.names,y.2=.local->sc.names.lookup y.1=some .local
 free:∀ y∈sc.names,y.2=.free->S.names.lookup y.1=some .cell\/S.names.lookup y.1=some .free
 nd:N'.Nodup
 len:ixs.length=N'.length
 cap:((ixs.zip N').all fun p=>match p.1 with
  | none=>true
  | some i=>decide (N[i]?=some p.2)&&decide (sc.names.lookup p.2=some NameKind.free))=true


def CompSc.at {N N':List Str} {ixs:List (Option Nat)} {S sc:Scope} (h:CompSc N N' ixs S sc) {j i:Nat} {x:Str} (e1:N'[j]?=some x) (e2:ixs[j]?=some (some i)) :
  N[i]?=some x/\sc.names.lookup x=some .free:=by
 have hm:(some i,x)∈ixs.zip N':=by
  refine List.mem_of_getElem? (i:=j) ?_;rw [List.getElem?_zip_eq_some];exact ⟨e2,e1⟩
 have q:=List.all_eq_true.mp h.cap _ hm;simp only [Bool.and_eq_true,decide_eq_true_eq] at q;exact q

theorem gR {env:Env}:∀ (names:List (Str×NameKind)) (acc:List (Str×Addr)),(∀ y∈names,y.2=.free->∃ c,env.cells.lookup y.1=some c) ->
  (∀ x c,acc.lookup x=some c->env.cells.lookup x=some c) ->
  ∃ cl,(∀ x c,cl.lookup x=some c->env.cells.lookup x=some c)/\(∀ y∈names,y.2=.free->∃ c,cl.lookup y.1=some c)/\(∀ x c,acc.lookup x=some c->∃ d,cl.lookup x=some d) /\
   (forIn names acc fun (x:Str×NameKind) (r:List (Str×Addr))=>(if (x.2==NameKind.free)=true then (do let a <- cellOf env x.1;pure (ForInStep.yield ((x.1,a)::r))) else pure (ForInStep.yield r):Sem (ForInStep (List (Str×Addr)))))=(pure cl:Sem (List (Str×Addr)))
 | [],acc,_,ha=>⟨acc,ha,fun _ h=>(nomatch h),fun x c h=>⟨c,h⟩,rfl⟩
 | (n,k)::r,acc,h,ha=>by
  by_cases hk:k=.free
  ·subst hk;obtain ⟨c,hc⟩:=h (n,.free) List.mem_cons_self rfl;obtain ⟨cl,h1,h2,h3,h4⟩:=gR r ((n,c)::acc) (fun y hy=>h y (List.mem_cons_of_mem _ hy)) (fun x d hd=>by
    rw [List.lookup_cons] at hd;cases q:x==n with
    | true =>
     rw [q] at hd;have e1:x=n:=by simpa using q
     have e2:c=d:=Option.some.inj hd;rw [e1,<- e2];exact hc
    | false=>rw [q] at hd;exact ha x d hd)
   refine ⟨cl,h1,fun y hy hf=>?_,fun x d hd=>?_,?_⟩
   ·rcases List.mem_cons.mp hy with e | hy
    ·subst e;exact h3 n c (by simp [List.lookup_cons])
    ·exact h2 y hy hf
   ·cases q:x==n with
    | true =>
     have e1:x=n:=by simpa using q
     subst e1;exact h3 x c (by simp [List.lookup_cons])
    | false=>exact h3 x d (by rw [List.lookup_cons,q];exact hd)
   ·rw [<- h4,List.forIn_cons];have e:cellOf env n=pure c:=by unfold cellOf;rw [hc]
    show ((if (NameKind.free==NameKind.free)=true then (do let a <- cellOf env n;pure (ForInStep.yield ((n,a)::acc))) else pure (ForInStep.yield acc):Sem _) >>= _)=_;rw [if_pos (by decide),e];rfl
  ·obtain ⟨cl,h1,h2,h3,h4⟩:=gR r acc (fun y hy=>h y (List.mem_cons_of_mem _ hy)) ha;refine ⟨cl,h1,fun y hy hf=>?_,h3,?_⟩
   ·rcases List.mem_cons.mp hy with e | hy
    ·subst e;exact absurd hf hk
    ·exact h2 y hy hf
   ·rw [<- h4,List.forIn_cons];have e:(k==NameKind.free)=false:=by simpa using hk
    show ((if (k==NameKind.free)=true then (do let a <- cellOf env n;pure (ForInStep.yield ((n,a)::acc))) else pure (ForInStep.yield acc):Sem _) >>= _)=_;rw [if_neg (by rw [e];exact Bool.false_ne_true)];rfl
def fM {sc:Scope} {env:Env} (h:∀ y∈sc.names,y.2=.free->∃ c,env.cells.lookup y.1=some c) :
  ∃ cl,closureFor sc env=pure cl/\(∀ x c,cl.lookup x=some c->env.cells.lookup x=some c)/\(∀ y∈sc.names,y.2=.free->∃ c,cl.lookup y.1=some c):=by
 obtain ⟨cl,h1,h2,_,h4⟩:=gR (env:=env) sc.names [] h (fun x c e=>by simp at e);refine ⟨cl,?_,h1,h2⟩;unfold closureFor;exact (congrArg (fun m:Sem (List (Str×Addr))=>m >>= fun r=>pure r) h4).trans rfl

theorem dQ {env:Env} {x:Str}:∀ {names:List (Str×NameKind)} {k:NameKind},names.lookup x=some k ->
  (names.map fun (n,k)=>if (k==NameKind.free&&env.scope.kind==.function&&env.kindOf n==some .cell) then (n,NameKind.cell) else (n,k)).lookup x
   = some (if (k==NameKind.free&&env.scope.kind==.function&&env.kindOf x==some .cell) then NameKind.cell else k)
 | [],_,h=>by simp at h
 | (n,k0)::r,k,h=>by
  rw [List.lookup_cons] at h;rw [List.map_cons];cases q:x==n with
  | true =>
   have e1:x=n:=by simpa using q
   subst e1;rw [q] at h;have e2:k0=k:=Option.some.inj h;subst e2;dsimp only
   by_cases hc:(k0==NameKind.free&&env.scope.kind==.function&&env.kindOf x==some .cell)=true
   ·rw [if_pos hc,if_pos hc,List.lookup_cons,q]
   ·rw [if_neg hc,if_neg hc,List.lookup_cons,q]
  | false =>
   rw [q] at h;have ih:=dQ (env:=env) h;dsimp only
   by_cases hc:(k0==NameKind.free&&env.scope.kind==.function&&env.kindOf n==some .cell)=true
   ·rw [if_pos hc,List.lookup_cons,q];exact ih
   ·rw [if_neg hc,List.lookup_cons,q];exact ih
theorem jF {env:Env} {x:Str}:∀ {names:List (Str×NameKind)},names.lookup x=none ->
  (names.map fun (n,k)=>if (k==NameKind.free&&env.scope.kind==.function&&env.kindOf n==some .cell) then (n,NameKind.cell) else (n,k)).lookup x=none
 | [],_=>rfl
 | (n,k0)::r,h=>by
  rw [List.lookup_cons] at h;rw [List.map_cons];cases q:x==n with
  | true=>rw [q] at h;cases h
  | false =>
   rw [q] at h;have ih:=jF (env:=env) h;dsimp only
   by_cases hc:(k0==NameKind.free&&env.scope.kind==.function&&env.kindOf n==some .cell)=true
   ·rw [if_pos hc,List.lookup_cons,q];exact ih
   ·rw [if_neg hc,List.lookup_cons,q];exact ih

def zB {prog:Program} {w:World} {A:Around} {R:Result->Shared->Prop} {s:Shared} {elt target iter:Expr} {ifs:List Expr} {scope:Scope} {pos:Pos} {it acc:Value} {env:Env} (I:Nat->Shared->Prop)
  (turn:∀ n s,I n s->wpAny (model prog w) A (pyNext it) (fun r s₁=>match r with
   | none=>R (.ok .next) s₁
   | some v=>wpAny (model prog w) A (letOwnedTupleGo target it v) (fun _ t₁=>wpAny (model prog w) A (assign target env v) (fun _ s₂ =>
     wpAny (model prog w) A (forIn ifs true fun c r=>if r=true then do let ok <- isTrue c env (eval c env);pure (ForInStep.yield ok) else pure (ForInStep.yield r)) (fun ok s₃ =>
      if ok=true then wpAny (model prog w) A (eval elt env) (fun x s₄ =>
       wpAny (model prog w) A (call (.builtin "list.append") [acc,x]) (fun _ s₅=>∃ m,m < n/\I m s₅) (fun _ _=>False) s₄) (fun _ _=>False) s₃
      else ∃ m,m < n/\I m s₃) (fun _ _=>False) s₂) (fun _ _=>False) t₁) (fun _ _=>False) s₁) (fun _ _=>False) s)
  (n:Nat) (h:I n s):codeAny (model prog w) A (.compLoop (.ListComp elt [⟨target,iter,ifs,0⟩] scope pos) 0 it acc env) R s:=by
 refine codeAny_loop rfl I (fun n s hI=>?_) n h;show wpAny _ A ((compTurn (.ListComp elt [⟨target,iter,ifs,0⟩] scope pos) 0 it acc env).onRaise (fun x=>do noteFrame x env;theTreesLotGoes x)) _ _ s;refine wpAny_noted (wpAny_noRaise ?_);rw [compTurn_list];refine wpAny_bind (wpAny_standAt (wpAny_bind (thn (turn n s hI) fun r s₁ h₁=>?_)));cases r with
 | none=>exact wpAny_pure h₁
 | some v =>
  refine wpAny_bind (thn h₁ fun _ t₁ h₂=>wpAny_bind (thn h₂ fun _ s₂ h₃=>wpAny_bind (thn h₃ fun ok s₃ h₄=>?_)));cases ok with
  | false=>exact wpAny_pure ⟨rfl,h₄⟩
  | true=>exact wpAny_bind (wpAny_bind (thn h₄ fun x s₄ h₅=>wpAny_bind (thn h₅ fun _ s₅ h₆=>wpAny_pure (wpAny_pure ⟨rfl,h₆⟩))))

def wY {ixs:List (Option Nat)} {δ:DSt} {j:Nat} {w:W} (e:(aK ixs δ)[j]?=some (some w)):∃ i,ixs[j]?=some (some i)/\δ[i]?=some (some w):=by
 unfold aK at e;rw [List.getElem?_map] at e;cases h:ixs[j]? with
 | none=>rw [h] at e;cases e
 | some o =>
  rw [h] at e;cases o with
  | none=>cases e
  | some i =>
   refine ⟨i,rfl,?_⟩;have e':(δ[i]?).bind id=some w:=Option.some.inj e;cases q:δ[i]? with
   | none=>rw [q] at e';cases e'
   | some w=>rw [q] at e';exact congrArg some e'
def Pl (S:Sx) (κ:Kp) (M:Mp) (h:aA) (ws:List W) (u:Value) (s:Shared):Prop :=
 ∃ M',Le M M'/\Mem S κ M' h s/\∃ a us n,u=.ref a/\s.heap.get? a=some (aU us n)/\bA κ M' a/\us.length<=sizeLine/\RepWs S M' ws us
def gF (g:XG) (tt:XR Bool) (te:XR W) (c:Cw) (all:List PyData):List PyData->DSt->aA->List W->Option (List W×aA)
 | [],_,h,ac=>if condB c all h=true then some (ac,h) else none
 | x::r,δ,h,ac=>if condB c all h=true then
   (g (.d x) δ h).bind fun p=>(tt p.1 p.2).bind fun q=>if q.1=true then
     (te p.1 q.2).bind fun y=>gF g tt te c all r p.1 y.2 (ac++[y.1])
    else gF g tt te c all r p.1 q.2 ac
  else none
theorem qC {g:XG} {tt:XR Bool} {te:XR W} {c:Cw} {all:List PyData}:∀ (r:List PyData) (δ:DSt) (h:aA) (ac:List W),gF g tt te c all r δ h ac=dP g tt te (condB c all) (r.map .d) δ h ac
 | [],δ,h,ac=>rfl
 | x::r,δ,h,ac=>by
  rw [List.map_cons,gF,dP];simp only [qC r]
theorem jG {g:XG} {tt:XR Bool} {te:XR W} {c:Cw} {all:List PyData}:∀ {r:List PyData} {δ:DSt} {h:aA} {ac xs:List PyData} {h':aA},aG g tt te c all r δ h ac=some (xs,h')->gF g tt te c all r δ h (ac.map .d)=some (xs.map .d,h')
 | [],δ,h,ac,xs,h',e=>by
  unfold aG at e;obtain ⟨co,e⟩:=aE e;cases e;unfold gF;rw [if_pos co]
 | x::r,δ,h,ac,xs,h',e=>by
  unfold aG at e;obtain ⟨co,e⟩:=aE e;obtain ⟨p,e1,e⟩:=bind_some e;obtain ⟨q,e2,e⟩:=bind_some e;unfold gF;rw [if_pos co,e1];show (tt p.1 p.2).bind _=_;rw [e2];show (if q.1=true then _ else _)=_
  by_cases hq:q.1=true
  ·rw [if_pos hq] at e ⊢;obtain ⟨⟨y,hy⟩,e3,e⟩:=bind_some e;rw [e3];cases y with
   | c i=>cases e
   | d z =>
    have:=jG (show aG g tt te c all r p.1 hy (ac++[z])=_ from e);rw [List.map_append] at this;exact this
  ·rw [if_neg hq] at e ⊢;exact jG e
theorem jY {g:XG} {tt:XR Bool} {te:XR W} {c:Cw} {all:List PyData}:∀ {r:List PyData} {δ:DSt} {h:aA} {ac xs:List Nat} {h':aA},iW g tt te c all r δ h ac=some (xs,h')->gF g tt te c all r δ h (ac.map .c)=some (xs.map .c,h')
 | [],δ,h,ac,xs,h',e=>by
  unfold iW at e;obtain ⟨co,e⟩:=aE e;cases e;unfold gF;rw [if_pos co]
 | x::r,δ,h,ac,xs,h',e=>by
  unfold iW at e;obtain ⟨co,e⟩:=aE e;obtain ⟨p,e1,e⟩:=bind_some e;obtain ⟨q,e2,e⟩:=bind_some e;unfold gF;rw [if_pos co,e1];show (tt p.1 p.2).bind _=_;rw [e2];show (if q.1=true then _ else _)=_
  by_cases hq:q.1=true
  ·rw [if_pos hq] at e ⊢;obtain ⟨⟨y,hy⟩,e3,e⟩:=bind_some e;rw [e3];cases y with
   | d i=>cases e
   | c z =>
    have:=jY (show iW g tt te c all r p.1 hy (ac++[z])=_ from e);rw [List.map_append] at this;exact this
  ·rw [if_neg hq] at e ⊢;exact jY e
noncomputable def blk (X:Cx) (N':List Str) (sc:Scope) (cl:List (Str×Addr)) (C:Addr):Cx:={ X with N:=N',env:=compEnvC sc cl C X.env,fn:=false }
def SIf (X:Cx) (ifs:List Expr) (f:XR Bool):Prop:=∀ ⦃κ M δ h s w h'⦄,Mem X.S κ M h s->Fra X κ M δ->f δ h=some (w,h')->Wp X.S X.A (forIn ifs true fun c r=>if r=true then do let ok <- isTrue c X.env (eval c X.env);pure (ForInStep.yield ok) else pure (ForInStep.yield r)) (Pt X.S κ M h' w) NE s
section
variable {X:Cx} {κ:Kp} {M:Mp} {δ:DSt} {h h':aA} {s:Shared} {N':List Str} {ixs:List (Option Nat)} {sc:Scope} {cl:List (Str×Addr)} {C:Addr} {tg iter elt:Expr} {ifs:List Expr} {pos:Pos} {g:XG} {tt:XR Bool} {te:XR W} {f:XR (List PyData×Cw)}
def zC {κ':Kp} {o:Obj} (F:Fra X κ M δ) (SC:CompSc X.N N' ixs X.env.scope sc) (hcl1:∀ x c,cl.lookup x=some c->X.env.cells.lookup x=some c) (hcl2:∀ y∈sc.names,y.2=.free->∃ c,cl.lookup y.1=some c)
  (k:∀ a,κ a≠none->κ' a=κ a) (hC:κ' C=some (false,o)) (ho:aD7 o fun _=>none) (hb:X.S.base.objs.size<=C):Fra (blk X N' sc cl C) κ' M (aK ixs δ):=by
 have kfree:∀ {x:Str} {k:NameKind},(relabel sc X.env).names.lookup x=some k->k=.cell\/k=.free->(x,NameKind.free)∈sc.names:=fun {x k} e hk=>by
  cases q:sc.names.lookup x with
  | none =>
   have z:=jF (env:=X.env) q;have z':(relabel sc X.env).names.lookup x=none:=z;rw [e] at z';cases z'
  | some k0 =>
   have z:=dQ (env:=X.env) q;have z':(relabel sc X.env).names.lookup x=_:=z;rw [e] at z';have m:=PySem.mem_of_lookup q;have hz:=Option.some.inj z'
   by_cases hc:(k0==NameKind.free&&X.env.scope.kind==.function&&X.env.kindOf x==some .cell)=true
   ·have h0:k0=.free:=by
     simp only [Bool.and_eq_true,beq_iff_eq] at hc;exact hc.1.1
    rw [<- h0];exact m
   ·rw [if_neg hc] at hz;subst hz;rcases hk with hk | hk
    ·exact absurd hk (SC.nocell _ m)
    ·rw [<- hk];exact m
 refine ⟨⟨F.ok.mod,SC.kind,F.ok.glob,F.ok.blt,fun x y c e1 e2=>F.ok.inj x y c (hcl1 x c e1) (hcl1 y c e2),fun x hx=>?_,hb,SC.nd⟩,?_,⟨o,_,hC,ho,fun j x w e1 e2 e3=>?_⟩,fun x c e=>?_,F.frs.kp fun a z=>k a (F.mine (.inr (.inr z)))⟩
 ·rcases hx with hx | hx
  ·exact hcl2 _ (kfree hx (.inl rfl)) rfl
  ·exact hcl2 _ (kfree hx (.inr rfl)) rfl
 ·show (aK ixs δ).length=N'.length;unfold aK;rw [List.length_map];exact SC.len
 ·obtain ⟨i,ei,ev⟩:=wY e2;obtain ⟨eN,ef⟩:=SC.at e1 ei;have hm:=PySem.mem_of_lookup ef;have hvis:X.env.scope.names.lookup x=some .cell\/X.env.scope.names.lookup x=some .free:=SC.free _ hm rfl;obtain ⟨_,m,_,_,hl⟩:=F.loc;obtain ⟨u,r,l⟩:=hl i x w eN ev (.inr hvis);refine ⟨u,r,?_⟩;rcases l with ⟨hk,_⟩ | ⟨_,c,oc,ec,eo,ed⟩
  ·have hk':X.env.scope.names.lookup x=some .local:=hk;rcases hvis with z | z
   ·rw [hk'] at z;cases z
   ·rw [hk'] at z;cases z
  ·obtain ⟨c',ec'⟩:=hcl2 _ hm rfl;have e5:=hcl1 _ _ ec';rw [ec] at e5;have e6:c=c':=Option.some.inj e5;subst e6;refine .inr ⟨?_,c,oc,ec',by rw [k c (by rw [eo];exact fun z=>nomatch z)];exact eo,ed⟩;have z:=dQ (env:=X.env) ef;have z':(relabel sc X.env).names.lookup x=_:=z
   by_cases hc:(NameKind.free==NameKind.free&&X.env.scope.kind==.function&&X.env.kindOf x==some .cell)=true
   ·rw [if_pos hc] at z';exact .inl z'
   ·rw [if_neg hc] at z';exact .inr z'
 ·obtain ⟨oc,v,e1,e2⟩:=F.cell x c (hcl1 x c e);exact ⟨oc,v,by rw [k c (by rw [e1];exact fun z=>nomatch z)];exact e1,e2⟩
def zD {S:Sx} {A:Around} {E:Value->Shared->Prop} {a:Addr} {us:List Value} {n:Nat} {u:Value} {Q:Value->Shared->Prop} (R:Mem S κ M h s) (ea:κ a=some (true,aU us n)) (hz:us.length < sizeLine)
  (q:∀ s' n',Mem S (κ.up a (true,aU (us++[u]) n')) M h s'->(∀ b o,b≠a->s.heap.get? b=some o->s'.heap.get? b=some o)->Q .none s'):Wp S A (call (.builtin "list.append") [.ref a,u]) Q E s:=by
 have e:=(R.k a _ _ ea).1 rfl;refine call_meets F.slot_list_append ⟨_,e,rfl⟩ F.entry_list_append (F.args_list_append_2 _ _) (PySem.list_append a us.toArray n u (by rw [List.size_toArray];omega)) ⟨e,?_⟩;have q2:=PySem.IsL.update e (·.push u);have ep:us.toArray.push u=(us++[u]).toArray:=by simp
 rw [ep] at q2;have k:∀ b o,b≠a->s.heap.get? b=some o->(s.heap.update a (Obj.mapSeq (·.push u))).get? b=some o:=fun b o hb e=>(Heap.get?_update_other s.heap _ (Ne.symm hb)).trans e;exact q _ _ (R.own ea k q2 R.bare rfl) k
def mH (hd:X.A.handled=none) (SC:CompSc X.N N' ixs X.env.scope sc) (hcl1:∀ x c,cl.lookup x=some c->X.env.cells.lookup x=some c) (hcl2:∀ y∈sc.names,y.2=.free->∃ c,cl.lookup y.1=some c)
  (hg:∀ cl C,SG (blk X N' sc cl C) tg g) (ht:∀ cl C,SIf (blk X N' sc cl C) ifs tt) (he:∀ cl C,SE (blk X N' sc cl C) elt te) {all:List W} {co:aA->Bool} {it:Addr} {fp:List Addr} {tn:Nat->Heap->Prop} {ws:List W} {R':Value->Addr->Result->Shared->Prop}
  (F:Fra X κ M δ) (R:Mem X.S κ M h s) (T:TurnW X.S tg all co M fp it tn) (t0:tn 0 s.heap) (f0:∀ b∈fp,bA κ M b) (hz:all.length<=sizeLine) (e:dP g tt te co all (aK ixs δ) h []=some (ws,h'))
  (hR:∀ {s':Shared} {m:Str->Option Value} {M':Mp} {us:List Value} {n:Nat},Le M M'->Mem X.S κ M' h' s'->s'.heap.get? s.heap.objs.size=some (aU us n)->bA κ M' s.heap.objs.size->bA κ M' (s.heap.objs.size+1)->us.length<=sizeLine->RepWs X.S M' ws us->s'.heap.Ns (s.heap.objs.size+1) m->R' (.ref s.heap.objs.size) (s.heap.objs.size+1) (.ok .next) s') :
  Wp X.S X.A (newList []) (fun acc s₃=>Wp X.S X.A (newFunctionEnv sc X.env.globals cl [] X.env.qual none .none (some X.env)) (fun cenv s₄ =>
   codeAny (model X.S.P X.S.w) X.A (.compStart (.ListComp elt [⟨tg,iter,ifs,0⟩] sc pos) 0 (.ref it) acc { cenv with scope:=relabel sc X.env }) (R' acc cenv.locals) s₄) NE s₃) NE s:=by
 refine wpAny_newObj_type (wpAny_newFunctionEnv SC.nocell (by intro y hy;simp at hy) (fun h₁ hns₁ hsb₁=>?_) SC.kind);dsimp only at hns₁ hsb₁ ⊢;have eC:(s.heap.push { cls:=.type "list",dict:=none,data:=.seq ([]:List Value).toArray }).objs.size=s.heap.objs.size+1:=by rw [Heap.size_push]
 rw [eC] at hns₁ hsb₁ ⊢;obtain ⟨acc,ea⟩:∃ a,a=s.heap.objs.size:=⟨_,rfl⟩;rw [<- ea] at hns₁ hsb₁ hR ⊢;have nAC:acc≠acc+1:=Nat.ne_of_lt (Nat.lt_succ_self _);have old:∀ b o,s.heap.get? b=some o->h₁.get? b=some o:=fun b o e=>hsb₁.extBut b o (by rw [ea];exact Nat.ne_of_lt (Nat.lt_succ_of_lt (Heap.lt_size e))) (Heap.get?_push_of_some _ (Heap.get?_push_of_some _ e));have hacc:h₁.get? acc=some (aU [] 0):=by
  refine hsb₁.extBut _ _ nAC ?_;rw [ea];exact Heap.get?_push_of_some _ (Heap.get?_push_size _ rfl)
 obtain ⟨oC,es,ep,hoC,hd1,hk1,hm1⟩:=id hns₁;have fA:bA κ M acc:=ea ▸ R.size;have fC:bA κ M (acc+1):=R.new (Heap.get?_none_of_le (by rw [ea];exact Nat.le_succ _));have R1:Mem X.S κ M h { s with heap:=h₁,toks:=s.toks+([]:List (Str×Value)).length }:=R.kept old;have R2:=(R1.more (b:=true) ⟨fA.1,fA.2.2⟩ hacc).more (b:=false) ⟨fC.1,fC.2.2⟩ hoC;have hfl:∀ b∈fp,b≠acc/\b≠acc+1:=fun b hb=>by
  obtain ⟨o,q⟩:=T.obj _ _ t0 b hb;have:=Heap.lt_size q;rw [<- ea] at this;exact ⟨Nat.ne_of_lt this,Nat.ne_of_lt (Nat.lt_succ_of_lt this)⟩
 have F2:Fra (blk X N' sc cl (acc+1)) ((κ.up acc (true,aU [] 0)).up (acc+1) (false,oC)) M (aK ixs δ):=zC F SC hcl1 hcl2 (fun a ha=>by
  rw [bJ fun z=>ha (by rw [z];exact fC.2.1),bJ fun z=>ha (by rw [z];exact fA.2.1)]) eK ⟨es,ep,hd1,hk1,hm1⟩ (by rw [ea];exact Nat.le_succ_of_le (F.size R))
 have f2:∀ b∈fp,bA ((κ.up acc (true,aU [] 0)).up (acc+1) (false,oC)) M b:=fun b hb=>⟨(f0 b hb).1,by rw [bJ (hfl b hb).2,bJ (hfl b hb).1];exact (f0 b hb).2.1,(f0 b hb).2.2⟩;generalize hY:blk X N' sc cl (acc+1)=Y at F2;have hg':SG Y tg g:=by subst hY;exact hg _ _
 have ht':SIf Y ifs tt:=by subst hY;exact ht _ _
 have he':SE Y elt te:=by subst hY;exact he _ _
 have eS:Y.S=X.S:=by subst hY;rfl
 have eA:Y.A=X.A:=by subst hY;rfl
 have eL:Y.env.locals=acc+1:=by subst hY;rfl
 have eF:Y.fn=false:=by subst hY;rfl
 have loop:∀ s₃:Shared,s₃={ s with heap:=h₁,toks:=s.toks+([]:List (Str×Value)).length } ->
   codeAny (model X.S.P X.S.w) X.A (.compLoop (.ListComp elt [⟨tg,iter,ifs,0⟩] sc pos) 0 (.ref it) (.ref acc) Y.env) (R' (.ref acc) (acc+1)) s₃:=by
  rintro s₃ rfl;clear hY;obtain ⟨I,hI⟩:∃ I:Nat->Shared->Prop,I=fun n s'=>∃ i κ' M' δ' hh us m ac,n=all.length - i/\i<=all.length/\(κ' acc=some (true,aU us m)/\∀ a,a≠acc->a≠acc+1->κ' a=κ a)/\Le M M'/\Mem X.S κ' M' hh s'/\Fra Y κ' M' δ'/\tn i s'.heap/\(∀ b∈fp,bA κ' M' b)/\ac.length<=i/\RepWs X.S M' ac us/\dP g tt te co (all.drop i) δ' hh ac=some (ws,h'):=⟨_,rfl⟩;refine zB I ?_ all.length (by rw [hI];exact ⟨0,_,M,_,h,[],0,[],rfl,Nat.zero_le _,⟨by rw [bJ nAC];exact eK,fun a h1 h2=>by rw [bJ h2,bJ h1]⟩,.refl,R2,F2,T.keep _ _ _ t0 (fun b _ o e=>old b o e),f2,Nat.le_refl _,.nil,e⟩);intro n s3 hn;rw [hI] at hn;obtain ⟨i,κ3,M3,δ3,h3,us,m,ac,rfl,hle,⟨ka,ko⟩,l3,R3,F3,t3,f3,hac,rac,e3⟩:=hn;have hlen:=rac.length;have back:∀ {κ7 M7 h7 s7},(κ7 acc=some (true,aU us m)/\∀ a,a≠acc->a≠acc+1->κ7 a=κ a)->Mem X.S κ7 M7 h7 s7->Mem X.S κ M7 h7 s7:=fun k R7=>R7.less fun a x q=>by
   rw [k.2 a (fun z=>by rw [z,fA.2.1] at q;cases q) (fun z=>by rw [z,fC.2.1] at q;cases q)];exact q
  cases q:all[i]? with
  | none =>
   have hl:all.length<=i:=List.getElem?_eq_none_iff.mp q;rw [List.drop_of_length_le hl] at e3;obtain ⟨co3,e3⟩:=aE (show (if co h3=true then some (ac,h3) else none)=some (ws,h') from e3);cases e3;refine thn (T.done hd R3 l3 f3 t3 hl co3) fun r s4 ⟨hr,R4⟩=>?_;subst hr;obtain ⟨mC,hnC,_⟩:=F3.ns (h:=h') (s:=s4) (by rw [eS];exact R4);rw [eL] at hnC;have ho:=(R4.k acc _ _ ka).1 rfl;have za:=(R4.k acc _ _ ka).2.2;obtain ⟨oL,_,kL,_⟩:=F3.loc;rw [eL] at kL;have R5:=back ⟨ka,ko⟩ R4;have fr:bA κ M3 acc:=⟨za,fA.2.1,R4.kc ka⟩;exact hR l3 R5 ho fr ⟨(R4.k _ _ _ kL).2.2,fC.2.1,R4.kc kL⟩ (by omega) rac hnC
  | some x =>
   have hlt:i < all.length:=(List.getElem?_eq_some_iff.mp q).1;rw [wV q] at e3;unfold dP at e3;obtain ⟨co3,e3⟩:=aE e3;obtain ⟨⟨δ4,h4⟩,e4,e3⟩:=bind_some e3;obtain ⟨⟨tb,h5⟩,e5,e3⟩:=bind_some e3;refine thn (T.item hd R3 l3 f3 t3 q co3) fun r s4 ⟨u,hr,q4⟩=>?_;subst hr;refine thn q4 fun _ s5 ⟨M5,l5,R5,r5,t5,fr5⟩=>?_;have F5:=F3.go l5;rw [<- eS] at R5;have w6:=hg' (R5.pin fr5) (F5.pin fr5) (show RepW Y.S M5 x u by rw [eS];exact r5) e4;rw [eS,eA] at w6;refine thn w6 fun _ s6 ⟨κ6,M6,o6,l6,R6,F6⟩=>?_;rw [<- eS] at R6;have w7:=ht' R6 F6 e5;rw [eS,eA] at w7;refine thn w7 fun t' s7 ⟨et,M7,l7,R7⟩=>?_;subst et;have notC:∀ a,a≠acc+1->κ6 a=eM κ3 fp s5.heap a:=fun a ha=>by
    by_cases z:κ6 a=eM κ3 fp s5.heap a
    ·exact z
    ·rcases o6 a z with y | y
     ·rw [eL] at y;exact absurd y ha
     ·rw [eF] at y;exact absurd y.1 Bool.false_ne_true
   have k6:κ6 acc=some (true,aU us m):=by
    rw [notC acc nAC];unfold eM;rw [if_neg fun hm=>(hfl acc hm).1 rfl];exact ka
   have kun:∀ κ8:Kp,(∀ a,a≠acc->κ8 a=κ6 a)->∀ a,a≠acc->a≠acc+1->unK fp κ8 a=κ a:=fun κ8 hk a h1 h2=>by
    unfold unK;split
    ·rename_i hm;rw [<- ko a h1 h2];exact (f3 a hm).2.1.symm
    ·rename_i hm;rw [hk a h1,notC a h2];unfold eM;rw [if_neg hm];exact ko a h1 h2
   cases t' with
   | false =>
    obtain ⟨u1,u2,u3,u4,u5⟩:=aE9 F5 fr5 (T.obj _ _ t5) o6 R7;exact ⟨all.length - (i+1),by omega,by rw [hI];exact ⟨i+1,_,M7,δ4,h5,us,m,ac,rfl,hlt,⟨by unfold unK;rw [if_neg fun hm=>(hfl acc hm).1 rfl];exact k6,kun κ6 fun _ _=>rfl⟩,l3.trans (l5.trans (l6.trans l7)),u2,u5 _ (F6.go l7),T.keep _ _ _ t5 u4,u3,by omega,rac.go (l5.trans (l6.trans l7)),e3⟩⟩
   | true =>
    obtain ⟨⟨y,h8⟩,e8,e3⟩:=bind_some (show (te δ4 h5).bind (fun y=>dP g tt te co (all.drop (i+1)) δ4 y.2 (ac++[y.1]))=some (ws,h') from e3);rw [<- eS] at R7;have w8:=he' R7 (F6.go l7) e8;rw [eS,eA] at w8;refine thn w8 fun v s8 ⟨M8,l8,R8,r8⟩=>?_;refine zD R8 k6 (by omega) fun s9 m9 R9 k9=>?_;have o9:Own Y (eM κ3 fp s5.heap) κ6:=o6;obtain ⟨_,u2,u3,u4,_⟩:=aE9 (X:=Y) F5 fr5 (T.obj _ _ t5) o9 R8;have u4':∀ b∈fp,∀ o,s5.heap.get? b=some o->s9.heap.get? b=some o:=fun b hb o e=>k9 b o (hfl b hb).1 (u4 b hb o e);have Rn:Mem X.S (unK fp (κ6.up acc (true,aU (us++[v]) m9))) M8 h8 s9:=R9.less fun a x q=>by
     unfold unK at q;split at q
     ·cases q
     ·exact q
    have fn:∀ b∈fp,bA (unK fp (κ6.up acc (true,aU (us++[v]) m9))) M8 b:=fun b hb=>⟨(u3 b hb).1,by unfold unK;rw [if_pos hb],(u3 b hb).2.2⟩;have Fn:Fra Y (unK fp (κ6.up acc (true,aU (us++[v]) m9))) M8 δ4:=(F6.go (l7.trans l8)).kp fun a ha=>by
     have z:=F5.mine ha;have n1:a∉fp:=fun hm=>z (fr5 a hm).2.1;have n2:a≠acc:=fun hz=>by
      rcases ha with y | ⟨x,y⟩ | ⟨l,env,z1,z2,z3⟩
      ·rw [eL] at y;exact nAC (hz.symm.trans y)
      ·obtain ⟨o,vv,q1,q2⟩:=F3.cell x a y;rw [hz,ka] at q1;cases q1;cases q2
      ·obtain ⟨l',y1,y2⟩:=F3.frs;rw [z1] at y1;cases y1;obtain ⟨_,L,o,y3,y4,_⟩:=y2 env z2;rw [z3] at y3;cases y3;rw [hz,ka] at y4;cases y4
     unfold unK;rw [if_neg n1,bJ n2]
    have l:=l3.trans (l5.trans (l6.trans (l7.trans l8)));exact ⟨all.length - (i+1),by omega,by rw [hI];exact ⟨i+1,_,M8,δ4,h8,us++[v],m9,ac++[y],rfl,hlt,⟨by unfold unK;rw [if_neg fun hm=>(hfl acc hm).1 rfl];exact eK,kun _ fun a h1=>bJ h1⟩,l,Rn,Fn,T.keep _ _ _ t5 u4',fn,by rw [List.length_append,List.length_singleton];omega,Paired.snoc (rac.go (l5.trans (l6.trans (l7.trans l8)))) r8,e3⟩⟩
 have eEnv:Y.env={ (newEnv sc (acc+1) X.env.globals cl X.env.qual none .none (some X.env) builtinsNs) with scope:=relabel sc X.env }:=by subst hY;rfl
 rw [eEnv] at loop;exact codeAny_compStart_list (loop _ rfl) (T.self X.A 0 _ _ _ (T.keep _ _ _ t0 fun b _ o e=>old b o e) (loop _ rfl))
end
end DL

namespace DL
open PySem PySem.Spec PyProof.Rows L2 CI
section
variable {X:Cx} {st:Sta} {d:Nat} {v:Evs} {κ:Kp} {M:Mp} {δ:DSt} {h h' h2:aA} {s:Shared} {N':List Str} {ixs:List (Option Nat)} {sc:Scope} {a b e tg iter elt:Expr} {es:List Expr} {ifs:List Expr} {pos:Pos} {g:XG} {tt:XR Bool} {te:XR W} {f:XR (List PyData×Cw)} {x:Str} {i:Nat} {w:W}
def Mem.drop {S:Sx} {C:Addr} {h3:Heap} (R:Mem S κ M h s) (f:bA κ M C) (k:Heap.SameBut C s.heap h3):Mem S κ M h { s with heap:=h3 }:=R.keep (fun b o e nf=>(k.2 b fun z=>nf (by rw [z];exact f)).trans e) R.bare rfl
def aF2 {all:List PyData} {c:Cw} {h1:aA} {ws:List W} (hd:X.A.handled=none) (SC:CompSc X.N N' ixs X.env.scope sc) (hi:SI X tg iter f) (hg:∀ cl C,SG (blk X N' sc cl C) tg g) (ht:∀ cl C,SIf (blk X N' sc cl C) ifs tt) (he:∀ cl C,SE (blk X N' sc cl C) elt te) (hs:∀ x,foldedSetIterable iter X.env x=pure x)
  (R:Mem X.S κ M h s) (F:Fra X κ M δ) (e1:f δ h=some ((all,c),h1)) (e2:gF g tt te c all all (aK ixs δ) h1 []=some (ws,h')):Wp X.S X.A (eval (.ListComp elt [⟨tg,iter,ifs,0⟩] sc pos) X.env) (Pl X.S κ M h' ws) NE s:=by
 obtain ⟨cl,ecl,hcl1,hcl2⟩:=fM (sc:=sc) (env:=X.env) fun y hy hf=>F.ok.has y.1 (SC.free y hy hf);rw [eval_ListComp];refine wpAny_comprehension_free (use:=none) rfl hs ecl SC.kind SC.loc ?_;refine thn (hi R F e1) fun v s1 q1=>thn q1 fun itv s2 q2=>?_;obtain ⟨M2,it,fp,tn,l2,R2,rfl,T,t2,f2,hz⟩:=q2;refine mH (R':=fun acc C=>compPost (model X.S.P X.S.w) X.A NE none (Pl X.S κ M h' ws) acc C) hd SC hcl1 hcl2 hg ht he (F.go l2) R2 T.w t2 f2 (by rw [List.length_map];exact hz) (by rw [<- qC];exact e2) fun {s' m M' us n} l R ho fa fc z r hn=>⟨m,hn,fun h3 k3=>?_⟩;exact ⟨M',l2.trans l,R.drop fc k3,_,us,n,rfl,(k3.2 _ (Nat.ne_of_lt (Nat.lt_succ_self _))).trans ho,fa,z,r⟩
def bE6 {all:List PyData} {c:Cw} {h1:aA} {ws:List W} {py spos:Pos} (hd:X.A.handled=none) (SC:CompSc X.N N' ixs X.env.scope sc) (hi:SI X tg iter f) (hg:∀ cl C,SG (blk X N' sc cl C) tg g) (ht:∀ cl C,SIf (blk X N' sc cl C) ifs tt) (he:∀ cl C,SE (blk X N' sc cl C) elt te) (hs:∀ x,foldedSetIterable iter X.env x=pure x)
  (R:Mem X.S κ M h s) (F:Fra X κ M δ) (e1:f δ h=some ((all,c),h1)) (e2:gF g tt te c all all (aK ixs δ) h1 []=some (ws,h')) (cv:∀ {κ:Kp} {M:Mp} {u:Value} {s:Shared},Pl X.S κ M h' ws u s->Pw X.S κ M h2 w u s)
  (hiN:X.N[i]?=some x) (hx:X.env.scope.names.lookup x=some .local) (hsw:swapsWith (.ListComp elt [⟨tg,iter,ifs,0⟩] sc pos) (some (.Name x py)) spos.line X.env=pure true):Wp X.S X.A (exec (.Assign [.Name x py] (.ListComp elt [⟨tg,iter,ifs,0⟩] sc pos) spos) X.env) (Ps X κ M h2 (.nx (δ.set i (some w)))) NE s:=by
 obtain ⟨cl,ecl,hcl1,hcl2⟩:=fM (sc:=sc) (env:=X.env) fun y hy hf=>F.ok.has y.1 (SC.free y hy hf);rw [exec_Assign_Name_used _ _ _ _ hsw];refine wpAny_bind (wpAny_standAt (wpAny_bind ?_));show wpAny _ _ (do let _ <- comprehension (.ListComp elt [⟨tg,iter,ifs,0⟩] sc pos) sc X.env _ (newList []) false (eval iter X.env) (some (assign (.Name x py) X.env))) _ _ s;refine wpAny_bind (thn (wpAny_comprehension_free (use:=some (assign (.Name x py) X.env)) (Q:=fun _ s'=>Ps X κ M h2 (.nx (δ.set i (some w))) .next s') rfl hs ecl SC.kind SC.loc ?_) fun _ s' hq=>wpAny_pure (wpAny_pure hq));refine thn (hi R F e1) fun v s1 q1=>thn q1 fun itv s2 q2=>?_;obtain ⟨M2,it,fp,tn,l2,R2,rfl,T,t2,f2,hz⟩:=q2;refine mH (R':=fun acc C=>compPost (model X.S.P X.S.w) X.A NE (some (assign (.Name x py) X.env)) (fun _ s'=>Ps X κ M h2 (.nx (δ.set i (some w))) .next s') acc C) hd SC hcl1 hcl2 hg ht he (F.go l2) R2 T.w t2 f2 (by rw [List.length_map];exact hz) (by rw [<- qC];exact e2) fun {s' m M' us n} l R ho fa fc z r hn=>?_;show wpAny _ _ (assign (.Name x py) X.env (.ref s2.heap.objs.size)) _ _ s';generalize eC:s2.heap.objs.size+1=C at fc hn;have nA:s2.heap.objs.size≠C:=by rw [<- eC];exact Nat.ne_of_lt (Nat.lt_succ_self _)
 obtain ⟨oC,es,ep,hoC,hC⟩:=id hn;have RC:=R.more (b:=true) ⟨fc.1,fc.2.2⟩ hoC;have FC:Fra X (κ.up C (true,oC)) M' δ:=((F.go l2).go l).kp fun a ha=>bJ fun z=>F.mine ha (by rw [z];exact fc.2.1);obtain ⟨M3,l3,R3,r3⟩:=cv ⟨M',.refl,RC,_,us,n,rfl,ho,⟨fa.1,by rw [bJ nA];exact fa.2.1,fa.2.2⟩,z,r⟩;refine wpAny_assign_Name (aD8 (FC.go l3) R3 hiN (.inl hx) (.inr hx) r3 fun s4 κ4 o4 R4 F4 _=>?_);have kC:κ4 C=some (true,oC):=by
  by_cases q:κ4 C=κ.up C (true,oC) C
  ·rw [q];exact eK
  ·have own:C=X.env.locals\/∃ x,X.env.cells.lookup x=some C:=by
    rcases o4 C q with y | y
    ·exact .inl y
    ·exact .inr y.2
   exact absurd fc.2.1 (F.mine (own.imp_right .inl))
 have h4:=(R4.k C _ _ kC).1 rfl;refine ⟨m,⟨oC,es,ep,h4,hC⟩,fun h5 k5=>⟨unK [C] κ4,M3,fun a ha=>?_,l2.trans (l.trans l3),?_,F4.kp fun a ha=>?_⟩⟩
 ·have na:a≠C:=fun z=>ha (by unfold unK;rw [if_pos (by simp [z]),z];exact fc.2.1.symm);refine o4 a fun q=>ha ?_;unfold unK;rw [if_neg (by simpa using na),q,bJ na]
 ·have R5:Mem X.S (unK [C] κ4) M3 h2 s4:=R4.less fun a x q=>by
   unfold unK at q;split at q
   ·cases q
   ·exact q
  exact R5.drop ⟨(R4.k C _ _ kC).2.2,by unfold unK;rw [if_pos (by simp)],R4.kc kC⟩ k5
 ·unfold unK;rw [if_neg fun hm=>F.mine ha (by rw [List.mem_singleton.mp hm];exact fc.2.1)]
def bR3 {S:Sx} {xs:List PyData} {u:Value} (p:Pl S κ M h (xs.map .d) u s):Pf S κ M h xs u s:=let ⟨N,l,R,a,us,n,e1,e2,f,z,r⟩:=p;⟨N,l,R,a,us,n,e1,e2,f,z,show Paired (fun a b=>RepW S N (.d a) b) xs us from aX9 r⟩
def bR4 {S:Sx} {is:List W} {u:Value} (p:Pl S κ M h is u s):Pw S κ M (h++[.r is]) (.c h.length) u s:=by
 obtain ⟨N,l,R,a,us,n,rfl,e,f,z,r⟩:=p;exact ⟨N.cel (a,a),l.trans .cel,R.add f f ⟨⟨_,e⟩,_,e⟩ ⟨us,n,e,z,r.go .cel⟩,(a,a),by show (N.m++[(a,a)])[h.length]?=_;rw [<- R.len];simp,rfl⟩
def jH {N:List Str} {S:Scope} (h:lT N sc S=true):CompSc N (iU sc) (dO N sc) S sc:=by
 unfold lT at h;simp only [Bool.and_eq_true,decide_eq_true_eq,List.all_eq_true] at h;obtain ⟨h1,h2,h3,h4,h5,h6⟩:=h;refine ⟨h1,fun y hy e=>?_,fun y hy e=>?_,fun y hy e=>?_,h5,by unfold dO;rw [List.length_map],?_⟩
 ·have:=h2 y hy;rw [e] at this;simp at this
 ·have:=h3 y hy;rw [e] at this
  simpa using this
 ·have:=h4 y hy;rw [e] at this
  simpa using this
 ·rw [List.all_eq_true];exact h6
def bR (G:Good X st d) (cl:List (Str×Addr)) (C:Addr):Good (blk X (iU sc) sc cl C) (st.blk sc) d:=by
 refine ⟨G.bl,G.gc,G.tk,G.fn,G.fnW,G.cls,G.om,G.fo,rfl,?_,(fun z=>nomatch z),G.rm,fun q z=>nomatch z⟩;show relabel sc X.env=bC2 sc st.S;unfold relabel bC2 Env.kindOf;rw [G.S]
theorem qD (S:Snd v) (G:Good X st d):∀ ifs,SIf X ifs (yR v st ifs)
 | []=>fun _ _ _ _ _ _ _ R F e=>by cases e;exact wpAny_tests_nil ⟨rfl,_,.refl,R⟩
 | [c]=>fun _ _ _ _ _ _ _ R F e=>wpAny_tests_one (S.T G c R F e)
 | _::_::_=>fun _ _ _ _ _ _ _ R F e=>by cases e
def mI (h:gO e=false) (env:Env) (y:Value):foldedSetIterable e env y=pure y:=by
 cases e<;>first | rfl | cases h
def ItS (v:Evs):Prop:=∀ {X:Cx} {st:Sta} {d:Nat},Good X st d->∀ tg iter,SI X tg iter (oG v st tg iter)
def bE7 (S:Snd v) (I:ItS v) (G:Good X st d):SF X (.ListComp elt [⟨tg,iter,ifs,0⟩] sc pos) (kH v st elt tg iter ifs sc):=by
 unfold kH;split
 ·rename_i hc;rw [Bool.and_eq_true] at hc;have hs:gO iter=false:=by simpa using hc.2
  intro κ M δ h s w h' R F e;obtain ⟨⟨all,c⟩,h1,e1,e⟩:=aF e;exact thn (aF2 G.rm.hd (by rw [G.S,G.N];exact jH hc.1) (I G tg iter) (fun cl C=>S.G (bR G cl C) tg) (fun cl C=>qD S (bR G cl C) ifs) (fun cl C=>S.E (bR G cl C) elt) (mI hs _) R F e1 (jG e)) fun _ _ p=>bR3 p
 ·exact fun _ _ _ _ _ _ _ _ _ e=>by cases e
def aQ9 (S:Snd v) (G:Good X st d):SE X (.ListComp elt [⟨tg,iter,ifs,0⟩] sc pos) (pS v st elt tg iter ifs sc):=by
 unfold pS;split
 ·rename_i hc;rw [Bool.and_eq_true] at hc;have hs:gO iter=false:=by simpa using hc.2
  intro κ M δ h s w h' R F e;obtain ⟨x,h1,e1,e⟩:=aF e;cases x with
  | d x=>cases e
  | c j =>
   obtain ⟨ws,ew,e⟩:=bind_some e;obtain ⟨⟨vs,h2⟩,e2,e⟩:=bind_some e;cases e;have SC:CompSc X.N (iU sc) (dO X.N sc) X.env.scope sc:=by rw [G.S,G.N];exact jH hc.1
   have e2:dP (v.G (st.blk sc) tg) (yR v (st.blk sc) ifs) (v.E (st.blk sc) elt) (coW j ws) ws (aK (dO X.N sc) δ) h1 []=some (vs,h2):=by rw [G.N];exact e2
   obtain ⟨cl,ecl,hcl1,hcl2⟩:=fM (sc:=sc) (env:=X.env) fun y hy hf=>F.ok.has y.1 (SC.free y hy hf);refine thn ?_ fun _ _ p=>bR4 p;rw [eval_ListComp];refine wpAny_comprehension_free (use:=none) rfl (mI hs _) ecl SC.kind SC.loc ?_;refine thn (S.E G iter R F e1) fun u s1 ⟨M1,l1,R1,r1⟩=>?_;obtain ⟨p,ep,rfl⟩:=r1;obtain ⟨us,n,ho,hz,rr⟩:=uN R1 ep ew;refine wpAny_pyIter_list (bK ho).isList ?_;exact mH (R':=fun acc C=>compPost (model X.S.P X.S.w) X.A NE none (Pl X.S κ M h2 vs) acc C) G.rm.hd SC hcl1 hcl2 (fun cl C=>S.G (bR G cl C) tg) (fun cl C=>qD S (bR G cl C) ifs) (fun cl C=>S.E (bR G cl C) elt) (F.go l1) (R1.kept (t:=s1.toks) fun b o e=>Heap.get?_push_of_some _ e) (aQ1 ep) ⟨_,Heap.get?_push_size _ rfl,rfl,rfl⟩ R1.one (by rw [rr.length];exact hz) e2 fun {s' m M' us n} l R ho fa fc z r hn=>⟨m,hn,fun h3 k3 =>
    ⟨M',l1.trans l,R.drop fc k3,_,us,n,rfl,(k3.2 _ (Nat.ne_of_lt (Nat.lt_succ_self _))).trans ho,fa,z,r⟩⟩
 ·exact fun _ _ _ _ _ _ _ _ _ e=>by cases e
def bR5 {gs:List Comprehension} {tg iter:Expr} {ifs:List Expr} (e:gW st gs=some (tg,iter,ifs)):gs=[⟨tg,iter,ifs,0⟩]:=by
 unfold gW at e;obtain ⟨y,_,ey⟩:=Option.map_eq_some_iff.mp e;have:=y.2;rw [ey] at this;exact this
def mJ {f:XR (List PyData)} (hf:SF X e f):SE X e (aV f):=by
 intro κ M δ h s w h' R F e;obtain ⟨⟨xs,h1⟩,e1,e⟩:=bind_some (show (f δ h).bind _=_ from e);cases e;exact thn (hf R F e1) fun _ _ p=>aC8 p
def kJ {f:XR (List PyData)} (hf:SF X e f):SE X e (aN f):=by
 intro κ M δ h s w h' R F e;obtain ⟨⟨xs,h1⟩,e1,e⟩:=bind_some (show (f δ h).bind _=_ from e);cases e;exact thn (hf R F e1) fun _ _ p=>pT p
def eO:SF X e xno:=fun _ _ _ _ _ _ _ _ _ e=>by cases e
def Pf.go {S:Sx} {M M':Mp} {xs:List PyData} {u:Value} (l:Le M M') (p:Pf S κ M' h xs u s):Pf S κ M h xs u s:=let ⟨N,a,b⟩:=p;⟨N,l.trans a,b⟩
theorem bR6 (S:Snd v) (G:Good X st d):SF X (.BinOp a .Add b pos) (xb (v.E st a) fun u=>xb (v.E st b) fun w=>fun _ h=>(match ref h u,ref h w with
  | some (.list xs),some (.list ys)=>if xs.length+ys.length<=sizeLine then some (xs++ys,h) else none
  | _,_=>none)):=by
 intro κ M δ h s w h' R F e;obtain ⟨x,h1,e1,e⟩:=aF e;obtain ⟨y,h2,e2,e⟩:=aF e;refine wpAny_BinOp (thn (S.E G a R F e1) fun u s1 ⟨M1,l1,R1,r1⟩=>thn (S.E G b R1 (F.go l1) e2) fun v s2 ⟨M2,l2,R2,r2⟩=>?_);split at e
 ·rename_i ha hb;obtain ⟨hz,e⟩:=aE e;cases e;obtain ⟨a,us,n,rfl,ea,la,ra'⟩:=cH R2 (r1.go l2) ha;obtain ⟨b,vs,m,rfl,eb,lb,rb'⟩:=cH R2 r2 hb;have k1:=ra'.length;have k2:=rb'.length;refine PySem.P.add_list ea eb ?_ (by rw [List.size_toArray,List.size_toArray];omega);have ea:us.toArray++vs.toArray=(us++vs).toArray:=by simp
  rw [ea];exact Pf.go (l1.trans l2) (R2.lstP (t:=s2.toks) (uB ra' rb') (by rw [List.length_append];omega))
 ·cases e
theorem cH0 (S:Snd v) (G:Good X st d) {lo hi:Option Expr} {p2:Pos}:SF X (.Subscript a (.Slice lo hi none p2) pos) (xb (v.E st a) fun x=>xb (jU v st lo) fun l=>xb (jU v st hi) fun u=>fun _ h=>(match ref h x with
  | some (.list xs)=>some (cut xs l u,h)
  | _=>none)):=by
 intro κ M δ h s w h' R F e;refine bQ8 S G (Q:=Pf X.S κ M h') (r:=(w,h')) R F e fun l1 R1 r1 hs pl pu e=>?_;split at e
 ·rename_i ea;cases e;obtain ⟨t,q⟩:=sl_l (A:=X.A) (E:=NE) R1 r1 ea hs pl pu;exact ⟨"list",_,slot_list_getitem.lookup,t,thn q fun _ _ p=>p.go l1⟩
 ·cases e
def bR7 (S:Snd v) (G:Good X st d) {lo hi:Option Expr} {p2:Pos}:SE X (.Subscript a (.Slice lo hi none p2) pos) (xb (v.E st a) fun x=>xb (jU v st lo) fun l=>xb (jU v st hi) fun u=>fun _ h=>xSl x l u h):=by
 intro κ M δ h s w h' R F e;refine bQ8 S G (Q:=Pw X.S κ M h') (r:=(w,h')) R F e fun l1 R1 r1 hs pl pu e=>?_;unfold xSl at e;split at e
 ·cases e;obtain ⟨t,q⟩:=sl_t (A:=X.A) (E:=NE) R1 r1 hs pl pu;exact ⟨"tuple",_,PyProof.Rows.slot_tuple_getitem.lookup,t,thn q fun _ _ p=>p.go l1⟩
 ·split at e
  ·rename_i ea;cases e;obtain ⟨t,q⟩:=sl_l (A:=X.A) (E:=NE) R1 r1 ea hs pl pu;exact ⟨"list",_,slot_list_getitem.lookup,t,thn q fun _ _ p=>(pT p).go l1⟩
  ·cases e
theorem bR8 (S:Snd v) (G:Good X st d) {p:Pos}:SF X (.BinOp (.List es p) .Mult b pos) (xb (aV (xPl (aQ v st es))) fun u=>xb (v.E st b) fun w=>fun _ h=>(match u,w with
  | .c i,.d (.int k)=>(match h[i]? with
   | some (.l xs)=>if -(2^63)<=k/\k < 2^63/\xs.length*k.toNat<=sizeLine then some ((List.replicate k.toNat xs).flatten,h) else none
   | _=>none)
  | _,_=>none)):=by
 intro κ M δ h s w h' R F e;obtain ⟨x,h1,e1,e⟩:=aF e;obtain ⟨y,h2,e2,e⟩:=aF e;refine wpAny_BinOp (thn (mJ (uL S G) R F e1) fun u s1 ⟨M1,l1,R1,r1⟩=>thn (S.E G b R1 (F.go l1) e2) fun v s2 ⟨M2,l2,R2,r2⟩=>?_);rcases x with _ | i
 ·cases e
 rcases y with (_ | _ | k | _ | _ | _ | _) | _<;>first | cases e;done | skip
 dsimp only at e;split at e
 ·rename_i xs ei;obtain ⟨⟨q1,q2,hz⟩,e⟩:=aE e;cases e;obtain ⟨t,rfl⟩:=wi.mp r2;obtain ⟨p,ep,rfl⟩:=r1.go l2;obtain ⟨us,n,ho,hl,rr⟩:=R2.cel i p _ ep ei;have hlen:=rr.length;have hsz:us.toArray.size*k.toNat<=sizeLine:=by rw [List.size_toArray,<- hlen];exact hz
  have hcap:¬ us.toArray.size*k.toNat > (2^63 - 1) / 8:=by
   have:(sizeLine:Nat)<=(2^63 - 1) / 8:=by decide
   omega
  have hfit:¬ (!Builtin.List.listFitsIndex k)=true:=by rw [fitsIndex_both q1 q2];exact Bool.false_ne_true
  have hlong:¬ Builtin.List.listTooLong (us.toArray.size*k.toNat)=true:=by
   unfold Builtin.List.listTooLong;rw [decide_eq_false (by omega)];exact Bool.false_ne_true
  have hnew:List.foldl (fun x1 x2=>x1++x2) #[] (List.replicate (if us.toArray.isEmpty=true then 0 else k.toNat) us.toArray)=(List.replicate k.toNat us).flatten.toArray:=by
   have f0:∀ m:Nat,List.foldl (fun x1 x2=>x1++x2) #[] (List.replicate m us.toArray)=(List.replicate m us).flatten.toArray:=fun m=>by
    have:=jW us m [];rw [List.nil_append] at this;exact this
   rw [f0];cases us with
   | nil=>simp
   | cons a r'=>rw [if_neg (by simp)]
  refine wpAny_binaryOp_repeat_ref (T:="list") (U:="int") (by decide) ⟨_,ho,rfl⟩ (fun s'=>typeIs_int s' k t) noFill_list_mul PySem.F.fills_int_mul PySem.F.slot_int_rmul repeat_list PySem.F.slot_int_index.lookup
   (call_meets PySem.F.slot_int_rmul (typeIs_int s2 k t) PySem.F.entry_int_rmul (PySem.F.args_int_rmul_2 _ _) (int___rmul___int_list k t p.1 us.toArray n)
    ⟨ho,rfl,⟨_,ho,rfl⟩,call_meets PySem.F.slot_list_mul ⟨_,ho,rfl⟩ PySem.F.entry_list_mul (PySem.F.args_list_mul_2 _ _) (AutoListH.list___mul___list_int_3 p.1 us.toArray n k t hfit hcap hlong) ⟨ho,?_⟩⟩)
  rw [hnew];exact Pf.go (l1.trans l2) (R2.lstP (t:=s2.toks) (n:=0) (bD2 rr k.toNat) (by rw [pU,Nat.mul_comm,<- hlen];exact hz))
 ·cases e
end
end DL


namespace DL
open PySem PySem.Spec PyProof.Rows L2 CI
section
variable {S:Sx} {κ:Kp} {M:Mp} {h h':aA} {s:Shared} {A:Around} {E:Value->Shared->Prop} {d:Nat}
def Room.deeper {k:Nat} (r:Room (k+1) A) (env:Env):Room k (A.deeper env) :=
 ⟨r.hd,by have:=r.dp;show A.depth+1+3*k+5 < _;omega,by have:=r.un;show A.units+3+16*k+200 < _;omega⟩
def uQ {C:Addr} {us:List Value} {kw:List (Str×Value)}:(A.under (.builtin "type.__call__" ⟨.ref C::us,kw⟩)).depth=A.depth+1:=by
 first | rfl | simp [Around.under,Code.weight,Code.isCreation,Code.isGuard,Code.isCaller,Code.frames,Code.isFrame,guardIds]
def uR {C:Addr} {us:List Value} {kw:List (Str×Value)}:(A.under (.builtin "type.__call__" ⟨.ref C::us,kw⟩)).units=A.units+1:=by
 first | rfl | simp [Around.under,Code.cUnits,Code.frames,Code.isFrame]
def Room.make {k:Nat} (r:Room (k+1) A) (C:Addr) (us:List Value) (kw:List (Str×Value)):Room k (A.under (.builtin "type.__call__" ⟨.ref C::us,kw⟩)) :=
 ⟨r.hd,by have:=r.dp;rw [uQ];omega,by have:=r.un;rw [uR];omega⟩
def FrO.make (r:FrO κ A) (C:Addr) (us:List Value) (kw:List (Str×Value)):FrO κ (A.under (.builtin "type.__call__" ⟨.ref C::us,kw⟩)):=by
 have:(A.under (.builtin "type.__call__" ⟨.ref C::us,kw⟩)).frames=A.frames:=by
  first | rfl | simp [Around.under,Code.frames,Code.isFrame]
 unfold FrO;rw [this];exact r
def uS {f:Addr} {fd:FuncData} {ps:List Str} {m:XFW} {us:List Value} {ws:List W} {w:W} (F:FnS S d f fd ps m) (hr:Room d A) (fo:FrO κ A) (hb:eZ S.K fd ps) (md:Mod S) (hz:S.base.objs.size<=s.heap.objs.size) (R:Mem S κ M h s) (r:RepWs S M ws us) (e:m ws h=some (w,h')):Wp S A (call (.ref f) us) (Pw S κ M h' w) E s:=by
 have hl:us.length=ps.length:=by rw [<- r.length];exact F.len _ _ _ e
 refine wpAny_call (codeAny_mono (F.run (args:=⟨us,[]⟩) hr fo md hz R (hb s us (md.kin.keeps R.bk) hl) r e) fun r s' ⟨u,hq,p⟩=>?_);subst hq;exact p
def Mem.made {C:Addr} (R:Mem S κ M h s):Mem S κ (M.cel (s.heap.objs.size+1,s.heap.objs.size)) (h++[.o C []]) { s with heap:=(s.heap.push PySem.W.emptyDict).push (PySem.W.instObj C s.heap.objs.size) }:=by
 have e1:(s.heap.push PySem.W.emptyDict).get? s.heap.objs.size=some PySem.W.emptyDict:=Heap.get?_push_size s.heap rfl;have e1':=Heap.get?_push_of_some (PySem.W.instObj C s.heap.objs.size) e1;have e2:((s.heap.push PySem.W.emptyDict).push (PySem.W.instObj C s.heap.objs.size)).get? (s.heap.objs.size+1)=some (PySem.W.instObj C s.heap.objs.size):=by
  have:=Heap.get?_push_size (s.heap.push PySem.W.emptyDict) (o:=PySem.W.instObj C s.heap.objs.size) rfl
  rwa [Heap.size_push] at this
 have e3:(s.heap.push PySem.W.emptyDict).Ns s.heap.objs.size (fun _=>none):=⟨PySem.W.emptyDict,#[],_,e1,rfl,(fun e he=>absurd he (by simp)),fun _=>rfl⟩;have R1:Mem S κ M h { s with heap:=(s.heap.push PySem.W.emptyDict).push (PySem.W.instObj C s.heap.objs.size) }:=R.kept (t:=s.toks) fun b o e=>Heap.get?_push_of_some _ (Heap.get?_push_of_some _ e);refine R1.add (p:=(s.heap.objs.size+1,s.heap.objs.size)) (R.new (Heap.get?_none_of_le (Nat.le_succ _))) R.size ⟨⟨_,e2⟩,_,e1'⟩ ?_;exact ⟨Nat.ne_of_lt (Nat.lt_succ_self _),Nat.zero_le _,e2,fun _=>none,(Heap.Ns1.of_empty e3).at fun o q=>Heap.get?_push_of_some _ q,fun _=>True.intro,fun y hy=>absurd rfl hy⟩
def aF3 {k:Nat} {C f:Addr} {fd:FuncData} {ps:List Str} {m:XFW} {us:List Value} {ws:List W} {w:W} (K:Mk S.K C f) (F:FnS S k f fd ps m) (hr:Room (k+1) A) (fo:FrO κ A) (hb:eZ S.K fd ps) (md:Mod S) (hz:S.base.objs.size<=s.heap.objs.size) (R:Mem S κ M h s) (r:RepWs S M ws us) (e:xMk C m ws h=some (w,h')):Wp S A (call (.ref C) us) (Pw S κ M h' w) E s:=by
 obtain ⟨⟨w1,h1⟩,e1,e⟩:=bind_some (show (m (.c h.length::ws) (h++[.o C []])).bind _=_ from e);have R2:=R.made (C:=C);have ez:(M.cel (s.heap.objs.size+1,s.heap.objs.size)).m[h.length]?=some (s.heap.objs.size+1,s.heap.objs.size):=by show (M.m++[_])[h.length]?=_;rw [<- R.len];simp
 have r2:RepWs S (M.cel (s.heap.objs.size+1,s.heap.objs.size)) (.c h.length::ws) (Value.ref (s.heap.objs.size+1)::us):=.cons ⟨_,ez,rfl⟩ (r.go .cel);have hl:(Value.ref (s.heap.objs.size+1)::us).length=ps.length:=by rw [<- r2.length];exact F.len _ _ _ e1
 have kin:=md.kin.keeps R.bk;refine wpAny_call (aE0 (f:=f) kin K.makes K.init (beq_iff_eq.mp K.fn) (codeAny_mono (F.run (args:=⟨Value.ref (s.heap.objs.size+1)::us,[]⟩) (hr.make C us []) (fo.make C us []) md (by rw [Heap.size_push,Heap.size_push];omega) R2 (hb _ _ (md.kin.keeps R2.bk) hl) r2 e1) fun r s' ⟨u,hq,M3,l3,R3,r3⟩=>?_));subst hq;rcases w1 with (_ | _ | _ | _ | _ | _ | _) | _<;>first | cases e;done | skip
 cases e;exact ⟨wn.mp r3,M3,Le.trans .cel l3,R3,⟨_,l3.at ez,rfl⟩⟩
theorem oJ (f g:Str) (w:W):∀ fs:List (Str×W),(iS f w fs).lookup g=if g=f then some w else fs.lookup g
 | []=>by
  show List.lookup g [(f,w)]=_
  by_cases h:g=f
  ·have hb:(g==f)=true:=beq_iff_eq.mpr h;simp only [List.lookup,hb,if_pos h]
  ·have hb:(g==f)=false:=beq_eq_false_iff_ne.mpr h;simp only [List.lookup,hb,if_neg h]
 | (k,x)::r=>by
  have ih:=oJ f g w r;rw [show iS f w ((k,x)::r)=(if k=f then (k,w)::r else (k,x)::iS f w r) from rfl]
  by_cases hk:k=f
  ·rw [if_pos hk]
   by_cases h:g=k
   ·have hb:(g==k)=true:=beq_iff_eq.mpr h;simp only [List.lookup,hb,if_pos (h.trans hk)]
   ·have hb:(g==k)=false:=beq_eq_false_iff_ne.mpr h;simp only [List.lookup,hb,if_neg (fun e:g=f=>h (e.trans hk.symm))]
  ·rw [if_neg hk]
   by_cases h:g=k
   ·have hb:(g==k)=true:=beq_iff_eq.mpr h;simp only [List.lookup,hb,if_neg (fun e:g=f=>hk (h.symm.trans e))]
   ·have hb:(g==k)=false:=beq_eq_false_iff_ne.mpr h;simp only [List.lookup,hb];exact ih
theorem oK (f:Str) (w:W):∀ fs:List (Str×W),f∈(iS f w fs).map (·.1)/\(∀ g,g∈fs.map (·.1)->g∈(iS f w fs).map (·.1))/\(iS f w fs).length<=fs.length+1
 | []=>⟨by simp [iS],fun g h=>by simp at h,by simp [iS]⟩
 | (k,x)::r=>by
  obtain ⟨i1,i2,i3⟩:=oK f w r;rw [show iS f w ((k,x)::r)=(if k=f then (k,w)::r else (k,x)::iS f w r) from rfl]
  by_cases hk:k=f
  ·rw [if_pos hk];subst hk;exact ⟨by simp,fun g h=>by simpa using h,by rw [List.length_cons,List.length_cons];omega⟩
  ·rw [if_neg hk];refine ⟨?_,fun g h=>?_,by rw [List.length_cons,List.length_cons];omega⟩
   ·rw [List.map_cons];exact List.mem_cons_of_mem _ i1
   ·rw [List.map_cons] at h ⊢;rcases List.mem_cons.mp h with e | e
    ·exact List.mem_cons.mpr (.inl e)
    ·exact List.mem_cons_of_mem _ (i2 g e)
def zE {w:W} {u:Value} (r:RepW S M w u):PySem.W.handedIn u=true:=by
 cases w with
 | c i=>obtain ⟨p,_,rfl⟩:=r;rfl
 | d x =>
  cases x with
  | none=>cases wn.mp r;rfl
  | bool b=>cases wb.mp r;rfl
  | int i=>obtain ⟨t,rfl⟩:=wi.mp r;rfl
  | str x=>obtain ⟨⟨t,rfl⟩,_⟩:=rep_s.mp (show Rep S M.Z _ _ from r);rfl
  | list x=>obtain ⟨a,_,_,rfl,_⟩:=rep_l.mp (show Rep S M.Z _ _ from r);rfl
  | tuple x=>obtain ⟨a,_,_,rfl,_⟩:=rep_t.mp (show Rep S M.Z _ _ from r);rfl
  | dict x=>obtain ⟨a,rfl⟩:=bB4 (show Rep S M.Z _ _ from r);rfl
def qE {i:Nat} {p:Addr×Addr} {C:Addr} {fs:List (Str×W)} (R:Mem S κ M h s) (ep:M.m[i]?=some p) (ei:h[i]?=some (.o C fs)):∃ mA,ObjM s.heap p.1 p.2 C mA/\(∀ f,RelO S M (fs.lookup f) (mA f))/\PySem.Within mA (fs.map (·.1))/\fs.length<=1000:=by
 obtain ⟨ne,z,ob,mA,n,r,q⟩:=R.cel i p _ ep ei;exact ⟨mA,⟨ob,n,ne⟩,r,q,z⟩
def RelO.some_of {w:W} {o:Option Value} (r:RelO S M (some w) o):∃ u,o=some u/\RepW S M w u:=by
 cases o with
 | none=>exact (show False from r).elim
 | some u=>exact ⟨u,rfl,r⟩
def RelO.none_of {o:Option Value} (r:RelO S M none o):o=none:=by
 cases o with
 | none=>rfl
 | some u=>exact (show False from r).elim
def uT {b:Bool} {i:Nat} {p:Addr×Addr} {C:Addr} {fs:List (Str×W)} {f:Str} {w:W} (kin:S.K.In S.base) (R:Mem S κ M h s) (ep:M.m[i]?=some p) (ei:h[i]?=some (.o C fs)) (c:Cls S.K C) (n:NoAttr S.K C f) (l:fs.lookup f=some w):Wp S A (getAttr (.ref p.1) f b) (Pw S κ M h w) E s:=by
 obtain ⟨mA,O,r,_⟩:=qE R ep ei;obtain ⟨u,hu,ru⟩:=RelO.some_of (w:=w) (o:=mA f) (by rw [<- l];exact r f);exact aP8 (kin.keeps R.bk) O (c.get f) c.hd n hu (zE ru) ((R.tok _).pw ru)
def uU {i:Nat} {p:Addr×Addr} {C:Addr} {fs:List (Str×W)} {f:Str} {w:W} {u:Value} {Q:Unit->Shared->Prop} (kin:S.K.In S.base) (R:Mem S κ M h s) (ep:M.m[i]?=some p) (ei:h[i]?=some (.o C fs)) (c:Cls S.K C) (n:NoAttr S.K C f) (hl:fs.length < 1000) (rw':RepW S M w u)
  (q:∀ s',Mem S κ M (h.set i (.o C (iS f w fs))) s'->Q () s'):Wp S A (setAttr (.ref p.1) f u) Q E s:=by
 obtain ⟨mA,O,r,wi,_⟩:=qE R ep ei;have hz:(fs.map (·.1)).length<=sizeLine:=by rw [List.length_map,sizeLine_eq];omega
 refine aP9 (kin.keeps R.bk) O c.sa c.po n.taker c.hd wi hz fun h' O' sb=>q _ ?_;have hd:∃ o,h'.get? p.2=some o:=let ⟨o,_,_,e',_⟩:=O'.ns;⟨o,e'⟩
 obtain ⟨k1,k2,k3⟩:=oK f w fs;refine R.wr ep (fun b o _ n2 q=>(sb.2 b n2).trans q) ⟨⟨_,O'.obj⟩,hd⟩ R.bare rfl ⟨O.ne,by omega,O'.obj,_,O'.ns,fun g=>?_,fun g hg=>?_⟩
 ·show RelO S M ((iS f w fs).lookup g) (if g=f then some u else mA g);rw [oJ]
  by_cases q:g=f
  ·rw [if_pos q,if_pos q];exact rw'
  ·rw [if_neg q,if_neg q];exact r g
 ·by_cases q:g=f
  ·rw [q];exact k1
  ·refine k2 g (wi g fun z=>hg ?_);show (if g=f then some u else mA g)=none;rw [if_neg q];exact z
def Mem.lset {i:Nat} {p:Addr×Addr} {us us':List Value} {n t:Nat} {c:Cell} {f:Array Value->Array Value} (R:Mem S κ M h s) (ei:M.m[i]?=some p) (e:s.heap.get? p.1=some (aU us n)) (hf:f us.toArray=us'.toArray)
  (x:∀ (h2:Heap) (n':Nat),h2.get? p.1=some (aU us' n')->CellOk S M h2 p c):Mem S κ M (h.set i c) { s with heap:=s.heap.update p.1 (Obj.mapSeq f),toks:=t }:=by
 have q:=PySem.IsL.update e f;rw [hf] at q;obtain ⟨_,_,o2,ho2⟩:=R.off p (List.mem_of_getElem? ei) p.2 (.inr rfl);refine R.wr ei (fun b o n1 _ q=>(Heap.get?_update_other _ _ (Ne.symm n1)).trans q) ⟨⟨_,q⟩,?_⟩ R.bare rfl (x _ _ q)
 by_cases hq:p.2=p.1
 ·exact ⟨_,by rw [hq];exact q⟩
 ·exact ⟨o2,(Heap.get?_update_other _ _ (Ne.symm hq)).trans ho2⟩
def bE8 {i:Nat} {p:Addr×Addr} {xs:List PyData} {x:PyData} {u:Value} (R:Mem S κ M h s) (ep:M.m[i]?=some p) (ei:h[i]?=some (.l xs)) (hz:xs.length < sizeLine) (rx:Rep S M.Z x u):Wp S A (call (.builtin "list.append") [.ref p.1,u]) (Pw S κ M (h.set i (.l (xs++[x]))) (.d .none)) E s:=by
 obtain ⟨us,n,e,hl,r⟩:=R.cel i p _ ep ei;have hlen:=r.length;refine call_meets F.slot_list_append ⟨_,e,rfl⟩ F.entry_list_append (F.args_list_append_2 _ _) (PySem.list_append p.1 us.toArray n u (by rw [List.size_toArray];omega)) ⟨e,?_⟩;exact (R.lset (t:=s.toks) (us':=us++[u]) (c:=.l (xs++[x])) ep e (by simp) fun h2 n' e'=>⟨_,n',e',by rw [List.length_append,List.length_singleton];omega,Paired.snoc r rx⟩).pn
theorem oM {α:Type}:∀ (l:List α) (i:Nat),(l.eraseIdx i).length<=l.length
 | [],_=>Nat.le_refl _
 | _::_,0=>Nat.le_succ _
 | _::r,i+1=>Nat.succ_le_succ (oM r i)
def bE9 {i j:Nat} {p:Addr×Addr} {xs:List PyData} {x:PyData} {k:Int} {t:Tok} (R:Mem S κ M h s) (ep:M.m[i]?=some p) (ei:h[i]?=some (.l xs)) (ej:ixN xs.length k=some j) (ex:xs[j]?=some x) (h1:-(2^63)<=k) (h2:k < 2^63):Wp S A (call (.builtin "list.pop") [.ref p.1,.int k t]) (Pw S κ M (h.set i (.l (xs.eraseIdx j))) (.d x)) E s:=by
 obtain ⟨us,n,e,hl,r⟩:=R.cel i p _ ep ei;have hlen:=r.length;obtain ⟨u,hu,ru⟩:=jR r ex;refine call_meets F.slot_list_pop ⟨_,e,rfl⟩ F.entry_list_pop (F.args_list_pop_2 _ _)
  (MeetsSeq.list_pop_at p.1 us.toArray n k t j u (fitsIndex_both h1 h2) (by rw [List.size_toArray,<- hlen];exact (lA ej).1) (by rw [<- Array.getElem?_toList];exact hu) (by rw [List.size_toArray];omega)) ⟨e,?_⟩
 have R1:=R.lset (t:=s.toks) (us':=us.eraseIdx j) (c:=.l (xs.eraseIdx j)) (f:=(·.eraseIdxIfInBounds j)) ep e (by show us.toArray.eraseIdxIfInBounds j=_;rw [List.eraseIdxIfInBounds_toArray]) fun h2 n' e'=>⟨_,n',e',Nat.le_trans (oM us j) hl,aB7 j r⟩;exact R1.pw ru
def bF0 {i:Nat} {p:Addr×Addr} {xs ys:List PyData} {b:Addr} {vs:List Value} {m:Nat} (R:Mem S κ M h s) (ep:M.m[i]?=some p) (ei:h[i]?=some (.l xs)) (eb:s.heap.get? b=some (aU vs m)) (rb:Reps' S M ys vs) (hz:xs.length+ys.length<=sizeLine) :
  Wp S A (call (.builtin "list.extend") [.ref p.1,.ref b]) (Pw S κ M (h.set i (.l (xs++ys))) (.d .none)) E s:=by
 obtain ⟨us,n,e,hl,r⟩:=R.cel i p _ ep ei;have h1:=r.length;have h2:=rb.length;have hsz:us.toArray.size+vs.toArray.size<=sizeLine:=by rw [List.size_toArray,List.size_toArray];omega
 have hlong:¬ (!us.toArray.isEmpty&&Builtin.List.listTooLong (us.toArray.size+vs.toArray.size))=true:=by
  unfold Builtin.List.listTooLong;rw [decide_eq_false (by omega),Bool.and_false];exact Bool.false_ne_true
 refine call_meets F.slot_list_extend ⟨_,e,rfl⟩ F.entry_list_extend (F.args_list_extend_2 _ _)
  (AutoSeq1.list_extend_list_list_0 p.1 us.toArray n b vs.toArray m hlong (by rw [List.size_toArray];omega) (by omega)) ⟨e,eb,?_⟩
 exact (R.lset (t:=s.toks) (us':=us++vs) (c:=.l (xs++ys)) ep e (by simp) fun h2 n' e'=>⟨_,n',e',by rw [List.length_append];omega,uB r rb⟩).pn
def aF4 {x:W} {xs:List PyData} {z:PyData} {u v:Value} {j:Nat} (hr:Room d A) (R:Mem S κ M h s) (r1:RepW S M (.d (.list xs)) u) (r2:RepW S M (.d z) v) (hp:(aJ 64 (.list xs)&&aJ 64 z)=true) (ej:xs.findIdx? (fun y=>PyData.eqv y z)=some j):Wp S A (call (.builtin "list.index") [u,v]) (Pw S κ M h (.d (.int j))) E s:=by
 rw [Bool.and_eq_true] at hp;obtain ⟨⟨as,z1⟩,s1⟩:=nM (h:=h) R r1 rfl hp.1;obtain ⟨⟨bs,z2⟩,s2⟩:=nM (h:=h) R r2 rfl hp.2;obtain ⟨p,us,n,rfl,ho,hz,rr⟩:=cH (h:=h) R r1 rfl;cases z1 with
 | @list _ o items m _ _ h1 h2 h3 h4 =>
  rw [ho] at h1;cases h1;injection h3 with h3 _
  subst h3;have cl:=SeqAt.canLay_of_shaped s1;rw [PyData.canLay0] at cl;have em:=SeqAt.readsAll_map xs _ _ cl h4;have hl:=rr.length;obtain ⟨hjl,hit,hno⟩:=List.findIdx?_eq_some_iff_getElem.mp ej;have sz:us.toArray.size=us.length:=List.size_toArray;have at_:∀ (m:Nat) (hm:m < us.toArray.size) (hm':m < xs.length),SeqAt.readOf s.heap us.toArray[m]=xs[m]:=fun m hm hm'=>by
   have:xs[m]?=(us.toArray.toList.map (SeqAt.readOf s.heap))[m]?:=by rw [em]
   rw [List.getElem?_map,List.getElem?_eq_getElem hm',Array.getElem?_toList,Array.getElem?_eq_getElem hm] at this;exact (Option.some.inj this).symm
  have hsl:(sizeLine:Int) < 2^63 - 1:=by decide
  refine call_meets PySem.F.slot_list_index ⟨_,ho,rfl⟩ PySem.F.entry_list_index (PySem.F.args_list_index_2 _ _)
   (SeqAt.list_indexAt p us.toArray n none #[] v (fun y=>PyData.eqv (SeqAt.readOf s.heap y) z) j (by omega) (by omega) ?_ ?_) ⟨ho,SeqAt.items_eqAt h4 z2 cl (SeqAt.canLay_of_shaped s2) ?_,R.pi⟩
  ·show PyData.eqv (SeqAt.readOf s.heap us.toArray[j]) z=true;rw [at_ j (by omega) hjl];exact hit
  ·intro m hm hmj;show PyData.eqv (SeqAt.readOf s.heap us.toArray[m]) z=false;rw [at_ m hm (by omega)];exact Bool.eq_false_iff.mpr (hno m hmj)
  ·exact room_in_shaped (xs:=xs) (A:=A) s2 hr.u65
end
def aF5 {prog:Program} {w:World} {A:Around} {E:Value->Shared->Prop} {s:Shared} {env:Env} {o:Expr} {name:Str} {apos pos:Pos} {args:List Expr} {Q:Value->Shared->Prop}
  (hbase:attributeBase o name env (eval o env)=eval o env)
  (hfew:((backTo pos (starEach args env)).all (fun x=>!x.1)&&(backToKw pos (keywordEach [] env)).all (fun x=>x.1.isSome)&&decide (args.length+([]:List Keyword).length+(if ([]:List Keyword).isEmpty then 0 else 1) < 30))=true)
  (hline:(apos.endLine==pos.line)=true)
  (h:wpAny (model prog w) A (eval o env) (fun ov s₁=>∀ pl,wpAny (model prog w) A (getMethod ov name pl) (fun fx s₂=>wpAny (model prog w) A (callWith pos fx.1 fx.2 (backTo pos (starEach args env)) (backToKw pos (keywordEach [] env))) Q E s₂) E s₁) E s) :
  wpAny (model prog w) A (eval (.Call (.Attribute o name apos) args [] pos) env) Q E s:=by
 rw [arm_eval_Call,hbase];refine wpAny_bind (wpAny_mono h (fun ov s₁ h₁=>?_) fun _ _ e=>e);refine wpAny_bind (wpAny_standAt ?_);have hform:methodCallForm (args.length+([]:List Keyword).length) (backTo pos (starEach args env)) (backToKw pos (keywordEach [] env))=true:=hfew;have hpos:methodCallPos true o env apos pos=pure pos:=by unfold methodCallPos;simp [hline]
 unfold methodCall;rw [hform];exact wpAny_bind (wpAny_holding (wpAny_mono (h₁ _) (fun fx s₂ h₂=>wpAny_bind (wpAny_of_eq hpos h₂)) fun _ _ x=>x))
section
variable {X:Cx} {st:Sta} {d:Nat} {v:Evs} {κ:Kp} {M:Mp} {δ:DSt} {h h':aA} {s:Shared} {a o:Expr} {es:List Expr} {pos p apos:Pos} {x m:Str} {w:W}
def Fra.kin (F:Fra X κ M δ):X.S.K.In X.S.base:=F.ok.mod.kin
theorem wZ (S:Snd v) (G:Good X st d) (l:List Nat):∀ (es:List Expr) (n:Nat),SA X es (iT v st l n es)
 | [],n=>fun pos _ _ _ _ _ _ _ R F e=>by cases e;exact Calls.spliced_nil ⟨_,.refl,R,.nil⟩
 | a::es,n=>by
  intro pos κ M δ h s ws h' R F e;have e:(if aH a=true then xb (if (l.contains n&&!aC1 a)=true then aV (v.F st a) else v.E st a) fun w=>xb (iT v st l (n+1) es) fun ws=>aC (w::ws) else xno) δ h=some (ws,h'):=e
  by_cases hs:aH a=true
  ·rw [if_pos hs] at e;obtain ⟨x,h1,e1,e⟩:=aF e;obtain ⟨y,h2,e2,e⟩:=aF e;cases e;have ha:SE X a (if (l.contains n&&!aC1 a)=true then aV (v.F st a) else v.E st a):=by
    split
    ·exact mJ (S.F G a)
    ·exact S.E G a
   rw [bM a hs];show Wp _ _ (spliced ((false,eval a X.env)::backTo pos (starEach es X.env))) _ _ s;refine Calls.spliced_cons (thn (ha R F e1) fun u s1 ⟨M1,l1,R1,r1⟩=>?_);exact thn (wZ S G l es (n+1) pos R1 (F.go l1) e2) fun us s2 ⟨M2,l2,R2,r2⟩=>⟨M2,l1.trans l2,R2,.cons (r1.go l2) r2⟩
  ·rw [if_neg hs] at e;cases e
theorem mK {v:Evs} {st:Sta} {l:List Nat}:∀ {es:List Expr} {n:Nat} {δ:DSt} {h:aA} {r:List W×aA},iT v st l n es δ h=some r->es.all aH=true
 | [],_,_,_,_,_=>rfl
 | a::es,n,δ,h,r,e=>by
  have e:(if aH a=true then xb (if (l.contains n&&!aC1 a)=true then aV (v.F st a) else v.E st a) fun w=>xb (iT v st l (n+1) es) fun ws=>aC (w::ws) else xno) δ h=some r:=e
  by_cases hs:aH a=true
  ·rw [if_pos hs] at e;obtain ⟨x,h1,e1,e⟩:=aF e;obtain ⟨y,h2,e2,e⟩:=aF e;rw [List.all_cons,hs,mK e2];rfl
  ·rw [if_neg hs] at e;cases e
def aF6 {m:XFW} {fa:XR (List W)} (G:Good X st d) (ht:cC st x=true) (hm:FnG X.S d x m) (hA:SA X (a::es) fa) (hstar:∀ {δ h r},fa δ h=some r->(a::es).all aH=true):SE X (.Call (.Name x p) (a::es) [] pos) (xb fa fun ws=>fun _ h=>m ws h):=by
 intro κ M δ h s w h' R F e;obtain ⟨hn,hg⟩:=mE G ht;obtain ⟨ws,h1,e1,e⟩:=aF e;have hst:=hstar e1;rw [List.all_cons,Bool.and_eq_true] at hst;rcases hm with z | ⟨f,fd,ps,mg,kp,hb,FF⟩
 ·rw [z] at e;cases e
 refine wpAny_Call_Name_kw (jE F R hg mg hn ?_);refine PySem.W.callWith_K (h₀:=X.S.base) F.kin kp (thn (hA pos R F e1) fun us s1 ⟨M1,l1,R1,r1⟩=>⟨F.kin.keeps R1.bk,?_⟩) (bM a hst.1) (bQ pos es hst.2);exact thn (uS FF G.rm F.frs hb F.ok.mod ((F.go l1).size R1) R1 r1 e) fun _ _ q=>q.go l1
def bR9 (S:Snd v) (G:Good X st d) {m:XFW} (ht:cC st x=true) (hm:FnG X.S d x m):SE X (.Call (.Name x p) (a::es) [] pos) (xb (aQ v st (a::es)) fun ws=>fun _ h=>m ws h):=aF6 G ht hm (cD S G _) cI
def bF1 (S:Snd v) (G:Good X st d):SE X (.Call (.Name x p) (a::es) [] pos) (uI v st x (a::es)):=by
 intro κ M δ h s w h' R F e;unfold uI at e;dsimp only at e;obtain ⟨y,h1,e1,e⟩:=aF e;rcases y with z | j
 ·cases z with
  | dict kvs =>
   dsimp only at e;cases hg:gJ kvs with
   | none=>rw [hg] at e;cases e
   | some g =>
    rw [hg] at e;dsimp only at e;cases hm:st.fn g with
    | none=>rw [hm] at e;cases e
    | some m =>
     rw [hm] at e;obtain ⟨ws,h2,e2,e⟩:=aF e;have hst:=cI e2;rw [List.all_cons,Bool.and_eq_true] at hst;refine wpAny_Call_Name_kw (thn (aE2 G R F e1) fun u s1 ⟨M1,l1,R1,r1⟩=>?_);obtain ⟨⟨af,rfl⟩,mg'⟩:=(uC hg).mp (show Rep X.S M1.Z (.dict kvs) u from r1);rcases G.fn _ _ hm with z | ⟨f,fd,ps,mg,kp,hb,FF⟩
     ·exact absurd ((z ws h2).symm.trans e) (by simp)
     rw [mg'] at mg;cases mg;refine PySem.W.callWith_K (h₀:=X.S.base) F.kin kp (thn (cD S G _ pos R1 (F.go l1) e2) fun us s2 ⟨M2,l2,R2,r2⟩=>⟨F.kin.keeps R2.bk,?_⟩) (bM a hst.1) (bQ pos es hst.2);exact thn (uS FF G.rm F.frs hb F.ok.mod ((F.go (l1.trans l2)).size R2) R2 r2 e) fun _ _ q=>q.go (l1.trans l2)
  | _=>cases e
 ·cases e
def cH1 (S:Snd v) (G:Good X st d) {C:Addr} {m:XFW} (ht:cC st x=true) (hm:st.ob.cls x=some (C,m)):SE X (.Call (.Name x p) (a::es) [] pos) (xb (aQ v st (a::es)) fun ws=>fun _ h=>xMk C m ws h):=by
 intro κ M δ h s w h' R F e;obtain ⟨hn,hg⟩:=mE G ht;obtain ⟨ws,h1,e1,e⟩:=aF e;have hst:=cI e1;rw [List.all_cons,Bool.and_eq_true] at hst;rcases G.cls _ _ _ hm with z | ⟨k,f,fd,ps,hk,K,FF,mg,hb⟩
 ·unfold xMk at e;rw [z] at e;cases e
 refine wpAny_Call_Name_kw (jE F R hg mg hn ?_);refine PySem.W.callWith_K (h₀:=X.S.base) F.kin K.kp (thn (cD S G _ pos R F e1) fun us s1 ⟨M1,l1,R1,r1⟩=>⟨F.kin.keeps R1.bk,?_⟩) (bM a hst.1) (bQ pos es hst.2);exact thn (aF3 K FF (G.rm.mono hk) F.frs hb F.ok.mod ((F.go l1).size R1) R1 r1 e) fun _ _ q=>q.go l1
theorem sD (env:Env) (cpos:Pos):∀ (es:List Expr),es.all aH=true->(backTo cpos (starEach es env)).all (fun x=>!x.1)=true
 | [],_=>rfl
 | e::es,h=>by
  rw [List.all_cons,Bool.and_eq_true] at h;have t:starEach (e::es) env=(false,eval e env)::starEach es env:=by
   have h1:=h.1;cases e<;>first | rfl | cases h1
  rw [t];exact sD env cpos es h.2
def uV (hs:(a::es).all aH=true) (hl:(a::es).length < 29) (env:Env) (cpos:Pos) :
  ((backTo cpos (starEach (a::es) env)).all (fun x=>!x.1)&&(backToKw cpos (keywordEach [] env)).all (fun x=>x.1.isSome)
   && decide ((a::es).length+([]:List Keyword).length+(if ([]:List Keyword).isEmpty then 0 else 1) < 30))=true:=by
 rw [sD _ _ _ hs];have:(a::es).length+0+0 < 30:=by omega
 show (true&&true&&decide _)=true;simp only [Bool.true_and,decide_eq_true_eq];exact this
def qF (ho:gP o=true) (m:Str) (env:Env):attributeBase o m env (eval o env)=eval o env:=by
 cases o<;>first | rfl | cases ho
def zF (ho:aC5 o=true) (m:Str) (env:Env):attributeBase o m env (eval o env)=eval o env:=by
 cases o<;>first | rfl | (cases ho;done) | skip
 rename_i f a k p;cases f<;>first | (cases ho;done) | skip
 cases a<;>first | (cases ho;done) | skip
 cases k<;>first | (cases ho;done) | rfl
def cH2 (S:Snd v) (G:Good X st d) {C:Addr} {g:XFW} (hm:st.ob.om m=some (C,g)) (ho:aC5 o=true) (hl:(apos.endLine==pos.line)=true) (hn:(a::es).length < 29) (hst:(a::es).all aH=true) :
  SE X (.Call (.Attribute o m apos) (a::es) [] pos) (xMo v st o m C g (a::es)):=by
 intro κ M δ h s w h' R F e;obtain ⟨x,h1,e1,e⟩:=aF e;have hst':=hst;rw [List.all_cons,Bool.and_eq_true] at hst';rcases x with _ | j
 ·cases e
 dsimp only at e;split at e
 ·rename_i C' fs ej;obtain ⟨⟨hC,hlk⟩,e5⟩:=aE e;clear e;subst hC;obtain ⟨⟨ws,h2⟩,e2,e⟩:=bind_some e5;rcases G.om _ _ _ hm with z | ⟨c,f,fd,ps,hM,FF,hb⟩
  ·rw [z] at e;cases e
  refine aF5 (zF ho _ _) (uV hst hn _ _) hl (thn (S.E G o R F e1) fun u s1 ⟨M1,l1,R1,r1⟩ pl=>?_);obtain ⟨p,ep,rfl⟩:=id r1;obtain ⟨mA,O,r,_⟩:=qE R1 ep ej;refine aD9 (F.kin.keeps R1.bk) O (c.get m) hM.at_ hM.fn (RelO.none_of (by rw [<- hlk];exact r m)) ?_;refine PySem.W.callWith_K (first:=[.ref p.1]) (h₀:=X.S.base) F.kin hM.kp (thn (cD S G _ pos R1 (F.go l1) e2) fun us s2 ⟨M2,l2,R2,r2⟩=>⟨F.kin.keeps R2.bk,?_⟩) (bM a hst'.1) (bQ pos es hst'.2);exact thn (uS (us:=.ref p.1::us) FF G.rm F.frs hb F.ok.mod (((F.go l1).go l2).size R2) R2 (.cons (r1.go l2) r2) e) fun _ _ q=>q.go (l1.trans l2)
 ·cases e
def bS0 (S:Snd v) (G:Good X st d) {f:Str} (ho:gP o=true):SE X (.Attribute o f pos) (bO4 v st o f):=by
 intro κ M δ h s w h' R F e;obtain ⟨x,h1,e1,e⟩:=aF e;refine Attribute_any_ (thn (S.E G o R F e1) fun u s1 ⟨M1,l1,R1,r1⟩=>?_) (by rw [arm_eval_Attribute,qF ho]);rcases x with _ | j
 ·cases e
 dsimp only at e;split at e
 ·rename_i C fs ej;obtain ⟨hf,e⟩:=aE e;obtain ⟨w2,e3,e4⟩:=map_some e;cases e4;obtain ⟨h5,h6⟩:=G.fo C f hf;obtain ⟨p,ep,rfl⟩:=r1;exact thn (uT F.kin R1 ep ej h5 h6 e3) fun _ _ q=>q.go l1
 ·cases e
theorem bS1 (S:Snd v) (G:Good X st d) {f:Str} {b:Expr} {fb:XR W} (hb:SE X b fb) (hs:swapsWith b (some (.Attribute o f apos)) pos.line X.env=pure false):SS X (.Assign [.Attribute o f apos] b pos) fun δ h=>(fb δ h).bind fun p=>(v.E st o δ p.2).bind fun q=>match q.1 with
 | .c j=>(match q.2[j]? with
  | some (.o C fs)=>if st.ob.fo C f=true/\fs.length < 1000 then some (.nx δ,q.2.set j (.o C (iS f p.1 fs))) else none
  | _=>none)
 | _=>none:=by
 intro κ M δ h s fl h' R F e;obtain ⟨⟨w,h1⟩,e1,e⟩:=bind_some e;obtain ⟨⟨x,h2⟩,e2,e⟩:=bind_some e;refine plainObj_wpAny_Assign_Attribute (thn (hb R F e1) fun u s1 ⟨M1,l1,R1,r1⟩=>thn (S.E G o R1 (F.go l1) e2) fun ov s2 ⟨M2,l2,R2,r2⟩=>?_) hs;rcases x with _ | j
 ·cases e
 dsimp only at e;split at e
 ·rename_i C fs ej;obtain ⟨⟨hf,hlt⟩,e⟩:=aE e;cases e;obtain ⟨h5,h6⟩:=G.fo C f hf;obtain ⟨p,ep,rfl⟩:=r2;exact uU F.kin R2 ep ej h5 h6 hlt (r1.go l2) fun s3 R3=>⟨κ,M2,.refl,l1.trans l2,R3,F.go (l1.trans l2)⟩
 ·cases e
def jZ (S:Snd v) (G:Good X st d) {f:Value} {ws:List W} {h1:aA} {Q:Value->Shared->Prop} (hx:(cC st x&&(slot st x).isNone&&st.bl.contains x)=true) (hv:bootBuiltins x=some f) (hf:(∃ i,f=.builtin i)\/∃ i,f=.type i) (R:Mem X.S κ M h s) (F:Fra X κ M δ) (e:aQ v st (a::es) δ h=some (ws,h1))
  (q:∀ {M1 us s1},Le M M1->Mem X.S κ M1 h1 s1->RepWs X.S M1 ws us->Wp X.S X.A (call f us) Q NE s1):Wp X.S X.A (eval (.Call (.Name x p) (a::es) [] pos) X.env) Q NE s:=by
 obtain ⟨h1,h2,h3⟩:=cN G hx;have hst:=cI e;rw [List.all_cons,Bool.and_eq_true] at hst;refine wpAny_Call_Name_kw (cM F R h2 h3 hv h1 ?_);rcases hf with ⟨i,rfl⟩ | ⟨i,rfl⟩
 ·exact PyProof.Rows.callWith_builtin1 (thn (cD S G _ pos R F e) fun us s1 ⟨M1,l1,R1,r1⟩=>q l1 R1 r1) (bM a hst.1) (bQ pos es hst.2)
 ·exact PyProof.Rows.callWith_type1 (thn (cD S G _ pos R F e) fun us s1 ⟨M1,l1,R1,r1⟩=>q l1 R1 r1) (bM a hst.1) (bQ pos es hst.2)
def qG (F:Fra X κ M δ) (R:Mem X.S κ M h s):(s.heap.objs.size==sysModules)=false:=by
 have h:mainGlobals < s.heap.objs.size:=(F.ok.mod.glob.keeps R.bk).lt;have:sysModules < s.heap.objs.size:=Nat.lt_trans (by decide) h;exact beq_eq_false_iff_ne.mpr (Nat.ne_of_gt this)
def cH3 (S:Snd v) (G:Good X st d) {f:Value} {g:List W->aA->Option (W×aA)} (hx:(cC st x&&(slot st x).isNone&&st.bl.contains x)=true) (hv:bootBuiltins x=some f) (hf:(∃ i,f=.builtin i)\/∃ i,f=.type i) (hg:BfS X.S f g):SE X (.Call (.Name x p) (a::es) [] pos) (xb (aQ v st (a::es)) fun ws=>fun _ h=>g ws h):=by
 intro κ M δ h s w h' R F e;obtain ⟨ws,h1,e1,e⟩:=aF e;exact jZ S G hx hv hf R F e1 fun l1 R1 r1=>thn (hg G.rm F.kin (qG (F.go l1) R1) R1 r1 e) fun _ _ q=>q.go l1
theorem bS2 (S:Snd v) (G:Good X st d) (hx:(cC st "list"&&(slot st "list").isNone&&st.bl.contains "list")=true):SF X (.Call (.Name "list" p) (a::es) [] pos) (xb (aQ v st (a::es)) fun ws=>fun _ h=>(match ws with
  | [w]=>(match ref h w with
   | some (.list xs)=>some (xs,h)
   | some (.tuple xs)=>some (xs,h)
   | _=>none)
  | _=>none)):=by
 intro κ M δ h s w h' R F e;obtain ⟨ws,h1,e1,e⟩:=aF e;refine jZ (f:=.type "list") S G hx (by decide +kernel) (.inr ⟨_,rfl⟩) R F e1 fun {M1 us s1} l1 R1 r1=>?_;rcases ws with _ | ⟨x,_ | ⟨_,_⟩⟩
 ·cases e
 ·obtain ⟨u,rfl,ru⟩:=w1 r1;dsimp only at e;split at e
  ·rename_i ex;cases e;exact thn (aD4 R1 ru (.inl ex)) fun _ _ q=>q.go l1
  ·rename_i ex;cases e;exact thn (aD4 R1 ru (.inr ex)) fun _ _ q=>q.go l1
  ·cases e
 ·cases e
def aR0 {T:Str} {Ts:String} (h:aO9 T=some Ts):bootBuiltins T=some (.type Ts)/\mD Ts:=by
 unfold aO9 at h;split at h
 ·rename_i e;cases h;subst e;exact ⟨by decide +kernel,aP6⟩
 split at h
 ·rename_i e;cases h;subst e;exact ⟨by decide +kernel,aD5⟩
 split at h
 ·rename_i e;cases h;subst e;exact ⟨by decide +kernel,aP7⟩
 split at h
 ·rename_i e;cases h;subst e;exact ⟨by decide +kernel,yY⟩
 split at h
 ·rename_i e;cases h;subst e;exact ⟨by decide +kernel,aD6⟩
 ·cases h
def bS3 (S:Snd v) (G:Good X st d) {T:Str} {Ts:String} {q:Pos} (hx:(cC st "isinstance"&&(slot st "isinstance").isNone&&st.bl.contains "isinstance")=true) (hs:aH a=true) (hT:(cC st T&&(slot st T).isNone&&st.bl.contains T)=true) (ht:aO9 T=some Ts) :
  SE X (.Call (.Name "isinstance" p) [a,.Name T q] [] pos) (xb (v.E st a) fun w=>fun _ h=>(ref h w).bind fun d=>if noD d=true then some (.d (.bool (isi d Ts)),h) else none):=by
 intro κ M δ h s w h' R F e;obtain ⟨x,h1,e1,e⟩:=aF e;obtain ⟨z,ez,e⟩:=bind_some e;obtain ⟨hnd,e⟩:=aE e;cases e;obtain ⟨n1,n2,n3⟩:=cN G hx;obtain ⟨m1,m2,m3⟩:=cN G hT;obtain ⟨hb,hk⟩:=aR0 ht;refine wpAny_Call_Name_kw (cM (u:=.builtin "isinstance") F R n2 n3 (by decide +kernel) n1 ?_);refine PyProof.Rows.callWith_builtin1 ?_ (bM a hs) (bQ pos [.Name T q] rfl);rw [bM a hs];show Wp _ _ (spliced ((false,eval a X.env)::backTo pos (starEach [.Name T q] X.env))) _ _ s;refine Calls.spliced_cons (thn (S.E G a R F e1) fun u s1 ⟨M1,l1,R1,r1⟩=>?_);rw [bM (X:=X) (es:=[]) (.Name T q) rfl];show Wp _ _ (spliced ((false,eval (.Name T q) X.env)::[])) _ _ s1;refine Calls.spliced_cons (cM (F.go l1) R1 m2 m3 hb m1 (Calls.spliced_nil ?_));exact thn (bD6 F.kin hk R1 r1 ez hnd) fun _ _ q=>q.go l1
def qH (S:Snd v) (G:Good X st d) {id:String} {x:W} {h1 h2:aA} {ws:List W} {Q:Value->Shared->Prop} (slot:Slot "list" m id) (hty:typeOf (.builtin id)=pure (.type "method_descriptor")) (ho:gP o=true) (hl:(apos.endLine==pos.line)=true) (hn:(a::es).length < 29)
  (R:Mem X.S κ M h s) (F:Fra X κ M δ) (e1:v.E st o δ h=some (x,h1)) (et:(∃ xs,DL.ref h1 x=some (.list xs))\/∃ i xs,x=.c i/\h1[i]?=some (.r xs)) (e2:aQ v st (a::es) δ h1=some (ws,h2))
  (q:∀ {M2 u us s2},Le M M2->Mem X.S κ M2 h2 s2->RepW X.S M2 x u->RepWs X.S M2 ws us->Wp X.S X.A (call (.builtin id) (u::us)) Q NE s2):Wp X.S X.A (eval (.Call (.Attribute o m apos) (a::es) [] pos) X.env) Q NE s:=by
 have hst:=cI e2;have hst':=hst;rw [List.all_cons,Bool.and_eq_true] at hst';refine wpAny_Call_method_late (qF ho _ _) (uV hst hn _ _) hl rfl (thn (S.E G o R F e1) fun u s1 ⟨M1,l1,R1,r1⟩=>?_);have ty:∃ b us n,u=.ref b/\s1.heap.get? b=some (aU us n):=by
  obtain ⟨xs,ex⟩ | ⟨i,xs,rfl,ei⟩:=et
  ·obtain ⟨b,us,n,rfl,ho,_⟩:=cH R1 r1 ex;exact ⟨b,us,n,rfl,ho⟩
  ·obtain ⟨p,ep,rfl⟩:=r1;obtain ⟨us,n,ho,_⟩:=R1.cel i p _ ep ei;exact ⟨_,us,n,rfl,ho⟩
 obtain ⟨b,us,n,rfl,hob⟩:=ty;refine ⟨"list",id,PySem.F.plainAttrs_list,slot,hty,(bK hob).isList.typeIs,fun c ec=>by cases ec;exact ⟨_,hob,rfl⟩,?_⟩;have hA:=cD S G _ pos R1 (F.go l1) e2;rw [bM a hst'.1] at hA ⊢;refine Calls.callWith_builtin (by show (false||(backTo pos (starEach es X.env)).any (·.1))=false;rw [bQ pos es hst'.2]<;>rfl) (Calls.evalArgs_plain ?_);exact thn hA fun us s2 ⟨M2,l2,R2,r2⟩=>q (l1.trans l2) R2 (r1.go l2) r2
end
end DL

namespace PySem
open PyProof.Rows
section
variable {prog:Program} {w:World} {A:Around} {E:Value->Shared->Prop} {s:Shared}
def jI {it t:Addr} {i:Nat} {items:Array Value} {x:Value} {Q:Value->Shared->Prop} (hit:s.heap.IsTupleIter it t i) (hl:s.heap.IsTuple t items) (hx:items[i]?=some x)
  (hQ:∀ h',h'.IsTupleIter it t (i+1)->Heap.SameBut it s.heap h'->Q x { s with heap:=h' }):wpAny (model prog w) A (Builtin.SmallTypes.nextOf (.ref it)) Q E s:=by
 obtain ⟨o,ho,hc,hd⟩:=id hit;obtain ⟨ol,hol,hlc,nl,hdl⟩:=hl;unfold Builtin.SmallTypes.nextOf;refine wpAny_bind (wpAny_callSpecial?_slot (hit.typeIs) F.slot_tuple_iterator_next (wpAny_call_entry F.slot_tuple_iterator_next hit.typeIs F.entry_tuple_iterator_next ?_ (F.args_tuple_iterator_next_1 _)));refine wpAny_bind (wpAny_pure (a:=(Value.ref it,[])) ?_);refine wpAny_bind (wpAny_field ho hd rfl ?_);rw [if_neg (by exact Bool.false_ne_true)];refine wpAny_bind (wpAny_field ho hd rfl ?_);refine wpAny_bind (wpAny_seqItems hol hdl ?_);show wpAny _ _ (match items[((i:Int)).toNat]? with | some x=>_ | none=>_) _ _ _;rw [Int.toNat_natCast,hx];refine wpAny_bind (wpAny_setField ho hd (by simp) ?_);refine wpAny_pure ⟨x,rfl,wpAny_pure (hQ _ ⟨_,Heap.get?_update_self _ ho (Obj.isFreed_of_fields (Obj.data_mapFields hd _)),(Obj.cls_mapFields o _).trans hc,?_⟩ (Heap.SameBut.update _ _ _))⟩;rw [Obj.data_mapFields hd];rfl
def kA {it t:Addr} {i:Nat} {items:Array Value} {Q:Value->Shared->Prop} (hh:A.handled=none) (hit:s.heap.IsTupleIter it t i) (hl:s.heap.IsTuple t items) (hx:items[i]?=none)
  (hE:∀ h' e,Heap.ExtBut it s.heap h'->(∃ o,h'.get? e=some o/\o.cls=.type "StopIteration")->E (.ref e) { s with heap:=h' }):wpAny (model prog w) A (Builtin.SmallTypes.nextOf (.ref it)) Q E s:=by
 obtain ⟨o,ho,hc,hd⟩:=id hit;obtain ⟨ol,hol,hlc,nl,hdl⟩:=hl;unfold Builtin.SmallTypes.nextOf;refine wpAny_bind (wpAny_callSpecial?_slot (hit.typeIs) F.slot_tuple_iterator_next (wpAny_call_entry F.slot_tuple_iterator_next hit.typeIs F.entry_tuple_iterator_next ?_ (F.args_tuple_iterator_next_1 _)));refine wpAny_bind (wpAny_pure (a:=(Value.ref it,[])) ?_);refine wpAny_bind (wpAny_field ho hd rfl ?_);rw [if_neg (by exact Bool.false_ne_true)];refine wpAny_bind (wpAny_field ho hd rfl ?_);refine wpAny_bind (wpAny_seqItems hol hdl ?_);show wpAny _ _ (match items[((i:Int)).toNat]? with | some x=>_ | none=>_) _ _ _;rw [Int.toNat_natCast,hx];refine wpAny_bind (wpAny_rule ?_);refine wpAny_bind (wpAny_setField ho hd (by simp) ?_);unfold Builtin.SmallTypes.stopIteration newExc;refine wpAny_bind (wpAny_bind (wpAny_newObj_type ?_ (by show (([]:List Value).toArray.size<=sizeLine);simp)));refine wpAny_bind (wpAny_pure (a:=Value.none) ?_);refine wpAny_newObj_type ?_ (sizeOk_excFields ..);unfold raiseNew;refine wpAny_bind (wpAny_handled ?_);rw [show A.in1.handled=none from hh];refine wpAny_throw (hE _ _ (fun b o' hb e=>?_) ⟨_,Heap.get?_push_size _ rfl,rfl⟩);refine Heap.get?_push_of_some _ (Heap.get?_push_of_some _ ?_);rw [(Heap.SameBut.update s.heap it _).2 b hb];exact e
noncomputable def SqAt:Bool->Heap->Addr->Array Value->Prop
 | true,h,l,xs=>h.IsTuple l xs
 | false,h,l,xs=>h.IsList l xs
noncomputable def ItAt:Bool->Heap->Addr->Addr->Nat->Prop
 | true,h,it,l,k=>h.IsTupleIter it l k
 | false,h,it,l,k=>h.IsListIter it l k
def jJ (b:Bool) (l:Addr):Obj:={ cls:=.type (if b=true then "tuple_iterator" else "list_iterator"),data:=.fields #[.ref l,.int 0 0] }
def SqAt.keep {b:Bool} {h h':Heap} {l:Addr} {xs:Array Value} (x:SqAt b h l xs) (k:∀ o,h.get? l=some o->h'.get? l=some o):SqAt b h' l xs:=by
 cases b<;>exact let ⟨o,h1,h2⟩:=x;⟨o,k o h1,h2⟩
def ItAt.keep {b:Bool} {h h':Heap} {it l:Addr} {i:Nat} (x:ItAt b h it l i) (k:∀ o,h.get? it=some o->h'.get? it=some o):ItAt b h' it l i:=by
 cases b<;>exact let ⟨o,h1,h2⟩:=x;⟨o,k o h1,h2⟩
def ItAt.new {b:Bool} {h:Heap} {it l:Addr} (e:h.get? it=some (jJ b l)):ItAt b h it l 0:=by
 cases b<;>exact ⟨_,e,rfl,rfl⟩
def dH {b:Bool} {l:Addr} {xs:Array Value} {Q:Value->Shared->Prop} (hl:SqAt b s.heap l xs) (h:Q (.ref s.heap.objs.size) { s with heap:=s.heap.push (jJ b l) }):wpAny (model prog w) A (pyIter (.ref l)) Q E s:=by
 cases b
 ·exact wpAny_pyIter_list hl h
 ·exact wpAny_pyIter_tuple hl h
def dZ {b:Bool} {it l:Addr} {i:Nat} {items:Array Value} {x:Value} {Q:Value->Shared->Prop} (hit:ItAt b s.heap it l i) (hl:SqAt b s.heap l items) (hx:items[i]?=some x)
  (hQ:∀ h',ItAt b h' it l (i+1)->Heap.SameBut it s.heap h'->Q x { s with heap:=h' }):wpAny (model prog w) A (Builtin.SmallTypes.nextOf (.ref it)) Q E s:=by
 cases b
 ·exact wpAny_nextOf_list_item hit hl hx hQ
 ·exact jI hit hl hx hQ
def iY {b:Bool} {it l:Addr} {i:Nat} {items:Array Value} {Q:Value->Shared->Prop} (hh:A.handled=none) (hit:ItAt b s.heap it l i) (hl:SqAt b s.heap l items) (hx:items[i]?=none)
  (hE:∀ h' e,Heap.ExtBut it s.heap h'->(∃ o,h'.get? e=some o/\o.cls=.type "StopIteration")->E (.ref e) { s with heap:=h' }):wpAny (model prog w) A (Builtin.SmallTypes.nextOf (.ref it)) Q E s:=by
 cases b
 ·exact wpAny_nextOf_list_end hh hit hl hx hE
 ·exact kA hh hit hl hx hE
abbrev zH1 (b:Bool) (h:Heap) (l1:Addr):Heap:=h.push (jJ b l1)
abbrev zH2 (b c:Bool) (h:Heap) (l1 l2:Addr):Heap:=(zH1 b h l1).push (jJ c l2)
abbrev zH3 (b c:Bool) (h:Heap) (l1 l2:Addr):Heap:=(zH2 b c h l1 l2).push { cls:=.type "tuple",data:=.seq #[.ref h.objs.size,.ref (zH1 b h l1).objs.size] }
abbrev zH4 (b c:Bool) (h:Heap) (l1 l2:Addr):Heap:=(zH3 b c h l1 l2).push { cls:=.type "tuple",data:=.seq #[.none,.none] }
abbrev zH5 (b c:Bool) (h:Heap) (l1 l2:Addr):Heap:=(zH4 b c h l1 l2).push { cls:=.type "zip",data:=.fields #[.none,.bool false,.bool false,.ref (zH2 b c h l1 l2).objs.size,.ref (zH3 b c h l1 l2).objs.size] }
def aR1 (b c:Bool) (l1 l2:Addr) (xs ys:Array Value):Meets (Builtin.«zip.__new__» { pos:=[.type "zip",.ref l1,.ref l2] }) fun _ R s=>SqAt b s.heap l1 xs/\SqAt c s.heap l2 ys /\
  R (.ok (.ret (.ref (zH4 b c s.heap l1 l2).objs.size))) { s with heap:=zH5 b c s.heap l1 l2 }:=by
 refine Meets.of_wp fun prog w A R s h=>?_;obtain ⟨h1,h2,h⟩:=h;unfold Builtin.«zip.__new__»;refine wpAny_bind (wpAny_pure (a:=(Value.type "zip",[Value.ref l1,Value.ref l2])) ?_);dsimp only;rw [if_neg (by decide)];refine wpAny_bind ?_;unfold Builtin.SmallTypes.iterAll;refine wpAny_bind ?_;rw [List.forIn_cons];refine wpAny_bind (wpAny_bind (wpAny_holding (dH h1 (wpAny_pure ?_))));dsimp only;rw [List.forIn_cons];refine wpAny_bind (wpAny_bind (wpAny_holding (dH (h2.keep fun o e=>Heap.get?_push_of_some _ e) (wpAny_pure ?_))));dsimp only;rw [List.forIn_nil];refine wpAny_pure (wpAny_pure ?_);refine wpAny_bind (wpAny_newObj_type ?_ (by show (_:Array Value).size<=sizeLine;simp [sizeLine_eq]));refine wpAny_bind (wpAny_newObj_type ?_ (by show (_:Array Value).size<=sizeLine;simp [sizeLine_eq]));refine wpAny_bind ?_;unfold Builtin.SmallTypes.newRecord;refine wpAny_newObj_type (wpAny_pure ⟨_,rfl,h⟩) ?_;simp [sizeOk,Builtin.SmallTypes.ownedTupleFields,sizeLine_eq]
def aF7 {b c:Bool} {l1 l2:Addr} {xs ys:Array Value} {Q:Value->Shared->Prop} (h1:SqAt b s.heap l1 xs) (h2:SqAt c s.heap l2 ys)
  (h:∀ h',IsZip h' (s.heap.objs.size+4) (s.heap.objs.size+2) (s.heap.objs.size+3) .none->IsPair h' (s.heap.objs.size+2) (.ref s.heap.objs.size) (.ref (s.heap.objs.size+1))->IsPair h' (s.heap.objs.size+3) .none .none ->
   ItAt b h' s.heap.objs.size l1 0->ItAt c h' (s.heap.objs.size+1) l2 0->h'.objs.size=s.heap.objs.size+5->(∀ a o,s.heap.get? a=some o->h'.get? a=some o)->Q (.ref (s.heap.objs.size+4)) { s with heap:=h' }) :
  wpAny (model prog w) A (call (.type "zip") [.ref l1,.ref l2]) Q E s:=by
 have z1:(zH1 b s.heap l1).objs.size=s.heap.objs.size+1:=Heap.size_push ..;have z2:(zH2 b c s.heap l1 l2).objs.size=s.heap.objs.size+2:=by rw [zH2,Heap.size_push,z1]
 have z3:(zH3 b c s.heap l1 l2).objs.size=s.heap.objs.size+3:=by rw [zH3,Heap.size_push,z2]
 have z4:(zH4 b c s.heap l1 l2).objs.size=s.heap.objs.size+4:=by rw [zH4,Heap.size_push,z3]
 have z5:(zH5 b c s.heap l1 l2).objs.size=s.heap.objs.size+5:=by rw [zH5,Heap.size_push,z4]
 have g5:(zH5 b c s.heap l1 l2).get? (zH4 b c s.heap l1 l2).objs.size=_:=Heap.get?_push_size _ rfl;have g4:(zH5 b c s.heap l1 l2).get? (zH3 b c s.heap l1 l2).objs.size=_:=Heap.get?_push_of_some _ (Heap.get?_push_size _ rfl);have g3:(zH5 b c s.heap l1 l2).get? (zH2 b c s.heap l1 l2).objs.size=_:=Heap.get?_push_of_some _ (Heap.get?_push_of_some _ (Heap.get?_push_size _ rfl));have g2:(zH5 b c s.heap l1 l2).get? (zH1 b s.heap l1).objs.size=_:=Heap.get?_push_of_some _ (Heap.get?_push_of_some _ (Heap.get?_push_of_some _ (Heap.get?_push_size _ rfl)));have g1:(zH5 b c s.heap l1 l2).get? s.heap.objs.size=_:=Heap.get?_push_of_some _ (Heap.get?_push_of_some _ (Heap.get?_push_of_some _ (Heap.get?_push_of_some _ (Heap.get?_push_size _ rfl))));refine callType_new F.called_zip (by decide) (F.typeCall_zip_2 _ _) (F.newCall_zip_2 _ _) (fun obj=>F.args_object_init_3 obj _ _) F.entry_zip_new (aR1 b c l1 l2 xs ys) ⟨h1,h2,?_⟩;have q:=h (zH5 b c s.heap l1 l2) (by rw [z4,z3,z2] at g5;exact g5) (by rw [z2,z1] at g3;exact g3) (by rw [z3] at g4;exact g4) (.new g1) (.new (by rw [z1] at g2;exact g2)) z5
  (fun a o e=>Heap.get?_push_of_some _ (Heap.get?_push_of_some _ (Heap.get?_push_of_some _ (Heap.get?_push_of_some _ (Heap.get?_push_of_some _ e)))))
 rw [<- z4] at q;exact ⟨⟨_,g5,rfl⟩,q⟩
def qI {h:Heap} {z TI TO:Addr} {f0 x:Value} (hz:IsZip h z TI TO f0):IsZip (h.update z (Obj.mapFields fun a=>a.setIfInBounds 0 x)) z TI TO x:=by
 refine (Heap.get?_update_self _ hz (Obj.isFreed_of_fields (Obj.data_mapFields rfl _))).trans ?_;rfl
def aF8 {h:Heap} {z TI TO:Addr} {f0:Value} (hz:IsZip h z TI TO f0):IsZip (h.update z (Obj.mapFields fun a=>a.setIfInBounds 1 (.bool false))) z TI TO f0:=by
 refine (Heap.get?_update_self _ hz (Obj.isFreed_of_fields (Obj.data_mapFields rfl _))).trans ?_;rfl
structure ZApart (z TI TO i1 i2:Addr):Prop where
 TIz:TI≠z
 TOz:TO≠z
 i1z:i1≠z
 i2z:i2≠z
 TITO:TI≠TO
 TOi1:TO≠i1
 TOi2:TO≠i2
 TIi1:TI≠i1
 TIi2:TI≠i2
 i12:i1≠i2
def zG {b c:Bool} {z TI TO i1 i2 l1 l2:Addr} {k:Nat} {xs ys:Array Value} {x y u v:Value} {Q:Value->Shared->Prop} (D:ZApart z TI TO i1 i2) (hz:IsZip s.heap z TI TO .none) (hTI:IsPair s.heap TI (.ref i1) (.ref i2)) (hTO:IsPair s.heap TO u v)
  (h1:ItAt b s.heap i1 l1 k) (h2:ItAt c s.heap i2 l2 k) (q1:SqAt b s.heap l1 xs) (q2:SqAt c s.heap l2 ys) (nz1:l1≠z) (nz2:l2≠z) (nT2:l2≠TO) (n21:l2≠i1) (hx:xs[k]?=some x) (hy:ys[k]?=some y)
  (hQ:∀ h',IsZip h' z TI TO (rawInt s.heap.objs.size)->IsPair h' TO x y->ItAt b h' i1 l1 (k+1)->ItAt c h' i2 l2 (k+1)->IsPair h' s.heap.objs.size x y->h'.objs.size=s.heap.objs.size+1 ->
   (∀ a o,a≠z->a≠TO->a≠i1->a≠i2->s.heap.get? a=some o->h'.get? a=some o)->Q (.ref s.heap.objs.size) { s with heap:=h' }) :
  wpAny (model prog w) A (Builtin.«zip.__next__» { pos:=[.ref z] }) (fun fin s'=>∃ v,fin=Fin.done (.ret v)/\Q v s') E s:=by
 unfold Builtin.«zip.__next__»;refine wpAny_bind (wpAny_pure (a:=(Value.ref z,[])) ?_);refine wpAny_bind (wpAny_field hz rfl rfl ?_);refine wpAny_bind (wpAny_field hz rfl rfl ?_);refine wpAny_bind (wpAny_seqItems hTI rfl ?_);dsimp only;rw [if_neg (by simp)];refine wpAny_bind ?_;unfold Builtin.SmallTypes.ownedTupleIsFree;refine wpAny_bind (wpAny_field hz rfl rfl ?_);refine wpAny_pure ?_;rw [if_pos rfl];refine wpAny_bind (wpAny_rule ?_);refine wpAny_bind (wpAny_field hz rfl rfl ?_);refine wpAny_bind (wpAny_setField hz rfl (by simp) ?_);have e1:=Heap.SameBut.update s.heap z (Obj.mapFields fun a=>a.setIfInBounds 0 Value.ellipsis);have hz1:=qI (x:=Value.ellipsis) hz;generalize s.heap.update z (Obj.mapFields fun a=>a.setIfInBounds 0 Value.ellipsis)=H1 at e1 hz1 ⊢;have h11:ItAt b H1 i1 l1 k:=h1.keep fun o e=>(e1.2 _ D.i1z).trans e;have q11:SqAt b H1 l1 xs:=q1.keep fun o e=>(e1.2 _ nz1).trans e;have hTO1:IsPair H1 TO u v:=(e1.2 _ D.TOz).trans hTO;refine wpAny_bind ?_;rw [show [Value.ref i1,Value.ref i2].zipIdx=[(Value.ref i1,0),(Value.ref i2,1)] from rfl,List.forIn_cons];refine wpAny_bind (wpAny_bind (wpAny_onRaise ?_))
 change wpAny _ _ (Builtin.SmallTypes.nextOf (Value.ref i1) >>= fun v=>pure (some v)) _ _ _
 refine wpAny_bind (dZ h11 q11 hx fun H2 h12 e2=>wpAny_pure ?_);have hz2:IsZip H2 z TI TO .ellipsis:=(e2.2 _ D.i1z.symm).trans hz1;have hTO2:IsPair H2 TO u v:=(e2.2 _ D.TOi1).trans hTO1;refine wpAny_bind (wpAny_seqItems hTO2 rfl (wpAny_bind (wpAny_updateSeq_pair hTO2 fun H3 hTO3 e3=>wpAny_bind (wpAny_letGo (wpAny_pure ?_)))));have hTO3:IsPair H3 TO x v:=hTO3;have hz3:IsZip H3 z TI TO .ellipsis:=(e3.2 _ D.TOz.symm).trans hz2;have h23:ItAt c H3 i2 l2 k:=h2.keep fun o e=>(e3.2 _ D.TOi2.symm).trans ((e2.2 _ D.i12.symm).trans ((e1.2 _ D.i2z).trans e));have q23:SqAt c H3 l2 ys:=q2.keep fun o e=>(e3.2 _ nT2).trans ((e2.2 _ n21).trans ((e1.2 _ nz2).trans e));dsimp only;rw [List.forIn_cons];refine wpAny_bind (wpAny_bind (wpAny_onRaise ?_))
 change wpAny _ _ (Builtin.SmallTypes.nextOf (Value.ref i2) >>= fun v=>pure (some v)) _ _ _
 refine wpAny_bind (dZ h23 q23 hy fun H4 h24 e4=>wpAny_pure ?_);have hz4:IsZip H4 z TI TO .ellipsis:=(e4.2 _ D.i2z.symm).trans hz3;have hTO4:IsPair H4 TO x v:=(e4.2 _ D.TOi2).trans hTO3;refine wpAny_bind (wpAny_seqItems hTO4 rfl (wpAny_bind (wpAny_updateSeq_pair hTO4 fun H5 hTO5 e5=>wpAny_bind (wpAny_letGo (wpAny_pure ?_)))));have hTO5:IsPair H5 TO x y:=hTO5;have hz5:IsZip H5 z TI TO .ellipsis:=(e5.2 _ D.TOz.symm).trans hz4;dsimp only;rw [List.forIn_nil];refine wpAny_pure ?_;refine wpAny_bind (wpAny_seqItems hTO5 rfl ?_);refine wpAny_bind (wpAny_newObj_type ?_ (by simp [sizeOk,sizeLine_eq]));have es:H5.objs.size=s.heap.objs.size:=by rw [e5.1,e4.1,e3.1,e2.1,e1.1]
 have g6:IsPair (H5.push { cls:=.type "tuple",data:=.seq #[x,y] }) H5.objs.size x y:=Heap.get?_push_size _ rfl;have k6:∀ a o,H5.get? a=some o->(H5.push { cls:=.type "tuple",data:=.seq #[x,y] }).get? a=some o:=fun a o e=>Heap.get?_push_of_some _ e;have s6:(H5.push { cls:=.type "tuple",data:=.seq #[x,y] }).objs.size=s.heap.objs.size+1:=by rw [Heap.size_push,es]
 have hz6:=k6 _ _ hz5;refine wpAny_bind ?_;unfold Builtin.SmallTypes.ownedTupleHandOut;refine wpAny_bind (wpAny_setField hz6 rfl (by simp) ?_);have hz7:=qI (x:=rawInt H5.objs.size) hz6;refine wpAny_setField hz7 rfl (by simp) ?_;have hz8:=aF8 hz7;have e7:=Heap.SameBut.update (H5.push { cls:=.type "tuple",data:=.seq #[x,y] }) z (Obj.mapFields fun a=>a.setIfInBounds 0 (rawInt H5.objs.size));have e8:=Heap.SameBut.update ((H5.push { cls:=.type "tuple",data:=.seq #[x,y] }).update z (Obj.mapFields fun a=>a.setIfInBounds 0 (rawInt H5.objs.size))) z (Obj.mapFields fun a=>a.setIfInBounds 1 (.bool false));have kk:∀ a o,a≠z->H5.get? a=some o->(((H5.push { cls:=.type "tuple",data:=.seq #[x,y] }).update z (Obj.mapFields fun a=>a.setIfInBounds 0 (rawInt H5.objs.size))).update z (Obj.mapFields fun a=>a.setIfInBounds 1 (.bool false))).get? a=some o :=
  fun a o n e=>(e8.2 a n).trans ((e7.2 a n).trans (k6 a o e))
 have nsz:H5.objs.size≠z:=fun e=>by
  have:=Heap.lt_size hz5;rw [<- e] at this;exact Nat.lt_irrefl _ this
 have g8:=(e8.2 _ nsz).trans ((e7.2 _ nsz).trans g6);have hs8:=e8.1.trans (e7.1.trans s6);have h15:ItAt b H5 i1 l1 (k+1):=h12.keep fun o e=>(e5.2 _ D.TOi1.symm).trans ((e4.2 _ D.i12).trans ((e3.2 _ D.TOi1.symm).trans e));have h25:ItAt c H5 i2 l2 (k+1):=h24.keep fun o e=>(e5.2 _ D.TOi2.symm).trans e;have q:=hQ _ (by rw [es] at hz8;rw [es];exact hz8) (kk _ _ D.TOz hTO5) (h15.keep fun o e=>kk _ _ D.i1z e) (h25.keep fun o e=>kk _ _ D.i2z e) (by rw [<- es];exact g8) hs8
  (fun a o n1 n2 n3 n4 e=>kk _ _ n1 ((e5.2 _ n2).trans ((e4.2 _ n4).trans ((e3.2 _ n2).trans ((e2.2 _ n3).trans ((e1.2 _ n1).trans e))))))
 refine wpAny_pure ⟨_,rfl,?_⟩;rw [<- es] at q;exact q
def aF9 {b c:Bool} {z TI TO i1 i2 l1 l2:Addr} {k:Nat} {xs ys:Array Value} {u v:Value} {Q:Fin->Shared->Prop} (hh:A.handled=none) (D:ZApart z TI TO i1 i2) (hz:IsZip s.heap z TI TO .none) (hTI:IsPair s.heap TI (.ref i1) (.ref i2)) (hTO:IsPair s.heap TO u v)
  (h1:ItAt b s.heap i1 l1 k) (h2:ItAt c s.heap i2 l2 k) (q1:SqAt b s.heap l1 xs) (q2:SqAt c s.heap l2 ys) (nz1:l1≠z) (nz2:l2≠z) (nT2:l2≠TO) (n21:l2≠i1) (hn:xs[k]?=none\/ys[k]?=none)
  (hE:∀ h' e,(∀ a o,a≠z->a≠TO->a≠i1->a≠i2->s.heap.get? a=some o->h'.get? a=some o)->(∃ o,h'.get? e=some o/\o.cls=.type "StopIteration")->E (.ref e) { s with heap:=h' }) :
  wpAny (model prog w) A (Builtin.«zip.__next__» { pos:=[.ref z] }) Q E s:=by
 unfold Builtin.«zip.__next__»;refine wpAny_bind (wpAny_pure (a:=(Value.ref z,[])) ?_);refine wpAny_bind (wpAny_field hz rfl rfl ?_);refine wpAny_bind (wpAny_field hz rfl rfl ?_);refine wpAny_bind (wpAny_seqItems hTI rfl ?_);dsimp only;rw [if_neg (by simp)];refine wpAny_bind ?_;unfold Builtin.SmallTypes.ownedTupleIsFree;refine wpAny_bind (wpAny_field hz rfl rfl ?_);refine wpAny_pure ?_;rw [if_pos rfl];refine wpAny_bind (wpAny_rule ?_);refine wpAny_bind (wpAny_field hz rfl rfl ?_);refine wpAny_bind (wpAny_setField hz rfl (by simp) ?_);have e1:=Heap.SameBut.update s.heap z (Obj.mapFields fun a=>a.setIfInBounds 0 Value.ellipsis);have hz1:=qI (x:=Value.ellipsis) hz;generalize s.heap.update z (Obj.mapFields fun a=>a.setIfInBounds 0 Value.ellipsis)=H1 at e1 hz1 ⊢;have h11:ItAt b H1 i1 l1 k:=h1.keep fun o e=>(e1.2 _ D.i1z).trans e;have q11:SqAt b H1 l1 xs:=q1.keep fun o e=>(e1.2 _ nz1).trans e;have hTO1:IsPair H1 TO u v:=(e1.2 _ D.TOz).trans hTO;have aM:∀ (H4 H5:Heap) (e:Addr),IsZip H5 z TI TO .ellipsis->(∀ a o,a≠z->a≠TO->a≠i1->a≠i2->s.heap.get? a=some o->H5.get? a=some o)->(∃ o,H5.get? e=some o/\o.cls=.type "StopIteration") ->
   wpAny (model prog w) A (setField (.ref z) 0 .none) (fun _ s''=>E (.ref e) s'') E { s with heap:=H5 }:=fun H4 H5 e hz5 kk ⟨o,ho,hc⟩=>by
  refine wpAny_setField hz5 rfl (by simp) ?_;have e6:=Heap.SameBut.update H5 z (Obj.mapFields fun a=>a.setIfInBounds 0 Value.none);refine hE _ e (fun a o n1 n2 n3 n4 g=>(e6.2 _ n1).trans (kk a o n1 n2 n3 n4 g)) ⟨o,(e6.2 _ fun z'=>?_).trans ho,hc⟩;rw [z'] at ho;have hz5:H5.get? z=_:=hz5;rw [ho] at hz5;cases hz5;simp at hc
 refine wpAny_bind ?_;rw [show [Value.ref i1,Value.ref i2].zipIdx=[(Value.ref i1,0),(Value.ref i2,1)] from rfl,List.forIn_cons];refine wpAny_bind (wpAny_bind (wpAny_onRaise ?_))
 change wpAny _ _ (Builtin.SmallTypes.nextOf (Value.ref i1) >>= fun v=>pure (some v)) _ _ _
 by_cases hx:xs[k]?=none
 ·refine wpAny_bind (iY hh h11 q11 hx fun H2 e g2 he=>aM H2 H2 e ?_ (fun a o n1 n2 n3 n4 g=>?_) he)
  ·exact g2 _ _ D.i1z.symm hz1
  ·exact g2 _ _ n3 ((e1.2 _ n1).trans g)
 obtain ⟨x,hx⟩:=Option.ne_none_iff_exists'.mp hx;have hy:ys[k]?=none:=hn.resolve_left (by rw [hx];simp);refine wpAny_bind (dZ h11 q11 hx fun H2 h12 e2=>wpAny_pure ?_);have hz2:IsZip H2 z TI TO .ellipsis:=(e2.2 _ D.i1z.symm).trans hz1;have hTO2:IsPair H2 TO u v:=(e2.2 _ D.TOi1).trans hTO1;refine wpAny_bind (wpAny_seqItems hTO2 rfl (wpAny_bind (wpAny_updateSeq_pair hTO2 fun H3 hTO3 e3=>wpAny_bind (wpAny_letGo (wpAny_pure ?_)))));have hz3:IsZip H3 z TI TO .ellipsis:=(e3.2 _ D.TOz.symm).trans hz2;have h23:ItAt c H3 i2 l2 k:=h2.keep fun o e=>(e3.2 _ D.TOi2.symm).trans ((e2.2 _ D.i12.symm).trans ((e1.2 _ D.i2z).trans e));have q23:SqAt c H3 l2 ys:=q2.keep fun o e=>(e3.2 _ nT2).trans ((e2.2 _ n21).trans ((e1.2 _ nz2).trans e));dsimp only;rw [List.forIn_cons];refine wpAny_bind (wpAny_bind (wpAny_onRaise ?_))
 change wpAny _ _ (Builtin.SmallTypes.nextOf (Value.ref i2) >>= fun v=>pure (some v)) _ _ _
 refine wpAny_bind (iY hh h23 q23 hy fun H4 e g4 he=>aM H4 H4 e ?_ (fun a o n1 n2 n3 n4 g=>?_) he)
 ·exact g4 _ _ D.i2z.symm hz3
 ·exact g4 _ _ n4 ((e3.2 _ n2).trans ((e2.2 _ n3).trans ((e1.2 _ n1).trans g)))
end
end PySem
namespace PySem
open PySem.Spec PyProof.Rows
def SqAt.ob {b:Bool} {h:Heap} {l:Addr} {xs:Array Value} (x:SqAt b h l xs):∃ o,h.get? l=some o:=by cases b<;>exact ⟨_,x.choose_spec.1⟩
def ItAt.ob {b:Bool} {h:Heap} {it l:Addr} {i:Nat} (x:ItAt b h it l i):∃ o,h.get? it=some o:=by cases b<;>exact ⟨_,x.choose_spec.1⟩
def aG0 (b:Bool) (l:Addr) (xs:Array Value):Meets (Builtin.«enumerate.__new__» ⟨[.type "enumerate",.ref l],[]⟩) fun _ R s=>SqAt b s.heap l xs /\
  R (.ok (.ret (.ref (s.heap.push (jJ b l)).objs.size))) { s with heap:=(s.heap.push (jJ b l)).push { cls:=.type "enumerate",data:=.fields #[.none,.bool false,.ref s.heap.objs.size,rawInt 0,.none,.none] } }:=by
 refine Meets.of_wp fun prog w A R s h=>?_;obtain ⟨h1,h⟩:=h;obtain ⟨o,ho⟩:=h1.ob;obtain ⟨hp,g,d,tk,os⟩:=s;have hsub:=sub_enumerate
 wp_walk using AutoSeq1.wpAny_loadPart' ho
 refine wpAny_stack_any fun st=>wpAny_pure ?_;split
 ·rename_i c _ _ _ _ _;cases (c==Value.type "enumerate")
  ·wp_walk using AutoSeq1.wpAny_loadPart' ho,dH h1
   exact ⟨_,rfl,h⟩
  ·wp_walk using AutoSeq1.wpAny_loadPart' ho,dH h1
   exact ⟨_,rfl,h⟩
 ·wp_walk using AutoSeq1.wpAny_loadPart' ho,dH h1
  exact ⟨_,rfl,h⟩
section
variable {prog:Program} {w:World} {A:Around} {E:Value->Shared->Prop} {s:Shared}
def aR2 {b:Bool} {e it l:Addr} {i:Nat} {items:Array Value} {x old:Value} {Q:Option Value->Shared->Prop}
  (he:IsEnum s.heap e it i old) (hit:ItAt b s.heap it l i) (hl:SqAt b s.heap l items) (hx:items[i]?=some x) (hne:e≠it)
  (hQ:∀ h',IsEnumOut h' e it ((i:Int)+1) x s.heap.objs.size->ItAt b h' it l (i+1)->h'.get? s.heap.objs.size=some { cls:=.type "tuple",data:=.seq #[.int i s.toks,x] }->h'.objs.size=s.heap.objs.size+1 ->
   (∀ c o,c≠e->c≠it->s.heap.get? c=some o->h'.get? c=some o)->Q (some (.ref s.heap.objs.size)) { s with heap:=h',toks:=s.toks+1 }):wpAny (model prog w) A (pyNext (.ref e)) Q E s:=by
 have hT:s.TypeIs (.ref e) "enumerate":=⟨_,he,rfl⟩;have ne':∀ {h1 h2:Heap},Heap.SameBut e h1 h2->∀ o,h1.get? it=some o->h2.get? it=some o:=fun sb o q=>(sb.2 _ hne.symm).trans q;unfold pyNext;refine wpAny_bind (wpAny_attempt (wpAny_callSpecial?_slot (name:=Str.ofString "__next__") hT F.slot_enumerate_next (wpAny_call_entry F.slot_enumerate_next hT F.entry_enumerate_next ?_ (F.args_enumerate_next_1 _))));unfold Builtin.«enumerate.__next__»;refine wpAny_bind (wpAny_pure (a:=(Value.ref e,[])) (wpAny_bind (wpAny_field he rfl (x:=.ref it) rfl (wpAny_bind (dZ hit hl hx fun H1 it1 e1=>?_)))));have he1:IsEnum H1 e it i old:=(e1.2 _ hne).trans he;refine wpAny_bind (wpAny_field he1 rfl (x:=rawInt i) rfl ?_);dsimp only [rawInt];refine wpAny_bind (wpAny_field he1 rfl (x:=.none) rfl ?_);rw [if_pos (by rfl)];refine wpAny_bind (wpAny_mkInt ?_);refine wpAny_bind (wpAny_setField_rec he1 (by simp) fun H2 he2 s2=>wpAny_bind (wpAny_setField_rec (s:={ s with heap:=H2,toks:=s.toks+1 }) he2 (by simp) fun H3 he3 s3=>?_));have he3':IsEnum H3 e it ((i:Int)+1) old:=he3;have z3:H3.objs.size=s.heap.objs.size:=by
  have q2:H2.objs.size=H1.objs.size:=s2.1;have q3:H3.objs.size=H2.objs.size:=s3.1;rw [q3,q2];exact e1.1
 refine wpAny_bind (wpAny_newTuple (items:=[.int i s.toks,x]) ?_);have he4:IsEnum (H3.push { cls:=.type "tuple",data:=.seq #[.int i s.toks,x] }) e it ((i:Int)+1) old:=Heap.get?_push_of_some _ he3';have g4:(H3.push { cls:=.type "tuple",data:=.seq #[.int i s.toks,x] }).get? s.heap.objs.size=some { cls:=.type "tuple",data:=.seq #[.int i s.toks,x] }:=by rw [<- z3];exact Heap.get?_push_size _ rfl
 have z4:(H3.push { cls:=.type "tuple",data:=.seq #[.int i s.toks,x] }).objs.size=s.heap.objs.size+1:=by rw [Heap.size_push,z3]
 have k4:∀ c o,c≠e->c≠it->s.heap.get? c=some o->(H3.push { cls:=.type "tuple",data:=.seq #[.int i s.toks,x] }).get? c=some o:=fun c o n1 n2 q=>Heap.get?_push_of_some _ ((s3.2 _ n1).trans ((s2.2 _ n1).trans ((e1.2 _ n2).trans q)));have it4:ItAt b (H3.push { cls:=.type "tuple",data:=.seq #[.int i s.toks,x] }) it l (i+1):=it1.keep fun o q=>Heap.get?_push_of_some _ (ne' s3 o (ne' s2 o q));refine wpAny_bind ?_;unfold Builtin.SmallTypes.ownedTupleIsFree;refine wpAny_bind (wpAny_field he4 rfl (x:=.none) rfl (wpAny_pure ?_));rw [if_pos rfl];have el:s.heap.objs.size≠e:=Nat.ne_of_gt (Heap.lt_size he);refine wpAny_bind (wpAny_rule (wpAny_bind (wpAny_field he4 rfl (x:=old) rfl (wpAny_bind (wpAny_setField_rec (s:={ s with heap:=H3.push { cls:=.type "tuple",data:=.seq #[.int i s.toks,x] },toks:=s.toks+1 }) he4 (by simp) fun H5 he5 s5=>wpAny_bind ?_)))));unfold Builtin.SmallTypes.ownedTupleHandOut;rw [z3];refine wpAny_bind (wpAny_setField_rec (s:={ s with heap:=H5,toks:=s.toks+1 }) he5 (by simp) fun H6 he6 s6=>wpAny_setField_rec (s:={ s with heap:=H6,toks:=s.toks+1 }) he6 (by simp) fun H7 he7 s7=>wpAny_bind (wpAny_letGo (wpAny_pure ⟨_,rfl,wpAny_pure (hQ H7 he7 ?_ ?_ ?_ fun c o n1 n2 q=>?_)⟩)))
 ·exact it4.keep fun o q=>ne' s7 o (ne' s6 o (ne' s5 o q))
 ·exact (s7.2 _ el).trans ((s6.2 _ el).trans ((s5.2 _ el).trans g4))
 ·have q5:H5.objs.size=_:=s5.1;have q6:H6.objs.size=H5.objs.size:=s6.1;have q7:H7.objs.size=H6.objs.size:=s7.1;rw [q7,q6,q5];exact z4
 ·exact (s7.2 _ n1).trans ((s6.2 _ n1).trans ((s5.2 _ n1).trans (k4 c o n1 n2 q)))
def bF2 {b:Bool} {e it l:Addr} {i:Nat} {items:Array Value} {old:Value} {Q:Option Value->Shared->Prop} (hh:A.handled=none) (he:IsEnum s.heap e it i old) (hit:ItAt b s.heap it l i) (hl:SqAt b s.heap l items) (hx:items[i]?=none)
  (hQ:∀ h',(∀ c o,c≠it->s.heap.get? c=some o->h'.get? c=some o)->Q none { s with heap:=h' }):wpAny (model prog w) A (pyNext (.ref e)) Q E s:=by
 have hT:s.TypeIs (.ref e) "enumerate":=⟨_,he,rfl⟩;unfold pyNext;refine wpAny_bind (wpAny_attempt (wpAny_callSpecial?_slot (name:=Str.ofString "__next__") hT F.slot_enumerate_next (wpAny_call_entry F.slot_enumerate_next hT F.entry_enumerate_next ?_ (F.args_enumerate_next_1 _))));unfold Builtin.«enumerate.__next__»;refine wpAny_bind (wpAny_pure (a:=(Value.ref e,[])) (wpAny_bind (wpAny_field he rfl (x:=.ref it) rfl (wpAny_bind (iY (A:=A.in1) hh hit hl hx fun H1 x k1 ⟨o,ho,hc⟩=>?_)))));exact wpAny_bind (wpAny_isInstance ⟨o,ho,hc⟩ isSubtype_stop (wpAny_pure (hQ H1 k1)))
end
end PySem

namespace DL
open PySem PySem.Spec PyProof.Rows L2 CI
section
variable {S:Sx} {κ:Kp} {M M0:Mp} {h:aA} {s:Shared} {A:Around} {E:Value->Shared->Prop} {elts:List Expr} {n:Nat} {pos:Pos}
def SqZ (M:Mp) (b:Bool) (a:Addr) (us:List Value):Prop:=∃ n,M.Z a=some { cls:=.type (if b=true then "tuple" else "list"),data:=.seq us.toArray n }
def SqZ.at {b:Bool} {a:Addr} {us:List Value} (x:SqZ M0 b a us) (l:Le M0 M) (R:Mem S κ M h s):SqAt b s.heap a us.toArray:=by
 obtain ⟨n,e⟩:=x;have e:=R.z _ _ (l.z _ _ e);cases b
 ·exact (bK e).isList
 ·exact eY e
def SqZ.ne {b:Bool} {a c:Addr} {us:List Value} (x:SqZ M0 b a us) (l:Le M0 M) (f:bA κ M c):a≠c:=fun z=>by
 obtain ⟨n,e⟩:=x;have e:=l.z _ _ e;rw [z,f.1] at e;cases e
def aG1 {w:W} {u:Value} {xs:List PyData} (e:lQ w=some xs) (r:RepW S M w u):∃ b a us,u=.ref a/\SqZ M b a us/\us.length<=sizeLine/\Reps' S M xs us:=by
 unfold lQ at e;split at e
 ·cases e;obtain ⟨a,o,us,rfl,z,⟨⟨n,rfl⟩,hz⟩,rr⟩:=rep_l.mp (show Rep S M.Z _ _ from r);exact ⟨false,a,us,rfl,⟨n,z⟩,hz,rr⟩
 ·cases e;obtain ⟨a,o,us,rfl,z,⟨⟨n,rfl⟩,hz⟩,rr⟩:=rep_t.mp (show Rep S M.Z _ _ from r);exact ⟨true,a,us,rfl,⟨n,z⟩,hz,rr⟩
 ·cases e
def Mem.pair {h2:Heap} {t:Nat} {fp:List Addr} {x y:PyData} {u v:Value} (R:Mem S κ M h s) (hf:∀ b∈fp,bA κ M b) (hs:∀ b∈fp,∃ o,s.heap.get? b=some o) (k:∀ b o,b∉fp->s.heap.get? b=some o->h2.get? b=some o) (e:h2.get? s.heap.objs.size=some { cls:=.type "tuple",data:=.seq #[u,v] }) (rx:Rep S M.Z x u) (ry:Rep S M.Z y v) :
  ∃ M',Le M M'/\Mem S κ M' h { s with heap:=h2,toks:=t }/\Rep S M'.Z (.tuple [x,y]) (.ref s.heap.objs.size)/\∀ b∈fp,bA κ M' b:=by
 have R1:Mem S κ M h { s with heap:=h2,toks:=t }:=R.turn hf k;refine ⟨_,.add R.size.1,R1.frz R.size e,rep_t.mpr ⟨_,_,[u,v],rfl,jB,⟨⟨0,rfl⟩,by simp [sizeLine_eq]⟩,.cons (Rep.go (Le.add R.size.1).z rx) (.cons (Rep.go (Le.add R.size.1).z ry) .nil)⟩,fun b hb=>⟨?_,(hf b hb).2⟩⟩;obtain ⟨o,q⟩:=hs b hb;show (if b=s.heap.objs.size then _ else M.Z b)=none;rw [if_neg (Nat.ne_of_lt (Heap.lt_size q))];exact (hf b hb).1
def ZSt (b c:Bool) (z TI TO i1 i2 l1 l2:Addr) (i:Nat) (h:Heap):Prop :=
 IsZip h z TI TO .none/\IsPair h TI (.ref i1) (.ref i2)/\(∃ u v,IsPair h TO u v)/\ItAt b h i1 l1 i/\ItAt c h i2 l2 i
def ZSt.obj {b c:Bool} {z TI TO i1 i2 l1 l2:Addr} {i:Nat} {h:Heap} (st:ZSt b c z TI TO i1 i2 l1 l2 i h):∀ a∈[z,TI,TO,i1,i2],∃ o,h.get? a=some o:=fun a ha=>by
 obtain ⟨s1,s2,⟨u,v,s3⟩,s4,s5⟩:=st;simp only [List.mem_cons,List.not_mem_nil,or_false] at ha;rcases ha with rfl | rfl | rfl | rfl | rfl
 ·exact ⟨_,s1⟩
 ·exact ⟨_,s2⟩
 ·exact ⟨_,s3⟩
 ·exact s4.ob
 ·exact s5.ob
def bF3 {xs ys:List PyData} {i:Nat} {x:PyData} (e:(jS xs ys)[i]?=some x):∃ a b,xs[i]?=some a/\ys[i]?=some b/\x=.tuple [a,b]:=by
 unfold jS at e;rw [List.getElem?_zipWith] at e;cases q1:xs[i]? with
 | none=>rw [q1] at e;cases e
 | some a =>
  cases q2:ys[i]? with
  | none=>rw [q1,q2] at e;cases e
  | some b=>rw [q1,q2] at e;cases e;exact ⟨a,b,rfl,rfl,rfl⟩
def aG2 {b c:Bool} {z TI TO i1 i2 l1 l2:Addr} {xs ys:List PyData} {us vs:List Value} (D:ZApart z TI TO i1 i2) (q1:SqZ M0 b l1 us) (q2:SqZ M0 c l2 vs) (r1:Reps' S M0 xs us) (r2:Reps' S M0 ys vs):Turn S (.Tuple elts n pos) (jS xs ys) none M0 [z,TI,TO,i1,i2] z (ZSt b c z TI TO i1 i2 l1 l2) where
 obj:=fun i h st=>st.obj
 keep:=fun i h h' st k=>by
  obtain ⟨s1,s2,⟨u,v,s3⟩,s4,s5⟩:=st;exact ⟨k z (by simp) _ s1,k TI (by simp) _ s2,⟨u,v,k TO (by simp) _ s3⟩,s4.keep fun o e=>k i1 (by simp) o e,s5.keep fun o e=>k i2 (by simp) o e⟩
 item:=by
  intro A κ M h s E i x hd R l hf st hx co;obtain ⟨x1,x2,h1,h2,rfl⟩:=bF3 hx;obtain ⟨u1,hu1,ru1⟩:=jR (r1.go l) h1;obtain ⟨u2,hu2,ru2⟩:=jR (r2.go l) h2;have ob:=st.obj;obtain ⟨s1,s2,⟨u,v,s3⟩,s4,s5⟩:=st;have hT:s.TypeIs (.ref z) "zip":=⟨_,s1,rfl⟩;have fz:=hf z (by simp);have fTO:=hf TO (by simp);have fi1:=hf i1 (by simp);refine wpAny_bind (wpAny_attempt (wpAny_callSpecial?_slot hT F.slot_zip_next (wpAny_call_entry F.slot_zip_next hT F.entry_zip_next
   (zG D s1 s2 s3 s4 s5 (q1.at l R) (q2.at l R) (q1.ne l fz) (q2.ne l fz) (q2.ne l fTO) (q2.ne l fi1) (x:=u1) (y:=u2) (by simpa using hu1) (by simpa using hu2)
    fun h' a1 a2 a3 a4 a5 a6 a7=>wpAny_pure ?_) (F.args_zip_next_1 _))))
  refine ⟨_,rfl,wpAny_letOwnedTupleGo_zip (s:={ s with heap:=h' }) a1 fun h'' b1 b2=>?_⟩;have zs:s.heap.objs.size≠z:=Nat.ne_of_gt (Heap.lt_size s1);obtain ⟨M',l',R',r',f'⟩:=R.pair (h2:=h'') (t:=s.toks) hf ob (fun a o ha e=>by
   simp only [List.mem_cons,List.not_mem_nil,or_false,not_or] at ha;exact (b2.2 a ha.1).trans (a7 a o ha.1 ha.2.2.1 ha.2.2.2.1 ha.2.2.2.2 e)) ((b2.2 _ zs).trans a5) ru1 ru2
  exact ⟨M',l',R',r',⟨b1,(b2.2 _ D.TIz).trans (a7 _ _ D.TIz D.TITO D.TIi1 D.TIi2 s2),⟨u1,u2,(b2.2 _ D.TOz).trans a2⟩,a3.keep fun o e=>(b2.2 _ D.i1z).trans e,a4.keep fun o e=>(b2.2 _ D.i2z).trans e⟩,f'⟩
 done:=by
  intro A κ M h s E i hd R l hf st hl co;obtain ⟨s1,s2,⟨u,v,s3⟩,s4,s5⟩:=st;have k1:=r1.length;have k2:=r2.length;unfold jS at hl;rw [List.length_zipWith] at hl;have hT:s.TypeIs (.ref z) "zip":=⟨_,s1,rfl⟩;have fz:=hf z (by simp);have fTO:=hf TO (by simp);have fi1:=hf i1 (by simp);refine wpAny_bind (wpAny_attempt (wpAny_callSpecial?_slot hT F.slot_zip_next (wpAny_call_entry F.slot_zip_next hT F.entry_zip_next
   (aF9 hd D s1 s2 s3 s4 s5 (q1.at l R) (q2.at l R) (q1.ne l fz) (q2.ne l fz) (q2.ne l fTO) (q2.ne l fi1) (by simp;omega)
    fun h' e kk ⟨o,ho,hc⟩=>wpAny_bind (wpAny_isInstance ⟨o,ho,hc⟩ isSubtype_stop (wpAny_pure ⟨rfl,?_⟩))) (F.args_zip_next_1 _))))
  exact R.turn (t:=s.toks) hf fun a o ha e=>by
   simp only [List.mem_cons,List.not_mem_nil,or_false,not_or] at ha;exact kk a o ha.1 ha.2.2.1 ha.2.2.2.1 ha.2.2.2.2 e
 self:=fun _ _ _ _ _ st h=>wpAny_pyIter_zip st.1 h
theorem oN:∀ {xs:List PyData} {k i:Nat} {z:PyData},(iN k xs)[i]?=some z->∃ x,xs[i]?=some x/\z=.tuple [.int (k+i:Nat),x]
 | [],_,_,_,e=>by simp [iN] at e
 | x::xs,k,0,z,e=>by simp [iN] at e;exact ⟨x,rfl,by rw [<- e];simp⟩
 | x::xs,k,i+1,z,e=>by
  obtain ⟨y,h1,h2⟩:=oN (xs:=xs) (k:=k+1) (i:=i) (by simpa [iN] using e);exact ⟨y,by simpa using h1,by rw [h2,show k+1+i=k+(i+1) by omega]⟩
theorem iB:∀ (xs:List PyData) (k:Nat),(iN k xs).length=xs.length
 | [],_=>rfl
 | _::xs,k=>by rw [iN,List.length_cons,List.length_cons,iB]
def ESt (b:Bool) (e it l:Addr) (i:Nat) (h:Heap):Prop:=(∃ old,IsEnum h e it i old)/\ItAt b h it l i
def zH {b:Bool} {e it l:Addr} {all:List PyData} {c:Cw} (hne:e≠it) (hq:∀ {κ:Kp} {M:Mp} {h:aA} {s:Shared},Mem S κ M h s->Le M0 M->condB c all h=true->∃ xs us,all=cR xs/\SqAt b s.heap l us.toArray/\Reps' S M xs us):Turn S (.Tuple elts n pos) all c M0 [e,it] e (ESt b e it l) where
 obj:=fun i h st a ha=>by
  obtain ⟨⟨old,s1⟩,s2⟩:=st;simp only [List.mem_cons,List.not_mem_nil,or_false] at ha;rcases ha with rfl | rfl
  ·exact ⟨_,s1⟩
  ·exact s2.ob
 keep:=fun i h h' st k=>by
  obtain ⟨⟨old,s1⟩,s2⟩:=st;exact ⟨⟨old,k e (by simp) _ s1⟩,s2.keep fun o q=>k it (by simp) o q⟩
 item:=by
  intro A κ M h s E i x hd R l' hf st hx co;obtain ⟨xs,us,rfl,q1,r1⟩:=hq R l' co;obtain ⟨y,h1,rfl⟩:=oN hx;rw [Nat.zero_add];obtain ⟨u,hu,ru⟩:=jR r1 h1;obtain ⟨⟨old,s1⟩,s2⟩:=st;refine aR2 s1 s2 q1 (x:=u) (by simpa using hu) hne fun h' a1 a2 a3 a4 a5=>⟨_,rfl,wpAny_letOwnedTupleGo_enum (s:={ s with heap:=h',toks:=s.toks+1 }) a1 fun h'' b1 b2=>?_⟩;have zs:s.heap.objs.size≠e:=Nat.ne_of_gt (Heap.lt_size s1);obtain ⟨M',l2,R',r',f'⟩:=R.pair (h2:=h'') (t:=s.toks+1) (x:=.int i) hf (fun a ha=>by
   simp only [List.mem_cons,List.not_mem_nil,or_false] at ha;rcases ha with rfl | rfl
   ·exact ⟨_,s1⟩
   ·exact s2.ob) (fun a o ha q=>by
   simp only [List.mem_cons,List.not_mem_nil,or_false,not_or] at ha;exact (b2.2 a ha.1).trans (a5 a o ha.1 ha.2 q)) ((b2.2 _ zs).trans a3) (rep_i.mpr ⟨_,rfl⟩) ru
  refine ⟨M',l2,R',r',⟨⟨u,?_⟩,a2.keep fun o q=>(b2.2 _ hne.symm).trans q⟩,f'⟩;have:((i+1:Nat):Int)=(i:Int)+1:=by omega
  unfold IsEnum;rw [this];exact b1
 done:=by
  intro A κ M h s E i hd R l' hf st hl co;obtain ⟨xs,us,rfl,q1,r1⟩:=hq R l' co;obtain ⟨⟨old,s1⟩,s2⟩:=st;have k1:=r1.length;unfold cR at hl;rw [iB] at hl;refine bF2 hd s1 s2 q1 (by simp;omega) fun h' kk=>⟨rfl,?_⟩;exact R.turn (t:=s.toks) hf fun a o ha q=>by
   simp only [List.mem_cons,List.not_mem_nil,or_false,not_or] at ha;exact kk a o ha.2 q
 self:=fun _ _ s _ _ st h=>by
  obtain ⟨⟨old,s1⟩,s2⟩:=st;have hT:s.TypeIs (.ref e) "enumerate":=⟨_,s1,rfl⟩;refine wpAny_pyIter_slot hT PySem.F.slot_enumerate_iter (wpAny_call_entry PySem.F.slot_enumerate_iter hT PySem.F.entry_enumerate_iter ?_ (PySem.F.args_enumerate_iter_1 _));show wpAny _ _ (ret (.ref e)) _ _ s;exact wpAny_pure ⟨_,rfl,"enumerate",_,hT,PySem.F.slot_enumerate_next.lookup,h⟩
end
section
variable {X:Cx} {st:Sta} {d:Nat} {v:Evs} {a b:Expr} {κ:Kp} {M:Mp} {δ:DSt} {h h':aA} {s:Shared} {pos p tp:Pos} {elts:List Expr} {n:Nat}
theorem bS4 (S:Snd v) (G:Good X st d) (hx:(cC st "zip"&&(slot st "zip").isNone&&st.bl.contains "zip")=true) (hs:aH a=true) (hs2:aH b=true):SI X (.Tuple elts n tp) (.Call (.Name "zip" p) [a,b] [] pos) (xb (v.E st a) fun u=>xb (v.E st b) fun w=>fun _ h=>(match lQ u,lQ w with
   | some xs,some ys=>some ((jS xs ys,none),h)
   | _,_=>none)):=by
 intro κ M δ h s q h' R F e;obtain ⟨h1,h2,h3⟩:=cN G hx;obtain ⟨x,hh,e1,e⟩:=aF e;obtain ⟨y,hh2,e2,e⟩:=aF e;have ea:aQ v st [a,b] δ h=some ([x,y],hh2):=by unfold aQ;rw [if_pos hs];unfold xb;rw [e1];unfold aQ;dsimp only [Option.bind];rw [if_pos hs2];unfold aQ xb aC;dsimp only;rw [e2];rfl
 refine Call_ (cM (u:=.type "zip") F R h2 h3 (by decide +kernel) h1 (PyProof.Rows.callWith_type1 (thn (cD S G [a,b] pos R F ea) fun us s1 ⟨M1,l1,R1,r0⟩=>?_) (bM a hs) (by rw [bM b hs2];rfl)));obtain ⟨u,v,rfl,r1,r2⟩:=w2 r0;split at e
 ·rename_i xs ys ex ey;cases e;obtain ⟨b1,l1',us,rfl,q1,z1,rr1⟩:=aG1 ex r1;obtain ⟨b2,l2',vs,rfl,q2,z2,rr2⟩:=aG1 ey r2;refine aF7 (q1.at .refl R1) (q2.at .refl R1) fun h' a1 a2 a3 a4 a5 a6 a7=>?_;have D:ZApart (s1.heap.objs.size+4) (s1.heap.objs.size+2) (s1.heap.objs.size+3) s1.heap.objs.size (s1.heap.objs.size+1):=by
   constructor<;>(intro e;exact absurd e (by simp [Addr]<;>omega))
  refine wpAny_pyIter_zip a1 (Pi.go l1 ⟨M1,_,_,_,.refl,R1.kept (t:=s1.toks) a7,rfl,aG2 D q1 q2 rr1 rr2,⟨a1,a2,⟨_,_,a3⟩,a4,a5⟩,fun x hx=>R1.new (Heap.get?_none_of_le ?_),?_⟩)
  ·simp only [List.mem_cons,List.not_mem_nil,or_false] at hx;rcases hx with rfl | rfl | rfl | rfl | rfl<;>simp
  ·show (jS xs ys).length<=sizeLine;unfold jS;rw [List.length_zipWith,rr1.length];omega
 ·cases e
def bF4 (S:Snd v) (G:Good X st d) (hx:(cC st "enumerate"&&(slot st "enumerate").isNone&&st.bl.contains "enumerate")=true) (hs:aH a=true):SI X (.Tuple elts n tp) (.Call (.Name "enumerate" p) [a] [] pos) (xb (v.E st a) fun u=>fun _ h=>jT u h):=by
 intro κ M δ h s q h' R F e;obtain ⟨h1,h2,h3⟩:=cN G hx;obtain ⟨x,hh,e1,e⟩:=aF e;have ea:aQ v st [a] δ h=some ([x],hh):=by unfold aQ;rw [if_pos hs];unfold aQ xb aC;rw [e1];rfl
 refine Call_ (cM (u:=.type "enumerate") F R h2 h3 (by decide +kernel) h1 (PyProof.Rows.callWith_type1 (thn (cD S G [a] pos R F ea) fun us s1 ⟨M1,l1,R1,r0⟩=>?_) (bM a hs) rfl));obtain ⟨u,rfl,r1⟩:=w1 r0;have ex:∃ b l us,u=.ref l/\SqAt b s1.heap l us/\h'=hh/\q.1.length<=sizeLine/\∀ {κ:Kp} {M:Mp} {h:aA} {s:Shared},Mem X.S κ M h s->Le M1 M->condB q.2 q.1 h=true->∃ xs us,q.1=cR xs/\SqAt b s.heap l (List.toArray us)/\Reps' X.S M xs us:=by
  unfold jT at e;split at e
  ·rename_i xs ex;cases e;obtain ⟨b,l,us,rfl,q1,z1,rr1⟩:=aG1 ex r1;refine ⟨b,l,us.toArray,rfl,q1.at .refl R1,rfl,?_,fun R l' _=>⟨xs,us,rfl,q1.at l' R,rr1.go l'⟩⟩;show (cR xs).length<=sizeLine;unfold cR;rw [iB,rr1.length];exact z1
  ·cases x with
   | d y=>cases e
   | c i =>
    dsimp only at e;split at e
    ·rename_i xs ey;cases e;obtain ⟨pp,ep,rfl⟩:=r1;obtain ⟨us,k,g1,g2,g3⟩:=R1.cel i pp _ ep ey;refine ⟨false,pp.1,us.toArray,rfl,(bK g1).isList,rfl,?_,fun {κ M h s} R l' co=>?_⟩
     ·show (cR xs).length<=sizeLine;unfold cR;rw [iB,g3.length];exact g2
     ·have co:(match h[i]? with
       | some (.l ys)=>peqs (cR ys) (cR xs)
       | _=>false)=true:=co
      split at co
      ·rename_i ys ey';obtain ⟨vs,k',f1,f2,f3⟩:=R.cel i pp _ (l'.at ep) ey';exact ⟨ys,vs,(peqs_eq co).symm,(bK f1).isList,f3⟩
      ·cases co
    ·cases e
 obtain ⟨b,l,us,rfl,q1,rfl,hz,hq⟩:=ex;refine callType_new PySem.F.called_enumerate (by decide) (PySem.F.typeCall_enumerate_1 _) (PySem.F.newCall_enumerate_1 _) (fun obj=>PySem.F.args_object_init_2 obj _) PySem.F.entry_enumerate_new (aG0 b l us) ⟨q1,⟨_,Heap.get?_push_size _ rfl,rfl⟩,?_⟩;have z1':(s1.heap.push (jJ b l)).objs.size=s1.heap.objs.size+1:=by rw [Heap.size_push]
 have ge:((s1.heap.push (jJ b l)).push { cls:=.type "enumerate",data:=.fields #[.none,.bool false,.ref s1.heap.objs.size,rawInt 0,.none,.none] }).get? (s1.heap.push (jJ b l)).objs.size=some { cls:=.type "enumerate",data:=.fields #[.none,.bool false,.ref s1.heap.objs.size,rawInt 0,.none,.none] }:=Heap.get?_push_size _ rfl;have gi:((s1.heap.push (jJ b l)).push { cls:=.type "enumerate",data:=.fields #[.none,.bool false,.ref s1.heap.objs.size,rawInt 0,.none,.none] }).get? s1.heap.objs.size=some (jJ b l):=Heap.get?_push_of_some _ (Heap.get?_push_size _ rfl);have hne:(s1.heap.push (jJ b l)).objs.size≠s1.heap.objs.size:=by rw [z1'];exact Nat.succ_ne_self _
 refine wpAny_pyIter_enum (s:={ s1 with heap:=_ }) ge (Pi.go l1 ⟨M1,_,_,_,.refl,R1.kept (t:=s1.toks) fun c o e=>Heap.get?_push_of_some _ (Heap.get?_push_of_some _ e),rfl,zH hne hq,⟨⟨.none,ge⟩,ItAt.new gi⟩,fun x hx=>R1.new (Heap.get?_none_of_le ?_),hz⟩);simp only [List.mem_cons,List.not_mem_nil,or_false] at hx;rcases hx with rfl | rfl
 ·rw [z1'];exact Nat.le_succ _
 ·exact Nat.le_refl _
end
end DL

namespace DL
open PySem PySem.Spec PyProof.Rows L2 CI
section
variable {X:Cx} {st:Sta} {d:Nat} {v:Evs} {κ:Kp} {M:Mp} {δ:DSt} {h h':aA} {s:Shared} {a b c e o tg iter:Expr} {es:List Expr} {pos p p2 apos:Pos} {x m:Str} {w:W}
def bF5 (S:Snd v) (G:Good X st d) {op op' op'':CmpOp} {p:Bool×aA} (hm:lastMarks [op,op',op''] [b,c,e]=false) (R:Mem X.S κ M h s) (F:Fra X κ M δ) (eq:xC3 op op' op'' (v.E st a) (v.E st b) (v.E st c) (v.E st e) δ h=some p):Wp X.S X.A (eval (.Compare a [op,op',op''] [b,c,e] pos) X.env) (Pw X.S κ M p.2 (.d (.bool p.1))) NE s:=by
 obtain ⟨x,h1,e1,eq⟩:=aF eq;obtain ⟨y,h2,e2,eq⟩:=aF eq;obtain ⟨p1,e3,eq⟩:=bind_some eq;refine Compare_chain (thn (S.E G a R F e1) fun u s1 ⟨M1,l1,R1,r1⟩=>chain_link (thn (S.E G b R1 (F.go l1) e2) fun v s2 ⟨M2,l2,R2,r2⟩=>?_)) hm;obtain ⟨q1,q2⟩:=gQ (A:=X.A) (E:=NE) G.rm R2 (r1.go l2) r2 e3;obtain ⟨k,h3⟩:=p1;cases q1;refine thn q2 fun k' s3 ⟨M3,l3,R3,r3⟩=>?_;cases wb.mp r3;refine wpAny_truthy_bool ?_;dsimp only at eq;cases k with
 | false=>cases eq;exact ite_ff (R3.pb.go (l1.trans (l2.trans l3)))
 | true =>
  obtain ⟨⟨z,h4⟩,e4,eq⟩:=bind_some eq;obtain ⟨p2,e5,eq⟩:=bind_some eq;refine ite_tt (chain_link (thn (S.E G c R3 ((F.go l1).go (l2.trans l3)) e4) fun t s4 ⟨M4,l4,R4,r4⟩=>?_));obtain ⟨q5,q6⟩:=gQ (A:=X.A) (E:=NE) G.rm R4 (r2.go (l3.trans l4)) r4 e5;obtain ⟨k2,h5⟩:=p2;cases q5;refine thn q6 fun k' s5 ⟨M5,l5,R5,r5⟩=>?_;cases wb.mp r5;refine wpAny_truthy_bool ?_;dsimp only at eq;cases k2 with
  | false=>cases eq;exact ite_ff (R5.pb.go (l1.trans (l2.trans (l3.trans (l4.trans l5)))))
  | true =>
   obtain ⟨⟨z',h6⟩,e6,eq⟩:=bind_some eq;refine ite_tt (chain_last (thn (S.E G e R5 ((F.go l1).go (l2.trans (l3.trans (l4.trans l5)))) e6) fun t' s6 ⟨M6,l6,R6,r6⟩=>?_));obtain ⟨q7,q8⟩:=gQ (A:=X.A) (E:=NE) G.rm R6 (r4.go (l5.trans l6)) r6 eq;rw [q7];exact thn q8 fun _ _ q=>q.go (l1.trans (l2.trans (l3.trans (l4.trans (l5.trans l6)))))
def bF6 (S:Snd v) (G:Good X st d) {ops:List CmpOp} {cs:List Expr}:SE X (.Compare a ops cs pos) (bC (jV v st a ops cs)):=by
 unfold jV;rcases ops with _ | ⟨op,_ | ⟨op',_ | ⟨op'',_ | ⟨_,_⟩⟩⟩⟩
 ·exact kI S G
 ·exact kI S G
 ·exact kI S G
 ·rcases cs with _ | ⟨b,_ | ⟨c,_ | ⟨e',_ | ⟨_,_⟩⟩⟩⟩
  ·exact kI S G
  ·exact kI S G
  ·exact kI S G
  ·intro κ M δ h s w h' R F eq;obtain ⟨p,e2,ew⟩:=map_some (show ((if lastMarks [op,op',op''] [b,c,e']=true then xno else xC3 op op' op'' (v.E st a) (v.E st b) (v.E st c) (v.E st e')) δ h).map asW=_ from eq);cases ew
   by_cases hm:lastMarks [op,op',op''] [b,c,e']=true
   ·rw [if_pos hm] at e2;cases e2
   ·rw [if_neg hm] at e2;exact bF5 S G (by simpa using hm) R F e2
  ·exact kI S G
 ·exact kI S G
def iC {P:List Value->Shared->Prop} {E:Value->Shared->Prop} (hs:aH e=true) (h:Wp X.S X.A (eval e X.env) (fun v s1=>P [v] s1) E s):Wp X.S X.A (spliced (backTo pos (starEach [e] X.env))) P E s:=by
 rw [bM (es:=[]) e hs];show Wp _ _ (spliced ((false,eval e X.env)::backTo pos [])) _ _ s;exact Calls.spliced_cons (thn h fun u s1 q=>wpAny_pure q)
theorem bS5 (S:Snd v) (G:Good X st d) {pos2:Pos} (hx:okC st "list"=true) (hr:okC st "range"=true) (hs:aH b=true):SF X (.Call (.Name "list" p) [.Call (.Name "range" p2) [b] [] pos2] [] pos) (xb (aQ v st [b]) fun ws=>fun _ h=>(match ws with
   | [.d (.int j)]=>if -(2^62)<=j/\j < 2^62/\j<=16000000 then some (rng 0 j.toNat,h) else none
   | _=>none)):=by
 intro κ M δ h s w h' R F e;obtain ⟨ws,h1,e1,e⟩:=aF e;obtain ⟨n1,n2,n3⟩:=cN G hx;refine wpAny_Call_Name_kw (cM (u:=.type "list") F R n2 n3 (by decide +kernel) n1 ?_);refine PyProof.Rows.callWith_type1 (iC (by rfl) ?_) rfl rfl;refine jZ (f:=.type "range") S G hr boot_range (.inr ⟨_,rfl⟩) R F e1 fun {M1 us s1} l1 R1 r1=>?_;split at e
 ·rename_i j;obtain ⟨⟨b3,b4,b5⟩,e⟩:=aE e;cases e;obtain ⟨u,rfl,ru⟩:=w1 r1;obtain ⟨t2,rfl⟩:=wi.mp ru;refine call_range_1 (call_list_range (n:=j.toNat) G.rm.hd (IsRange.new ..) (small_one (by decide) (by decide) b3 b4) (by rw [rangeSize_one];split<;>omega) (by omega) fun h' tk acc c' k hS hacc=>?_);rw [Heap.size_push] at hS ⊢;have k1:∀ b o,s1.heap.get? b=some o->h'.get? b=some o:=fun b o e=>k b o (Heap.get?_push_of_some _ e);refine ⟨M1,l1,R1.kept (t:=tk) k1,s1.heap.objs.size+1,acc.toList,c',rfl,by rw [Array.toArray_toList];exact hS,R1.new (Heap.get?_none_of_le (Nat.le_succ _)),by rw [Array.length_toList,hacc.1,sizeLine_eq];omega,?_⟩;have gen:∀ (l:List Value) (m:List PyData),l.length=m.length->(∀ (k:Nat) v,l[k]?=some v->∃ x,m[k]?=some x/\Rep X.S M1.Z x v)->Reps' X.S M1 m l:=by
   intro l;induction l with
   | nil=>intro m hm _;rw [List.length_eq_zero_iff.mp hm.symm];exact .nil
   | cons v l ih =>
    intro m hm hv;cases m with
    | nil=>simp at hm
    | cons x m =>
     obtain ⟨x',e1,e2⟩:=hv 0 v rfl;simp at e1;subst e1;exact .cons e2 (ih m (by simpa using hm) fun k v e=>hv (k+1) v (by simpa using e))
  refine gen _ _ (by simp [hacc.1,rng]) fun k v e=>?_;rw [Array.getElem?_toList] at e;obtain ⟨tk,rfl⟩:=hacc.2 k v e;have hk:k < j.toNat:=by have:=(Array.getElem?_eq_some_iff.mp e).1;rw [hacc.1] at this;exact this
  exact ⟨.int k,by simp [rng,hk],rep_i.mpr ⟨tk,by simp⟩⟩
 ·cases e
def bF7 (T T':String):Prop:=∀ (K:PySem.W.Frag) (d:PyData),PySem.W.kitAny K (.type (fJ d)) [.type T,.type T']=some (isi d T||isi d T')
def bF8:bF7 "list" "tuple":=fun K d=>by cases d<;>kernel_rfl
def bF9 (S:Snd v) (G:Good X st d) {q1 q2 q3:Pos} {k} (hx:okC st "isinstance"=true) (hs:aH a=true) (hT:okC st "list"=true) (hT':okC st "tuple"=true) :
  SE X (.Call (.Name "isinstance" p) [a,.Tuple [.Name "list" q1,.Name "tuple" q2] k q3] [] pos) (xb (v.E st a) fun w=>fun _ h=>(ref h w).bind fun d=>if noD d=true then some (.d (.bool (isi d "list"||isi d "tuple")),h) else none):=by
 intro κ M δ h s w h' R F e;obtain ⟨x,h1,e1,e⟩:=aF e;obtain ⟨z,ez,e⟩:=bind_some e;obtain ⟨hnd,e⟩:=aE e;cases e;obtain ⟨n1,n2,n3⟩:=cN G hx;obtain ⟨m1,m2,m3⟩:=cN G hT;obtain ⟨m4,m5,m6⟩:=cN G hT';refine wpAny_Call_Name_kw (cM (u:=.builtin "isinstance") F R n2 n3 (by decide +kernel) n1 ?_);refine PyProof.Rows.callWith_builtin1 ?_ (bM a hs) (bQ pos [.Tuple [.Name "list" q1,.Name "tuple" q2] k q3] rfl);rw [bM a hs];show Wp _ _ (spliced ((false,eval a X.env)::backTo pos (starEach [.Tuple [.Name "list" q1,.Name "tuple" q2] k q3] X.env))) _ _ s;refine Calls.spliced_cons (thn (S.E G a R F e1) fun u s1 ⟨M1,l1,R1,r1⟩=>iC (by rfl) ?_);refine wpAny_Tuple_spliced ?_;rw [bM (X:=X) (es:=[.Name "tuple" q2]) (.Name "list" q1) rfl];show Wp _ _ (spliced ((false,eval (.Name "list" q1) X.env)::backTo q3 (starEach [.Name "tuple" q2] X.env))) _ _ s1;refine Calls.spliced_cons (cM (u:=.type "list") (F.go l1) R1 m2 m3 (by decide +kernel) m1 (iC (by rfl) (cM (u:=.type "tuple") (F.go l1) R1 m5 m6 (by decide +kernel) m4 ⟨by decide,?_⟩)));have R2:Mem X.S κ M1 h' { s1 with heap:=s1.heap.push { cls:=.type "tuple",data:=.seq #[.type "list",.type "tuple"] } }:=R1.kept (t:=s1.toks) fun b o e=>Heap.get?_push_of_some _ e;obtain ⟨H,kx,hp,n⟩:=aY6 R2 r1 ez hnd;exact PySem.W.kia_tup kx (F.kin.keeps R2.bk) hp (Heap.get?_push_size _ rfl) (bF8 X.S.K z) n fun tk=>((R2.tok tk).pb).go l1
end
end DL

namespace DL
open PySem PySem.Spec PyProof.Rows L2 CI
section
variable {X:Cx} {st:Sta} {d:Nat} {v:Evs} {κ:Kp} {M:Mp} {δ:DSt} {h h':aA} {s:Shared} {a b c e o tg iter:Expr} {es:List Expr} {pos p p2 apos:Pos} {x m:Str} {w:W}
theorem aG3 {h1:aA} {j:Nat} (hp:(match W.c j with
  | .c j=>(match h1[j]? with
   | some (.l _)=>true
   | some (.r _)=>true
   | _=>false)
  | _=>false)=true):(∃ xs,DL.ref h1 (.c j)=some (.list xs))\/∃ i xs,W.c j=.c i/\h1[i]?=some (.r xs):=by
 dsimp only at hp;split at hp
 ·rename_i xs e;exact .inl ⟨xs,by unfold DL.ref;dsimp only;rw [e]⟩
 ·rename_i xs e;exact .inr ⟨j,xs,rfl,e⟩
 ·cases hp
def aR3 {S:Sx} {A:Around} {E:Value->Shared->Prop} {i k:Nat} {p:Addr×Addr} {is:List W} {u:Value} (R:Mem S κ M h s) (ep:M.m[i]?=some p) (ei:h[i]?=some (.r is)) (hz:is.length < sizeLine) (rx:RepW S M (.c k) u):Wp S A (call (.builtin "list.append") [.ref p.1,u]) (Pw S κ M (h.set i (.r (is++[.c k]))) (.d .none)) E s:=by
 obtain ⟨us,n,e,hl,r⟩:=R.cel i p _ ep ei;have hlen:=r.length;refine call_meets F.slot_list_append ⟨_,e,rfl⟩ F.entry_list_append (F.args_list_append_2 _ _) (PySem.list_append p.1 us.toArray n u (by rw [List.size_toArray];omega)) ⟨e,?_⟩;exact (R.lset (t:=s.toks) (us':=us++[u]) (c:=.r (is++[.c k])) (f:=fun a=>a.push u) ep e (by simp) fun h2 n' e'=>⟨_,n',e',by rw [List.length_append,List.length_singleton];omega,Paired.snoc r rx⟩).pn
def bG0 (S:Snd v) (G:Good X st d) {g:W->List W->aA->Option (W×aA)} (hg:bC4 m=some g) (ho:gP o=true) (hl:(apos.endLine==pos.line)=true) (hn:(a::es).length < 29):SE X (.Call (.Attribute o m apos) (a::es) [] pos) (aY2 v st o m g (a::es)):=by
 intro κ M δ h s w h' R F q0;obtain ⟨x,h1,e1,q1⟩:=aF q0;obtain ⟨hp,q2⟩:=aE q1;obtain ⟨⟨ws,h2⟩,e2,e⟩:=bind_some q2;clear q0 q1 q2;unfold bC4 at hg;split at hg
 ·rename_i hm;subst hm;cases hg;unfold iV at hp;rw [if_pos rfl] at hp;unfold uH at e;dsimp only at e;split at e
  ·rename_i j z;refine qH S G PySem.F.slot_list_append PySem.F.type_list_append ho hl hn R F e1 (aG3 hp) e2 fun {M2 u us s2} l2 R2 r2 rs=>?_;split at e
   ·rename_i xs ej;obtain ⟨hz,e⟩:=aE e;cases e;obtain ⟨u1,rfl,ru⟩:=w1 rs;obtain ⟨p,ep,rfl⟩:=r2;exact thn (bE8 R2 ep ej hz ru) fun _ _ q=>q.go l2
   ·cases e
  ·rename_i j k;refine qH S G PySem.F.slot_list_append PySem.F.type_list_append ho hl hn R F e1 (aG3 hp) e2 fun {M2 u us s2} l2 R2 r2 rs=>?_;split at e
   ·rename_i is ej;obtain ⟨hz,e⟩:=aE e;cases e;obtain ⟨u1,rfl,ru⟩:=w1 rs;obtain ⟨p,ep,rfl⟩:=r2;exact thn (aR3 R2 ep ej hz ru) fun _ _ q=>q.go l2
   ·cases e
  ·cases e
 ·split at hg
  ·rename_i hm;subst hm;cases hg;dsimp only at e;split at e
   ·rename_i xs z;obtain ⟨hz,e⟩:=aE e;obtain ⟨j,ej,e⟩:=map_some e;cases e;refine qH S G PySem.F.slot_list_index PySem.F.type_list_index ho hl hn R F e1 (.inl ⟨xs,rfl⟩) e2 fun {M2 u us s2} l2 R2 r2 rs=>?_;obtain ⟨u1,rfl,ru⟩:=w1 rs;exact thn (aF4 (x:=.d .none) G.rm R2 r2 ru hz ej) fun _ _ q=>q.go l2
   ·cases e
  ·cases hg
def bS6 (S:Snd v) (G:Good X st d) (ho:gP o=true) (hl:(apos.endLine==pos.line)=true):SE X (.Call (.Attribute o "pop" apos) [a] [] pos) (bO2 v st o a):=by
 intro κ M δ h s w h' R F e;obtain ⟨x,h1,e1,e⟩:=aF e;rcases x with _ | j
 ·cases e
 dsimp only at e;split at e
 ·rename_i xs0 ej;obtain ⟨⟨ws,h2⟩,e2,e⟩:=bind_some e;refine qH S G PySem.F.slot_list_pop PySem.F.type_list_pop ho hl (by decide:1 < 29) R F e1 (.inl ⟨xs0,by unfold DL.ref;dsimp only;rw [ej]⟩) e2 fun {M2 u us s2} l2 R2 r2 rs=>?_;have e:bC5 j ws h2=some (w,h'):=e;rcases ws with _ | ⟨(_ | _ | i | _ | _ | _ | _) | _,_ | ⟨_,_⟩⟩<;>first | cases e;done | skip
  unfold bC5 at e;rcases ej2:h2[j]? with _ | c
  ·rw [ej2] at e;cases e
  rw [ej2] at e;cases c<;>first | (cases e;done) | skip
  rename_i i xs;obtain ⟨n,en,e⟩:=bind_some e;obtain ⟨z,ez,e⟩:=bind_some e;obtain ⟨⟨q1,q2⟩,e⟩:=aE e;cases e;obtain ⟨u1,rfl,ru⟩:=w1 rs;obtain ⟨t,rfl⟩:=wi.mp ru;obtain ⟨p,ep,rfl⟩:=r2;exact thn (bE9 R2 ep ej2 en ez q1 q2) fun _ _ q=>q.go l2
 ·cases e
def bS7 (S:Snd v) (G:Good X st d) (ho:gP o=true) (hl:(apos.endLine==pos.line)=true) (hs:aH a=true):SE X (.Call (.Attribute o "extend" apos) [a] [] pos) (bO3 v st o a):=by
 intro κ M δ h s w h' R F e;obtain ⟨x,h1,e1,e⟩:=aF e;rcases x with _ | j
 ·cases e
 dsimp only at e;split at e
 ·rename_i xs0 ej;obtain ⟨⟨ys,h2⟩,e2,e⟩:=bind_some e;have hst:([a]:List Expr).all aH=true:=by rw [List.all_cons,hs];rfl
  refine wpAny_Call_method_late (qF ho _ _) (uV hst (by decide:1 < 29) _ _) hl rfl (thn (S.E G o R F e1) fun u s1 ⟨M1,l1,R1,r1⟩=>?_);obtain ⟨p,ep,rfl⟩:=r1;obtain ⟨us,n,hob,_⟩:=R1.cel j p _ ep ej;refine ⟨"list",_,PySem.F.plainAttrs_list,PySem.F.slot_list_extend,PySem.F.type_list_extend,(bK hob).isList.typeIs,fun c ec=>by cases ec;exact ⟨_,hob,rfl⟩,?_⟩;have hsp:=iC (pos:=pos) (E:=NE) hs (P:=fun us s2=>Wp X.S X.A (call (.builtin "list.extend") (.ref p.1::us)) (Pw X.S κ M h' w) NE s2) (thn (S.F G a R1 (F.go l1) e2) fun u2 s2 ⟨M2,l2,R2,b,vs,m,eb,hb,fb,hz,rb⟩=>?_)
  ·have han:=bQ (X:=X) pos [a] hst;rw [bM (es:=[]) a hs] at hsp han ⊢;exact Calls.callWith_builtin han (Calls.evalArgs_plain hsp)
  subst eb;dsimp only at e;split at e
  ·rename_i xs ej2;obtain ⟨hz2,e⟩:=aE e;cases e;exact thn (bF0 R2 (l2.at ep) ej2 hb rb hz2) fun _ _ q=>q.go (l1.trans l2)
  ·cases e
 ·cases e
def aG4:SI X tg iter xno:=fun _ _ _ _ _ _ _ _ _ e=>by cases e
def aG5 (h:wN tg=true):∃ es k p,tg=.Tuple es k p:=by
 cases tg<;>first | exact ⟨_,_,_,rfl⟩ | cases h
def qJ (S:Snd v):ItS v:=by
 intro X st d G tg iter;unfold oG;cases hq:itS iter with
 | some y =>
  obtain ⟨⟨x,a,ob⟩,p,pos,he⟩:=y;clear hq;subst he;cases ob with
  | none =>
  dsimp only;split
  ·rename_i hx;subst hx;split
   ·rename_i hc;rw [Bool.and_eq_true] at hc;exact bE0 S G hc.1 hc.2
   ·exact aG4
  ·split
   ·rename_i hx;subst hx;split
    ·rename_i hc;rw [Bool.and_eq_true,Bool.and_eq_true] at hc;obtain ⟨es,k,p,rfl⟩:=aG5 hc.2;exact bF4 S G hc.1.1 hc.1.2
    ·exact aG4
   ·exact uP S G
  | some b =>
  dsimp only;split
  ·rename_i hx;subst hx;split
   ·rename_i hc;rw [Bool.and_eq_true,Bool.and_eq_true] at hc;exact bE1 S G hc.1.1 hc.1.2 hc.2
   ·exact aG4
  ·split
   ·rename_i hx;subst hx;split
    ·rename_i hc;rw [Bool.and_eq_true,Bool.and_eq_true,Bool.and_eq_true] at hc;obtain ⟨es,k,p,rfl⟩:=aG5 hc.2;exact bS4 S G hc.1.1.1 hc.1.1.2 hc.1.2
    ·exact aG4
   ·exact uP S G
 | none =>
  dsimp only;split
  ·exact aG4
  ·exact uP S G
def bS8 (S:Snd v) (G:Good X st d):SE X e (bC8 v st e):=by
 unfold bC8;cases hq:lcS e with
 | some y =>
  obtain ⟨⟨tg,iter,ifs,a,sc⟩,lp,p,he⟩:=y;clear hq;subst he;dsimp only;split
  ·rename_i ha;subst ha;unfold aC7;split
   ·rename_i hc;rw [Bool.and_eq_true] at hc;have hset:gO iter=false:=by simpa using hc.2
    intro κ M δ h s w h' R F e;obtain ⟨⟨all,c⟩,h1,e1,e⟩:=aF e;obtain ⟨⟨is,h2⟩,e2,e3⟩:=bind_some e;cases e3;refine thn (aF2 G.rm.hd (by rw [G.S,G.N];exact jH hc.1) (qJ S G tg iter) (fun cl C=>S.G (bR G cl C) tg) (fun cl C=>qD S (bR G cl C) ifs) (fun cl C=>?_) (mI hset _) R F e1 (jY e2)) fun _ _ p=>bR4 p;exact mJ (uL (es:=[]) S (bR G cl C))
   ·exact bV
  ·exact bV
 | none=>exact S.E G _
end
end DL

namespace DL
open PySem PySem.Spec PyProof.Rows L2 CI
section
variable {X:Cx} {κ:Kp} {M:Mp} {h h':aA} {s:Shared} {δ:DSt} {v:Evs} {st:Sta} {d:Nat} {a k:Expr} {p2 pos:Pos}
theorem bS9 (S:Snd v) (G:Good X st d):SF X (.Subscript a (.Slice none none (some k) p2) pos) (xb (v.E st a) fun x=>xb (jU v st (some k)) fun o=>fun _ h=>(match ref h x with
  | some (.list xs)=>if o=some (-1) then some (xs.reverse,h) else none
  | _=>none)):=by
 intro κ M δ h s w h' R F e;obtain ⟨x,h1,e1,e⟩:=aF e;obtain ⟨o,h2,e2,e⟩:=aF e;refine Subscript_ (thn (S.E G a R F e1) fun u s1 ⟨M1,l1,R1,r1⟩=>?_);refine wpAny_Slice ?_;rw [evalPart_none];refine wpAny_pure (wpAny_pure (thn (aE5 S G (some k) R1 (F.go l1) e2) fun vk s2 ⟨pk,M2,l2,R2⟩=>?_));have R4:Mem X.S κ M2 h2 { s2 with heap:=s2.heap.push { cls:=.type "slice",data:=.fields #[.none,.none,vk] } }:=R2.kept (t:=s2.toks) fun b ob q=>Heap.get?_push_of_some _ q;split at e
 ·rename_i xs ea;obtain ⟨ho1,e⟩:=aE e;cases e;subst ho1;obtain ⟨a',vs,n,rfl,ho,hz,rr⟩:=cH R4 (r1.go l2) ea;show Wp X.S X.A (subscriptTail a (.Slice none none (some k) p2) (.ref a') (.ref s2.heap.objs.size)) _ _ { s2 with heap:=s2.heap.push { cls:=.type "slice",data:=.fields #[.none,.none,vk] } };refine tail_any (ops:=[.ref a',.ref s2.heap.objs.size]) (bK ho).isList.typeIs slot_list_getitem.lookup ?_ (by with_unfolding_all rfl);refine wpAny_getItem_list_slice (bK ho).isList (Heap.IsSliceOf.new ..) .none .none pk (by decide) ?_ (by rw [List.size_toArray];omega);rw [PySem.W.krv_pick];refine ⟨M2,l1.trans l2,R4.kept (t:=s2.toks) fun b ob q=>Heap.get?_push_of_some _ q,_,vs.reverse,0,rfl,Heap.get?_push_size _ rfl,R4.size,?_,cG4 rr⟩;rw [List.length_reverse];exact hz
 ·cases e
end
end DL

namespace DL
open PySem PySem.Spec PyProof.Rows L2 CI
theorem oO {q:Pos×Str} {c:Addr}:∀ {qs:List (Pos×Str)} {cs:List Addr},qs.length=cs.length->dB (qs++[q]) (cs++[c])=dB qs cs++[rawInt q.1.line,rawInt q.1.col,.ref c]
 | [],[],_=>rfl
 | [],_::_,h=>by simp at h
 | _::_,[],h=>by simp at h
 | p::qs,d::cs,h=>by
  show rawInt _::rawInt _::Value.ref d::dB (qs++[q]) (cs++[c])=_;rw [oO (by simpa using h)];rfl
def aR4 (l:List Value) (h:TriplesOk l):∀ (qs:List (Pos×Str)) (cs:List Addr),TriplesOk (l++dB qs cs):=by
 have base:∀ (qs:List (Pos×Str)) (cs:List Addr),TriplesOk (dB qs cs):=by
  intro qs;induction qs with
  | nil=>intro cs;exact True.intro
  | cons q qs ih =>
   intro cs;cases cs with
   | nil=>exact True.intro
   | cons c cs=>exact ih cs
 intro qs cs
 fun_induction TriplesOk l with
 | case1=>exact base qs cs
 | case2 a' t b' u x rest ih=>simp only [List.cons_append,TriplesOk];exact ih h
 | case3 l h1 h2=>exact h.elim
def among_trip {pos:Pos} {l:List Value} (h:TriplesOk l) (hn:codeAmong pos l=none):∀ {qs:List (Pos×Str)} {cs:List Addr},qs.length=cs.length ->
  (qs.find? (atP pos)=none/\codeAmong pos (l++dB qs cs)=none)\/∃ (q:Pos×Str) (c:Addr) (i:Nat),qs.find? (atP pos)=some q/\qs[i]?=some q/\cs[i]?=some c/\codeAmong pos (l++dB qs cs)=some (.ref c):=by
 have base:∀ {qs:List (Pos×Str)} {cs:List Addr},qs.length=cs.length->(qs.find? (atP pos)=none/\codeAmong pos (dB qs cs)=none)\/∃ (q:Pos×Str) (c:Addr) (i:Nat),qs.find? (atP pos)=some q/\qs[i]?=some q/\cs[i]?=some c/\codeAmong pos (dB qs cs)=some (.ref c):=by
  intro qs;induction qs with
  | nil=>intro cs _;exact .inl ⟨rfl,rfl⟩
  | cons q qs ih =>
   intro cs hl;cases cs with
   | nil=>simp at hl
   | cons c cs =>
    have e:codeAmong pos (dB (q::qs) (c::cs))=if atP pos q=true then some (.ref c) else codeAmong pos (dB qs cs):=by
     show (if ((q.1.line:Int)==pos.line&&(q.1.col:Int)==pos.col)=true then _ else _)=_;have e1:(((q.1.line:Int)==pos.line)&&((q.1.col:Int)==pos.col))=atP pos q:=by
      unfold atP;rw [Bool.eq_iff_iff];simp only [Bool.and_eq_true,beq_iff_eq];omega
     rw [e1]
    rw [e,List.find?_cons];cases ha:atP pos q with
    | true=>exact .inr ⟨q,c,0,rfl,rfl,rfl,rfl⟩
    | false =>
     rw [if_neg Bool.false_ne_true];rcases ih (cs:=cs) (by simpa using hl) with ⟨a,b⟩ | ⟨q',c',i,a,b,d,f⟩
     ·exact .inl ⟨a,b⟩
     ·exact .inr ⟨q',c',i+1,a,by simpa using b,by simpa using d,f⟩
 intro qs cs hl;have e:codeAmong pos (l++dB qs cs)=codeAmong pos (dB qs cs):=by
  fun_induction TriplesOk l with
  | case1=>rfl
  | case2 a t b u x rest ih =>
   simp only [List.cons_append,codeAmong] at hn ⊢;split at hn
   ·cases hn
   ·rename_i hc;rw [if_neg hc];exact ih h hn
  | case3 l h1 h2=>exact h.elim
 rw [e];exact base hl
section
variable {X:Cx} {st:Sta} {d:Nat} {v:Evs} {κ:Kp} {M:Mp} {δ:DSt} {h h':aA} {s:Shared} {E:Value->Shared->Prop}
def aG6 {params:Arguments} {body:Expr} {scope:Scope} {pos:Pos} {c0:Addr} {j:Nat} {qs qs':List (Pos×Str)} {clos:List (Str×Addr)} (R:Mem X.S κ M h s) (F:Fra X κ M δ) (T:TbS X.S c0 pos) (hcode:X.env.code=.ref c0) (hcl:closureFor scope X.env=pure clos) (hdef:defaultsOf params X.env=([],[]))
  (eh:h[j]?=some (.t qs)) (eq:rT pos (X.env.qual++"<lambda>") qs=some qs') :
  Wp X.S X.A (eval (.Lambda params body scope pos) X.env) (fun u s'=>∃ f cc pm ctv M',u=.ref f/\Le M M'/\Mem X.S κ M' (h.set j (.t qs')) s'/\bA κ M' f/\s'.heap.get? f=some (PySem.W.kla_obj "<lambda>" (X.env.qual++"<lambda>") params body scope clos pm cc ctv)/\aY0 M'.Z (pos,X.env.qual++"<lambda>") cc) E s:=by
 refine PySem.W.kla_eval hdef ?_;obtain ⟨pP,ej⟩:∃ p,M.m[j]?=some p:=⟨_,List.getElem?_eq_getElem (by rw [R.len];exact (List.getElem?_eq_some_iff.mp eh).1)⟩;obtain ⟨cs,oP,rc,ep⟩:=R.cel j _ _ ej eh;subst ep;have oP:s.heap.get? X.S.tp=some (PySem.W.tabObj (X.S.tb++(dB qs cs).toArray)):=oP;have hl:=rc.length;have kin:=F.ok.mod.kin.keeps R.bk;have C:=PySem.W.codeHd_of_K kin T.hd;have bm:s.heap.BuiltinsAt X.S.mg X.S.tp:=by
  obtain ⟨b,o,h1,h2,h3,h4,h5,h6⟩:=T.bm;exact ⟨b,o,h1,h2,h3,h4,R.bk _ _ h5,h6⟩
 have hg:s.heap.Ns mainGlobals X.S.mg:=F.ok.mod.glob.keeps R.bk;have hgP:mainGlobals≠X.S.tp:=fun q=>by
  obtain ⟨o,es,ep,e,hd,_⟩:=hg;rw [q,oP] at e;cases e;cases hd
 have etl:(X.S.tb++(dB qs cs).toArray).toList=X.S.tb.toList++dB qs cs:=by simp
 have ht:TriplesOk (X.S.tb++(dB qs cs).toArray).toList:=by rw [etl];exact aR4 _ T.tr _ _
 have hset:∀ {c:Cell},h[j]?=some c->h.set j c=h:=fun e=>List.ext_getElem? fun i=>by
  by_cases z:i=j
  ·subst z;rw [List.getElem?_set_self (List.getElem?_eq_some_iff.mp e).1,e]
  ·rw [List.getElem?_set_ne (Ne.symm z)]
 unfold rT at eq;rcases among_trip T.tr T.no hl with ⟨e1,e2⟩ | ⟨q,c,i,e1,e2,e3,e4⟩
 ·rw [e1] at eq;cases eq;refine PySem.W.kla_makeFunction hcl F.ok.glob hg hcode C oP ht (by rw [etl];exact e2) hgP bm fun cc ctv h1 tk hx hge hlt hrec htb=>?_;obtain ⟨c',oc,vs,t,q1,q2,q3,q4⟩:=hrec;cases q1;have hP2:=R.off _ (List.mem_of_getElem? ej) X.S.tp (.inl rfl);have fcc:bA κ M cc:=R.new (Heap.get?_none_of_le hge);have ncP:cc≠X.S.tp:=fun z=>by obtain ⟨_,_,o,ho⟩:=hP2;rw [<- z] at ho;exact absurd (Heap.lt_size ho) (Nat.not_lt_of_le hge)
  have g2:(h1.push (PySem.W.kla_obj "<lambda>" (X.env.qual++"<lambda>") params body scope clos ((X.S.mg "__name__").getD .none) cc ctv)).get? X.S.tp=_:=Heap.get?_push_of_some _ htb;have kk:∀ b o,b≠X.S.tp->s.heap.get? b=some o->(h1.push (PySem.W.kla_obj "<lambda>" (X.env.qual++"<lambda>") params body scope clos ((X.S.mg "__name__").getD .none) cc ctv)).get? b=some o:=fun b o hb e=>Heap.get?_push_of_some _ (hx b o hb e);have hsz:s.heap.objs.size<=h1.objs.size:=Nat.le_trans hge (Nat.le_of_lt hlt);have gf:(h1.push (PySem.W.kla_obj "<lambda>" (X.env.qual++"<lambda>") params body scope clos ((X.S.mg "__name__").getD .none) cc ctv)).get? h1.objs.size=_:=Heap.get?_push_size _ rfl;have gc2:=Heap.get?_push_of_some (PySem.W.kla_obj "<lambda>" (X.env.qual++"<lambda>") params body scope clos ((X.S.mg "__name__").getD .none) cc ctv) q2;generalize (h1.push (PySem.W.kla_obj "<lambda>" (X.env.qual++"<lambda>") params body scope clos ((X.S.mg "__name__").getD .none) cc ctv))=h2 at g2 kk gf gc2 ⊢;have gm:(h2.update X.S.tp fun _=>PySem.W.tabObj (X.S.tb++(dB qs cs).toArray)).get? X.S.tp=some (PySem.W.tabObj (X.S.tb++(dB qs cs).toArray)):=Heap.get?_update_self _ g2 rfl;have go:∀ b,b≠X.S.tp->(h2.update X.S.tp fun _=>PySem.W.tabObj (X.S.tb++(dB qs cs).toArray)).get? b=h2.get? b:=fun b hb=>Heap.get?_update_other _ _ (Ne.symm hb);have R1:Mem X.S κ M h { s with heap:=h2.update X.S.tp fun _=>PySem.W.tabObj (X.S.tb++(dB qs cs).toArray),toks:=tk }:=R.keep (fun b o e _=>by
   by_cases hb:b=X.S.tp
   ·subst hb;rw [oP] at e;cases e;exact gm
   ·exact (go b hb).trans (kk b o hb e)) R.bare rfl
  have R2:=R1.frz fcc ((go cc ncP).trans gc2);have R3:Mem X.S κ (M.add cc oc) (h.set j (.t (qs++[(pos,X.env.qual++"<lambda>")]))) { s with heap:=h2,toks:=tk }:=R2.wr (p:=(X.S.tp,X.S.tp)) (s':={ s with heap:=h2,toks:=tk }) ej (fun b o n1 _ q=>by rw [go b n1] at q;exact q) ⟨⟨_,g2⟩,_,g2⟩ R.bare rfl
   ⟨cs++[cc],by rw [g2,oO hl];simp,Paired.snoc (pM (fun _ _ ⟨o,vs,t,a,b⟩=>⟨o,vs,t,(Le.add fcc.1).z _ _ a,b⟩) rc) ⟨oc,vs,t,jB,q3,q4⟩,rfl⟩
  have ff:bA κ M h1.objs.size:=R.new (Heap.get?_none_of_le hsz);exact ⟨h1.objs.size,cc,_,ctv,M.add cc oc,rfl,Le.add fcc.1,R3,⟨by show (if _=cc then some oc else M.Z _)=none;rw [if_neg (Nat.ne_of_gt hlt)];exact ff.1,ff.2⟩,gf,⟨oc,vs,t,jB,q3,q4⟩⟩
 ·rw [e1] at eq;obtain ⟨hq,eq⟩:=aE eq;cases eq;rw [hset eh];refine PySem.W.kla_makeFunctionHit hcl F.ok.glob hg hcode C oP ht (by rw [etl];exact e4) bm fun ctv h1 tk k sz=>?_;have kk:∀ b o,s.heap.get? b=some o->(h1.push (PySem.W.kla_obj "<lambda>" (X.env.qual++"<lambda>") params body scope clos ((X.S.mg "__name__").getD .none) c ctv)).get? b=some o:=fun b o e=>Heap.get?_push_of_some _ (k b o e);obtain ⟨c',e5,o,vs,t,z1,z2,z3⟩:=jR rc e2;rw [e3] at e5;cases e5;exact ⟨h1.objs.size,c,_,ctv,M,rfl,.refl,R.kept (t:=tk) kk,R.new (Heap.get?_none_of_le sz),Heap.get?_push_size _ rfl,⟨o,vs,t,z1,z2,by rw [show (pos,X.env.qual++"<lambda>").2=_ from hq.symm];exact z3⟩⟩
abbrev bG1 (sc:Scope) (q:Str) (L f cc:Addr) (cl:List (Str×Addr)):Env:=newEnv sc L mainGlobals cl (q++".<locals>.") (some f) (.ref cc) none builtinsNs
abbrev cxL (X:Cx) (A:Around) (N':List Str) (sc:Scope) (q:Str) (L f cc:Addr) (cl:List (Str×Addr)):Cx:=⟨X.S,A.deeper (bG1 sc q L f cc cl),N',bG1 sc q L f cc cl,false⟩
variable {N':List Str} {ixs:List (Option Nat)} {sc:Scope} {cl:List (Str×Addr)} {A:Around} {q par:Str} {L f cc:Addr} {i0:Nat} {u:Value} {w:W}
def zI {κ':Kp} {o:Obj} (fo:FrO κ A) (F:Fra X κ M δ) (SC:CompSc X.N N' ixs X.env.scope sc) (hcl1:∀ x c,cl.lookup x=some c->X.env.cells.lookup x=some c) (hcl2:∀ y∈sc.names,y.2=.free->∃ c,cl.lookup y.1=some c)
  (k:∀ a,κ a≠none->κ' a=κ a) (hL:κ' L=some (false,o)) (ho:aD7 o fun x=>List.lookup x [(par,u)]) (hb:X.S.base.objs.size<=L) (hp:N'[i0]?=some par) (hpl:sc.names.lookup par=some .local) (hi:ixs[i0]?=some none) (ru:RepW X.S M w u) :
  Fra (cxL X A N' sc q L f cc cl) κ' M ((aK ixs δ).set i0 (some w)):=by
 have hlen:(aK ixs δ).length=N'.length:=by
  unfold aK;rw [List.length_map];exact SC.len
 refine ⟨⟨F.ok.mod,SC.kind,rfl,rfl,fun x y c e1 e2=>F.ok.inj x y c (hcl1 x c e1) (hcl1 y c e2),fun x hx=>?_,hb,SC.nd⟩,by rw [List.length_set];exact hlen,⟨o,_,hL,ho,fun j x w' e1 e2 e3=>?_⟩,fun x c e=>?_,?_⟩
 ·have hx:sc.names.lookup x=some .cell\/sc.names.lookup x=some .free:=hx;rcases hx with hx | hx
  ·exact absurd rfl (SC.nocell _ (PySem.mem_of_lookup hx))
  ·exact hcl2 _ (PySem.mem_of_lookup hx) rfl
 ·by_cases hj:j=i0
  ·subst hj;have e1:N'[j]?=some x:=e1;rw [hp] at e1;cases e1;rw [List.getElem?_set_self (by rw [hlen];exact (List.getElem?_eq_some_iff.mp hp).1)] at e2;cases e2;exact ⟨u,ru,.inl ⟨hpl,by simp [List.lookup]⟩⟩
  ·rw [List.getElem?_set_ne (Ne.symm hj)] at e2;obtain ⟨i,ei,ev⟩:=wY e2;obtain ⟨eN,ef⟩:=SC.at e1 ei;have hm:=PySem.mem_of_lookup ef;have hvis:X.env.scope.names.lookup x=some .cell\/X.env.scope.names.lookup x=some .free:=SC.free _ hm rfl;obtain ⟨_,m,_,_,hl⟩:=F.loc;obtain ⟨u',r,l⟩:=hl i x w' eN ev (.inr hvis);refine ⟨u',r,?_⟩;rcases l with ⟨hk,_⟩ | ⟨_,c,oc,ec,eo,ed⟩
   ·have hk':X.env.scope.names.lookup x=some .local:=hk;rcases hvis with z | z
    ·rw [hk'] at z;cases z
    ·rw [hk'] at z;cases z
   ·obtain ⟨c',ec'⟩:=hcl2 _ hm rfl;have e5:=hcl1 _ _ ec';rw [ec] at e5;have e6:c=c':=Option.some.inj e5;subst e6;exact .inr ⟨.inr ef,c,oc,ec',by rw [k c (by rw [eo];exact fun z=>nomatch z)];exact eo,ed⟩
 ·obtain ⟨oc,v,e1,e2⟩:=F.cell x c (hcl1 x c e);exact ⟨oc,v,by rw [k c (by rw [e1];exact fun z=>nomatch z)];exact e1,e2⟩
 ·obtain ⟨l,e1,e2⟩:=fo;obtain ⟨es,ep,hd,_⟩:=ho;refine ⟨bG1 sc q L f cc cl::l,by simp [Around.deeper,e1],fun env he=>?_⟩;rcases List.mem_cons.mp he with rfl | he
  ·exact ⟨by show sc.kind≠_;rw [SC.kind];decide,_,o,rfl,hL,fun vs z=>by rw [hd] at z;cases z⟩
  ·obtain ⟨k1,L',o',k2,k3,k4⟩:=e2 env he;exact ⟨k1,L',o',k2,by rw [k L' (by rw [k3];exact fun z=>nomatch z)];exact k3,k4⟩
def aR5 {params:Arguments} {body:Expr} {pm ctv:Value} {te:XR W} {z:W} (hdep:A.depth < recursionLimit) (fo:FrO κ A) (R:Mem X.S κ M h s) (F:Fra X κ M δ) (SC:CompSc X.N N' ixs X.env.scope sc) (hcl1:∀ x c,cl.lookup x=some c->X.env.cells.lookup x=some c) (hcl2:∀ y∈sc.names,y.2=.free->∃ c,cl.lookup y.1=some c)
  (hf:s.heap.get? f=some (PySem.W.kla_obj "<lambda>" q params body sc cl pm cc ctv)) (hcd:s.heap.CodeRec (.ref cc) q) (hbd:∀ fd:FuncData,fd.params=params->fd.defaults=.none->fd.kwdefaults=.none->bindArgs fd ⟨[u],[]⟩=pure [(par,u)]) (hco:sc.isCoroutine=false) (hgen:sc.isGenerator=false)
  (hp:N'[i0]?=some par) (hpl:sc.names.lookup par=some .local) (hi:ixs[i0]?=some none) (ru:RepW X.S M w u) (he:∀ L,SE (cxL X A N' sc q L f cc cl) body te) (e:te ((aK ixs δ).set i0 (some w)) h=some (z,h')) :
  Wp X.S A (call (.ref f) [u]) (Pw X.S κ M h' z) E s:=by
 refine wpAny_call (PySem.W.kla_callFunE hdep hf rfl hco hgen rfl hcd ?_);rw [hbd _ rfl rfl rfl];refine wpAny_pure (wpAny_newFunctionEnv SC.nocell (fun y hy=>by rw [List.mem_singleton.mp hy];exact hpl) (fun h1 hns hsb=>?_) SC.kind);have kk:∀ b o,s.heap.get? b=some o->h1.get? b=some o:=fun b o e=>hsb.extBut b o (Nat.ne_of_lt (Heap.lt_size e)) (Heap.get?_push_of_some _ e);have R1:Mem X.S κ M h { s with heap:=h1,toks:=s.toks+1 }:=R.kept kk;obtain ⟨o,es,ep,ho,hd,hs,hf2⟩:=hns;have f0:=R.size;have R2:=R1.more (b:=false) ⟨f0.1,f0.2.2⟩ ho;have F2:=zI (A:=A) (q:=q) (f:=f) (cc:=cc) (κ':=κ.up s.heap.objs.size (false,o)) fo F SC hcl1 hcl2 (fun a ha=>bJ fun z=>ha (by rw [z];exact f0.2.1)) eK ⟨es,ep,hd,hs,hf2⟩ (F.size R) hp hpl hi ru;refine ⟨(F.ok.mod.nolimit.keeps R1.bk),PySem.W.kla_codeExpr (wpAny_mono (he _ R2 F2 e) (fun u' s2 ⟨M2,l2,R3,r3⟩=>?_) fun _ _ z=>z.elim)⟩;exact ⟨M2,l2,R3.less fun a x q=>by rw [bJ fun z=>by rw [z,f0.2.1] at q;cases q];exact q,r3⟩
end
end DL

namespace ST
open PySem PySem.Spec PyProof.Rows PySem.W
noncomputable def mL {α:Type} (lt:Nat->Nat->Bool):KasT α->α
 | .ret a=>a
 | .ask i j k=>mL lt (k (lt i j))
noncomputable def mM {α:Type} (n:Nat) (lt:Nat->Nat->Bool):KasT α->Bool
 | .ret _=>true
 | .ask i j k=>Nat.blt i n&&(Nat.blt j n&&(!(Nat.beq i j)&&mM n lt (k (lt i j))))
section
variable {n:Nat} {lt:Nat->Nat->Bool} {K:Nat->Int}
def Tr {α:Type} (n:Nat) (lt:Nat->Nat->Bool) (T:KasT α) (G:α->Prop):Prop:=mM n lt T=true/\G (mL lt T)
def Tr.ret {α:Type} {a:α} {G:α->Prop} (h:G a):Tr n lt (.ret a) G:=⟨rfl,h⟩
def Tr.ask {α:Type} {i j:Nat} {k:Bool->KasT α} {G:α->Prop} (hi:i < n) (hj:j < n) (hij:i≠j) (h:Tr n lt (k (lt i j)) G):Tr n lt (.ask i j k) G:=by
 refine ⟨?_,h.2⟩;have e:Nat.beq i j=false:=by rw [<- Bool.not_eq_true,Nat.beq_eq];exact hij
 simp only [mM,Bool.and_eq_true,Nat.blt_eq,e,Bool.not_false,true_and];exact ⟨hi,hj,h.1⟩
theorem Tr.bind {α β:Type} {f:α->KasT β} {G:β->Prop}:∀ {T:KasT α},Tr n lt T (fun a=>Tr n lt (f a) G)->Tr n lt (T.bind f) G
 | .ret a,h=>h.2
 | .ask i j k,h=>by
  obtain ⟨h1,h2⟩:=h;simp only [mM,Bool.and_eq_true,Nat.blt_eq,Bool.not_eq_true'] at h1;obtain ⟨a,b,c,e⟩:=h1;have ij:i≠j:=fun z=>by subst z;rw [Nat.beq_refl] at c;cases c
  exact Tr.ask a b ij (Tr.bind (T:=k (lt i j)) ⟨e,h2⟩)
def Tr.mono {α:Type} {T:KasT α} {G G':α->Prop} (h:Tr n lt T G) (g:∀ a,G a->G' a):Tr n lt T G':=⟨h.1,g _ h.2⟩
structure Pm (n:Nat) (p:Array Nat):Prop where
 sz:p.size=n
 pm:p.toList.Perm (List.range n)
def Pm.les {p:Array Nat} (h:Pm n p) {i:Nat} (hi:i < n):p.getD i 0 < n:=by
 have hi':i < p.size:=by rw [h.sz];exact hi
 have e:p.getD i 0=p[i]:=by simp [Array.getD,hi']
 rw [e];exact List.mem_range.mp (h.pm.mem_iff.mp (Array.getElem_mem_toList hi'))
def Pm.inj {p:Array Nat} (h:Pm n p) {i j:Nat} (hi:i < n) (hj:j < n) (e:p.getD i 0=p.getD j 0):i=j:=by
 have hi':i < p.size:=by rw [h.sz];exact hi
 have hj':j < p.size:=by rw [h.sz];exact hj
 have e1:p.getD i 0=p.toList[i]'(by simpa using hi'):=by simp [Array.getD,hi']
 have e2:p.getD j 0=p.toList[j]'(by simpa using hj'):=by simp [Array.getD,hj']
 have nd:p.toList.Nodup:=h.pm.nodup_iff.mpr List.nodup_range;rw [e1,e2] at e;exact (List.getElem_inj nd).mp e
def Up (K:Nat->Int) (p:Array Nat) (m:Nat):Prop:=∀ i j,i < j->j < m->K (p.getD i 0) < K (p.getD j 0)
def Dn (K:Nat->Int) (p:Array Nat) (m:Nat):Prop:=∀ i j,i < j->j < m->K (p.getD j 0) < K (p.getD i 0)
variable (hK:∀ i j,i < n->j < n->lt i j=decide (K i < K j)) (hI:∀ i j,i < n->j < n->K i=K j->i=j)
include hK hI
def mN {α:Type} {p:Array Nat} (P:Pm n p) {i j:Nat} (hi:i < n) (hj:j < n) (hij:i≠j) {k:Bool->KasT α} {G:α->Prop}
  (h1:K (p.getD i 0) < K (p.getD j 0)->Tr n lt (k true) G) (h2:K (p.getD j 0) < K (p.getD i 0)->Tr n lt (k false) G):Tr n lt (.ask (p.getD i 0) (p.getD j 0) k) G:=by
 refine Tr.ask (P.les hi) (P.les hj) (fun z=>hij (P.inj hi hj z)) ?_;rw [hK _ _ (P.les hi) (P.les hj)]
 by_cases c:K (p.getD i 0) < K (p.getD j 0)
 ·rw [decide_eq_true c];exact h1 c
 ·rw [decide_eq_false c];refine h2 ?_;have:K (p.getD i 0)≠K (p.getD j 0):=fun z=>hij (P.inj hi hj (hI _ _ (P.les hi) (P.les hj) z));omega
omit hK hI in
def aR6 {p:Array Nat} {m:Nat} (h1:1<=m) (u:Up K p m) (h:K (p.getD (m - 1) 0) < K (p.getD m 0)):Up K p (m+1):=fun i j hij hj=>by
 by_cases e:j=m
 ·subst e
  by_cases e2:i=j - 1
  ·rw [e2];exact h
  ·have:=u i (j - 1) (by omega) (by omega);omega
 ·exact u i j hij (by omega)
omit hK hI in
def aR7 {p:Array Nat} {m:Nat} (h1:1<=m) (u:Dn K p m) (h:K (p.getD m 0) < K (p.getD (m - 1) 0)):Dn K p (m+1):=fun i j hij hj=>by
 by_cases e:j=m
 ·subst e
  by_cases e2:i=j - 1
  ·rw [e2];exact h
  ·have:=u i (j - 1) (by omega) (by omega);omega
 ·exact u i j hij (by omega)
theorem uW {p:Array Nat} (P:Pm n p):∀ (f m:Nat),1<=m->m+f=n->Up K p m->Tr n lt (kas_asc p f m) (fun m'=>m<=m'/\m'<=n/\Up K p m'/\(m'=n\/(m' < n/\K (p.getD m' 0) < K (p.getD (m' - 1) 0))))
 | 0,m,h1,hm,u=>Tr.ret ⟨Nat.le_refl m,by omega,u,.inl (by omega)⟩
 | f+1,m,h1,hm,u=>by
  unfold kas_asc;refine mN hK hI P (by omega) (by omega) (by omega) (fun c=>?_) fun c=>?_
  ·exact Tr.ret ⟨Nat.le_refl m,by omega,u,.inr ⟨by omega,c⟩⟩
  ·exact (uW P f (m+1) (by omega) (by omega) (aR6 h1 u c)).mono fun a ⟨a1,a2⟩=>⟨by omega,a2⟩
theorem xA {p:Array Nat} (P:Pm n p):∀ (f m:Nat),1<=m->m+f=n->Dn K p m->Tr n lt (kas_desc f p m 0) (fun r=>r.1=p/\m<=r.2.1/\r.2.1<=n/\r.2.2=0/\Dn K p r.2.1)
 | 0,m,h1,hm,u=>Tr.ret ⟨rfl,Nat.le_refl m,by show m<=n;omega,rfl,u⟩
 | f+1,m,h1,hm,u=>by
  unfold kas_desc;refine mN hK hI P (by omega) (by omega) (by omega) (fun c=>?_) fun c=>?_
  ·exact (xA P f (m+1) (by omega) (by omega) (aR7 h1 u c)).mono fun a ⟨a0,a1,a2⟩=>⟨a0,by omega,a2⟩
  ·refine mN hK hI P (by omega) (by omega) (by omega) (fun c'=>?_) fun c'=>by omega
   exact Tr.ret ⟨rfl,Nat.le_refl m,by show m<=n;omega,rfl,u⟩
omit hK hI in
def aG7 {p:Array Nat} {m:Nat} (hm:m<=p.size) (k:Nat):(kas_rev p 0 m).getD k 0=if k < m then p.getD (m - 1 - k) 0 else p.getD k 0:=by
 have e:=getElem?_mirror_all (xs:=p) (i:=0) (j:=m) hm k;unfold kas_rev;rw [Array.getD_eq_getD_getElem?,e]
 by_cases h:k < m
 ·rw [if_pos ⟨Nat.zero_le _,h⟩,if_pos h,Array.getD_eq_getD_getElem?,Nat.zero_add]
 ·rw [if_neg (fun z=>h z.2),if_neg h,Array.getD_eq_getD_getElem?]
omit hK hI in
def bG2 {p:Array Nat} (P:Pm n p) (m:Nat):Pm n (kas_rev p 0 m):=⟨by unfold kas_rev;rw [mirror_size,P.sz],(mirror_perm p 0 m _).toList.trans P.pm⟩
def aR8 {p:Array Nat} (P:Pm n p) {m:Nat} (h1:1<=m) (hm:m<=n) (u:Dn K p m):Tr n lt (kas_tail3 m n p) (fun r=>Pm n r.2/\1<=r.1/\r.1<=n/\Up K r.2 r.1):=by
 unfold kas_tail3;have P':=bG2 P m;refine Tr.bind ((uW hK hI P' (n - m) m h1 (by omega) fun i j hij hj=>?_).mono fun a ⟨a1,a2,a3,_⟩=>Tr.ret ⟨P',by show 1<=a;omega,a2,a3⟩);rw [aG7 (by rw [P.sz];exact hm),aG7 (by rw [P.sz];exact hm),if_pos (by omega),if_pos hj];exact u _ _ (by omega) (by omega)
def aG8 {p:Array Nat} (P:Pm n p) (h2:2<=n):Tr n lt (kas_count n p) (fun r=>Pm n r.2/\1<=r.1/\r.1<=n/\Up K r.2 r.1):=by
 unfold kas_count;refine Tr.bind ((uW hK hI P (n - 1) 1 (Nat.le_refl 1) (by omega) fun i j hij hj=>by omega).mono fun m ⟨a1,a2,a3,a4⟩=>?_)
 by_cases e:m=n
 ·rw [if_pos (by rw [e];exact beq_self_eq_true n)];exact Tr.ret ⟨P,a1,a2,a3⟩
 ·rw [if_neg (by simpa using e)]
  by_cases e1:m > 1
  ·rw [if_pos e1];have c:=a3 0 (m - 1) (by omega) (by omega);refine mN hK hI P (by omega) (by omega) (by omega) (fun _=>?_) fun c'=>by omega
   exact Tr.ret ⟨P,a1,a2,a3⟩
  ·rw [if_neg e1];have em:m=1:=by omega
   subst em;unfold kas_descPart;have c:K (p.getD 1 0) < K (p.getD 0 0):=by
    rcases a4 with z | z
    ·omega
    ·exact z.2
   refine Tr.bind ((xA hK hI P (n - 2) 2 (by omega) (by omega) fun i j hij hj=>?_).mono fun r ⟨b0,b1,b2,b3,b4⟩=>?_)
   ·have e0:i=0:=by omega
    have e1:j=1:=by omega
    subst e0 e1;exact c
   ·rw [if_neg (by omega),b0];exact aR8 hK hI P (by omega) b2 b4
theorem mO {p:Array Nat} (P:Pm n p) {k:Nat} (hk:k < n) (u:Up K p k):∀ (f l r:Nat),l<=r->r<=k->r - l<=f->(∀ i,i < l->K (p.getD i 0) < K (p.getD k 0))->(∀ i,r<=i->i < k->K (p.getD k 0) < K (p.getD i 0)) ->
  Tr n lt (kas_place p k f l r) (fun a=>a<=k/\(∀ i,i < a->K (p.getD i 0) < K (p.getD k 0))/\∀ i,a<=i->i < k->K (p.getD k 0) < K (p.getD i 0))
 | 0,l,r,h1,h2,h3,hl,hr=>Tr.ret ⟨by omega,hl,fun i hi hik=>hr i (by omega) hik⟩
 | f+1,l,r,h1,h2,h3,hl,hr=>by
  unfold kas_place
  by_cases e:l ≥ r
  ·rw [if_pos e];exact Tr.ret ⟨by omega,hl,fun i hi hik=>hr i (by omega) hik⟩
  ·rw [if_neg e];refine mN hK hI P (by omega) (by omega) (by omega) (fun c=>?_) fun c=>?_
   ·refine mO P hk u f l ((l+r) / 2) (by omega) (by omega) (by omega) hl fun i hi hik=>?_
    by_cases z:i=(l+r) / 2
    ·rw [z];exact c
    ·have:=u ((l+r) / 2) i (by omega) hik;omega
   ·refine mO P hk u f ((l+r) / 2+1) r (by omega) (by omega) (by omega) (fun i hi=>?_) hr
    by_cases z:i=(l+r) / 2
    ·rw [z];exact c
    ·have:=u i ((l+r) / 2) (by omega) (by omega);omega
omit hK hI in
def aG9 {p:Array Nat} {k l:Nat} (hk:k < p.size) (hl:l<=k) (j:Nat):(bubble p k (k - l)).getD j 0=if j=l then p.getD k 0 else if l < j/\j<=k then p.getD (j - 1) 0 else p.getD j 0:=by
 have e:=getElem?_bubble (xs:=p) hk (k - l) (by omega) j;rw [show k - (k - l)=l by omega] at e;simp only [Array.getD_eq_getD_getElem?,e]
 repeat' split
 all_goals rfl
omit hK hI in
def bG3 {p:Array Nat} (P:Pm n p) (k d:Nat):Pm n (bubble p k d):=⟨by rw [bubble_size,P.sz],(bubble_perm p k d).toList.trans P.pm⟩
theorem bin_ok:∀ (f k:Nat) {p:Array Nat},Pm n p->k+f=n->Up K p k->Tr n lt (kas_bin f p k) (fun q=>Pm n q/\Up K q n)
 | 0,k,p,P,hk,u=>Tr.ret ⟨P,fun i j hij hj=>u i j hij (by omega)⟩
 | f+1,k,p,P,hk,u=>by
  unfold kas_bin;have kn:k < n:=by omega
  refine Tr.bind ((mO hK hI P kn u k 0 k (Nat.zero_le k) (Nat.le_refl k) (by omega) (fun i hi=>by omega) fun i hi hik=>by omega).mono fun l ⟨a1,a2,a3⟩=>?_);refine bin_ok f (k+1) (bG3 P k (k - l)) (by omega) fun i j hij hj=>?_;have ks:k < p.size:=by rw [P.sz];exact kn
  rw [aG9 ks a1,aG9 ks a1]
  by_cases i1:i=l
  ·rw [if_pos i1,if_neg (by omega),if_pos (by omega)];exact a3 _ (by omega) (by omega)
  ·rw [if_neg i1]
   by_cases j1:j=l
   ·rw [if_pos j1,if_neg (by omega)];exact a2 _ (by omega)
   ·rw [if_neg j1]
    by_cases i2:l < i/\i<=k
    ·rw [if_pos i2,if_pos (by omega)];exact u _ _ (by omega) (by omega)
    ·rw [if_neg i2]
     by_cases j2:l < j/\j<=k
     ·rw [if_pos j2]
      by_cases z:i=j - 1
      ·omega
      ·exact u _ _ (by omega) (by omega)
     ·rw [if_neg j2];exact u _ _ hij (by omega)
def aR9 (h2:2<=n):Tr n lt (kas_sort n) (fun q=>q.toList.Perm (List.range n)/\q.toList.Pairwise fun i j=>lt i j=true):=by
 have fin:∀ q,Pm n q/\Up K q n->q.toList.Perm (List.range n)/\q.toList.Pairwise fun i j=>lt i j=true:=fun q ⟨P,u⟩=>by
  refine ⟨P.pm,?_⟩;rw [List.pairwise_iff_getElem];intro i j hi hj hij;have sz:q.toList.length=n:=by rw [Array.length_toList];exact P.sz
  have hi':i < q.size:=by rw [P.sz];omega
  have hj':j < q.size:=by rw [P.sz];omega
  have h:=u i j hij (by omega);have e1:q.getD i 0=q.toList[i]:=by simp [Array.getD,hi']
  have e2:q.getD j 0=q.toList[j]:=by simp [Array.getD,hj']
  have l1:=P.les (i:=i) (by omega);have l2:=P.les (i:=j) (by omega);rw [e1] at h l1;rw [e2] at h l2;rw [hK _ _ l1 l2];exact decide_eq_true h
 unfold kas_sort;have P0:Pm n (List.toArray (List.range n)):=⟨by simp,by simp⟩;refine Tr.bind ((aG8 hK hI P0 h2).mono fun r ⟨a0,a1,a2,a3⟩=>?_)
 by_cases e:r.1 < n
 ·rw [if_pos e];exact (bin_ok hK hI _ _ a0 (by omega) (by rw [Nat.max_eq_left a1];exact a3)).mono fin
 ·rw [if_neg e];have:r.1=n:=by omega
  exact Tr.ret (fin _ ⟨a0,by rw [<- this];exact a3⟩)
end
end ST

namespace ST
open PySem PySem.Spec PyProof.Rows PySem.W
theorem qK {α:Type} {cmp:Nat->Nat->(Bool->Shared->Prop)->Shared->Prop} {n:Nat} {lt lt':Nat->Nat->Bool} {s:Shared}
  (hc:∀ i j,i < n->j < n->i≠j->∀ C:Bool->Shared->Prop,C (lt i j) s->cmp i j C s) (he:∀ i j,i < n->j < n->lt i j=lt' i j):∀ (T:KasT α) (G:α->Shared->Prop),mM n lt' T=true->G (mL lt' T) s->KasT.kasWp cmp T G s
 | .ret a,G,_,h=>h
 | .ask i j k,G,ht,h=>by
  simp only [mM,Bool.and_eq_true,Nat.blt_eq,Bool.not_eq_true'] at ht;obtain ⟨h1,h2,h3,h4⟩:=ht;refine hc i j h1 h2 (fun z=>by subst z;rw [Nat.beq_refl] at h3;cases h3) _ ?_;rw [he i j h1 h2];exact qK hc he (k (lt' i j)) G h4 h
noncomputable def ltK (ks:List Int) (i j:Nat):Bool:=decide (ks.getD i 0 < ks.getD j 0)
def qL {ks:List Int} (nd:ks.Nodup) (h2:2<=ks.length):mM ks.length (ltK ks) (kas_sort ks.length)=true /\
  ((mL (ltK ks) (kas_sort ks.length)).toList.Perm (List.range ks.length))/\(mL (ltK ks) (kas_sort ks.length)).toList.Pairwise (fun i j=>ltK ks i j=true) :=
 aR9 (n:=ks.length) (lt:=ltK ks) (K:=fun i=>ks.getD i 0) (fun i j _ _=>rfl) (fun i j hi hj e=>by
  simp only [List.getD_eq_getElem?_getD,hi,hj,List.getElem?_eq_getElem,Option.getD_some] at e;exact (List.getElem_inj nd).mp e) h2
end ST

namespace ST
open PySem PySem.Spec PyProof.Rows PySem.W
section
variable {prog:Program} {w:World} {A:Around} {E:Value->Shared->Prop} {s:Shared}
def sE {a b:Bool} {Q:Bool->Shared->Prop} (h:Q (a==b) s):wpAny (model prog w) A (eqBool (.bool a) (.bool b)) Q E s:=by
 unfold eqBool;show wpAny _ _ (if (Value.bool a==Value.bool b)=true then _ else _) Q E s
 by_cases hab:(Value.bool a==Value.bool b)=true
 ·rw [if_pos hab];have e:a=b:=by have:=eq_of_beq hab;injection this
  subst e;exact wpAny_bind (wpAny_rule (wpAny_pure (by simpa using h)))
 ·rw [if_neg hab];exact wpAny_bind (eq_bool (wpAny_truthy_bool h))
def uX {a b:Bool} {Q:Bool->Shared->Prop} (h:Q (!a&&b) s):wpAny (model prog w) A (oneLt' true (.bool a) (.bool b)) Q E s:=by
 rw [oneLt'_eq];simp only [if_true];refine wpAny_bind (wpAny_cRoomFor_byValue rfl ?_);refine wpAny_bind (wpAny_callSpecialIfBound?_slot (typeIs_bool' s a) PySem.F.slot_bool_lt ?_);refine wpAny_call_entry PySem.F.slot_bool_lt (typeIs_bool' s a) PySem.F.entry_int_lt ?_ (PySem.F.args_int_lt_2 _ _);show wpAny _ _ (ret (.bool (decide ((if a=true then (1:Int) else 0) < (if b=true then (1:Int) else 0))))) _ _ s;refine wpAny_pure ⟨_,rfl,wpAny_truthy_bool ?_⟩;have e:decide ((if a=true then (1:Int) else 0) < (if b=true then (1:Int) else 0))=(!a&&b):=by cases a<;>cases b<;>decide
 rw [e];exact h
noncomputable def nP (a b:Bool) (i:Int):Int:=(if a=true then 2000000 else 0)+(if b=true then 1000000 else 0)+i
def oQ (h:Heap) (k:Int) (u:Value):Prop:=∃ (a b:Bool) (i:Int) (t:Tok) (A:Addr) (o:Obj) (n:Nat),u=.ref A/\h.get? A=some o/\o.cls=.type "tuple"/\o.data=.seq #[.bool a,.bool b,.int i t] n/\k=nP a b i/\0<=i/\i < 1000000
def bG4 {x y:Int} {u v:Value} {C:Bool->Shared->Prop} (hx:oQ s.heap x u) (hy:oQ s.heap y v) (h:C (decide (x < y)) s):wpAny (model prog w) A (keyLt' (tuples' true) u v) C E s:=by
 obtain ⟨a,b,i,t,X,o,n,rfl,h1,h2,h3,rfl,i1,i2⟩:=hx;obtain ⟨a',b',i',t',X',o',n',rfl,g1,g2,g3,rfl,j1,j2⟩:=hy;refine kat_lt h1 h3 g1 g3 ?_;show KatLex prog w A true false C [(.bool a,.bool a'),(.bool b,.bool b'),(.int i t,.int i' t')] 0 s;refine kat_cons (sE ?_)
 by_cases ha:a=a'
 ·subst ha;rw [beq_self_eq_true];refine kat_yes (kat_cons (sE ?_))
  by_cases hb:b=b'
  ·subst hb;rw [beq_self_eq_true];refine kat_yes (kat_cons (wpAny_eqBool_int ?_))
   by_cases hi:i=i'
   ·subst hi;rw [beq_self_eq_true];refine kat_yes (kat_nil ?_);rw [decide_eq_false (Int.lt_irrefl _)] at h;exact h
   ·rw [beq_eq_false_iff_ne.mpr hi];refine kat_no (kat_one _ _ (lt_int ?_));have e:decide (nP a b i < nP a b i')=decide (i < i'):=by rw [decide_eq_decide];unfold nP;omega
    rw [e] at h;exact h
  ·rw [beq_eq_false_iff_ne.mpr hb];refine kat_no (kat_one _ _ (lt_bool ?_));have e:decide (nP a b i < nP a b' i')=decide (b2i b < b2i b'):=by
    rw [decide_eq_decide];unfold nP b2i;cases b<;>cases b'<;>first | exact absurd rfl hb | (simp;omega)
   rw [e] at h;exact h
 ·rw [beq_eq_false_iff_ne.mpr ha];refine kat_no (uX ?_);have e:decide (nP a b i < nP a' b' i')=(!a&&a'):=by
   unfold nP;cases a<;>cases a'<;>first | exact absurd rfl ha | (cases b<;>cases b'<;>simp<;>omega)
  rw [e] at h;exact h
theorem sF {h:Heap}:∀ {ks:List Int} {us:List Value},Paired (oQ h) ks us->∃ fs,KatTups h us fs/\fs.length=us.length/\∀ v∈fs,∃ b,v=.bool b
 | _,_,.nil=>⟨[],.nil,rfl,fun v hv=>nomatch hv⟩
 | _,_,.cons k r=>by
  obtain ⟨a,b,i,t,X,o,n,rfl,h1,h2,h3,_⟩:=k;obtain ⟨fs,t,l,e⟩:=sF r;refine ⟨.bool a::fs,.cons h1 h2 h3 rfl t,by simp [l],fun v hv=>?_⟩;rcases List.mem_cons.mp hv with rfl | hv
  ·exact ⟨_,rfl⟩
  ·exact e v hv
end
end ST

namespace ST
open PySem PySem.Spec PyProof.Rows PySem.W
def xB {α β:Type}:∀ {l:List α} {r:List β},l.length=r.length->(l.zip r).reverse=l.reverse.zip r.reverse:=by
 intro l;induction l with
 | nil=>intro r h;simp
 | cons a l ih =>
  intro r h;cases r with
  | nil=>simp at h
  | cons b r =>
   simp only [List.length_cons,Nat.add_right_cancel_iff] at h;rw [List.zip_cons_cons,List.reverse_cons,ih h,List.reverse_cons,List.reverse_cons,List.zip_append (by simp [h])];rfl
def qM {α β:Type} {l:List α} {r:List β} {a:α} {b:β} (h:l.length=r.length):(List.range l.length).map (fun i=>(l.getD i a,r.getD i b))=l.zip r:=by
 apply List.ext_getElem
 ·simp [h]
 ·intro i h1 h2;simp at h1 h2;simp [List.getD_eq_getElem?_getD,h1,show i < r.length by omega]
section
variable {prog:Program} {w:World} {A:Around} {E:Value->Shared->Prop} {s:Shared}
def bT0 {α β:Type} {F:α->β->Prop} {l:List α} {r:List β} (h:Paired F l r):Paired F l.reverse r.reverse:=by
 induction h with
 | nil=>exact .nil
 | cons a _ ih=>rw [List.reverse_cons,List.reverse_cons];exact Paired.snoc ih a
theorem mP {α β:Type} {F:α->β->Prop}:∀ {l:List α} {r:List β} {i:Nat} {a:α},Paired F l r->l[i]?=some a->∃ b,r[i]?=some b/\F a b
 | _,_,_,_,.nil,e=>by simp at e
 | _,_,0,_,.cons h _,e=>by simp at e;subst e;exact ⟨_,rfl,h⟩
 | _,_,i+1,a,.cons _ t,e=>by
  obtain ⟨b,h1,h2⟩:=mP (i:=i) (a:=a) t (by simpa using e);exact ⟨b,by simpa using h1,h2⟩
def pw1 {α:Type} {R:α->α->Prop} {l:List α} (h:l.length < 2):l.Pairwise R:=by
 rcases l with _ | ⟨a,_ | ⟨b,r⟩⟩
 ·exact .nil
 ·exact List.pairwise_singleton _ _
 ·exact absurd h (Nat.not_lt.mpr (Nat.le_add_left 2 _))
def aS0 {a kS:Addr} {us vs:List Value} {ks:List Int} {e e1:Nat} {P:PySem.Fin->Shared->Prop} (hk:s.heap.get? kS=some (seqObj "list" us.toArray e)) (ha:s.heap.get? a=some (seqObj "list" #[] e1)) (hka:kS≠a) (K:Paired (oQ s.heap) ks us) (nd:ks.Nodup) (hl:us.length=vs.length) (h6:vs.length < 64)
  (h:∀ (ps:List (Int×Value)) c h',ps.Perm (ks.zip vs)->ps.Pairwise (fun p q=>q.1<=p.1)->h'.get? a=some (seqObj "list" (ps.map (·.2)).toArray c)->(∀ b o,b≠a->b≠kS->s.heap.get? b=some o->h'.get? b=some o)->P (.done (.ret .none)) { s with heap:=h' }) :
  wpAny (model prog w) A (ksk_end a true vs.toArray e1 (.ref kS) us.toArray) P E s:=by
 have kl:ks.length=us.length:=K.length;have zl:sizeLine=16777216:=sizeLine_eq;have tail:∀ (st:SortSt) (ps:List (Int×Value)),ps.Perm (ks.zip vs)->ps.Pairwise (fun p q=>q.1<=p.1)->failedOf st=none->((arrOf st).map (·.2)).reverse=(ps.map (·.2)).toArray->wpAny (model prog w) A (ksk_tail a true e1 (.ref kS) st) P E s:=fun st ps hp ho hf he=>by
  have s1:=Heap.SameBut.update s.heap kS (Obj.mapSeq fun _=>(#[]:Array Value));have na1:(s.heap.update kS (Obj.mapSeq fun _=>(#[]:Array Value))).get? a=some (seqObj "list" #[] e1):=(s1.2 a hka.symm).trans ha;have s2:=Heap.SameBut.update (s.heap.update kS (Obj.mapSeq fun _=>(#[]:Array Value))) a (Obj.mapSeq fun _=>(ps.map (·.2)).toArray);obtain ⟨c2,hc2⟩:∃ c2,((s.heap.update kS (Obj.mapSeq fun _=>(#[]:Array Value))).update a (Obj.mapSeq fun _=>(ps.map (·.2)).toArray)).get? a=some (seqObj "list" (ps.map (·.2)).toArray c2):=⟨_,get?_update_seq na1 fun _=>(ps.map (·.2)).toArray⟩;have pl:ps.length=vs.length:=by rw [hp.length_eq,List.length_zip];omega
  unfold ksk_tail;try dsimp only
  refine wpAny_bind (listUpdate_at hk rfl ?_ (by rw [List.size_toArray,zl];omega) (Nat.zero_le _));refine wpAny_bind (wpAny_letGo ?_);refine wpAny_bind (seqEpoch_at na1 rfl ?_);simp only [if_true];rw [he];refine wpAny_bind (listUpdate_at na1 rfl ?_ (Nat.zero_le _) (by rw [List.size_toArray,List.length_map,zl];omega));rw [hf];simp only [bne_self_eq_false,Bool.false_eq_true,if_false];exact wpAny_pure (h ps c2 _ hp ho hc2 fun b o n1 n2 q=>(s2.2 b n1).trans ((s1.2 b n2).trans q))
 have ez:us.toArray.zip vs.toArray=(us.zip vs).toArray:=by simp
 have er:(us.toArray.zip vs.toArray).reverse=us.reverse.toArray.zip vs.reverse.toArray:=by
  rw [ez];simp [xB hl]
 unfold ksk_end;try dsimp only
 simp only [if_true];refine wpAny_bind (wpAny_rule ?_)
 by_cases h2:vs.toArray.size < 2
 ·rw [if_pos h2,if_pos h2];rw [List.size_toArray] at h2;refine wpAny_bind (wpAny_pure ?_);rw [StateT.run_pure];refine wpAny_bind (wpAny_pure ?_);refine tail _ (ks.zip vs) (.refl _) ?_ rfl ?_
  ·exact pw1 (by rw [List.length_zip];omega)
  ·show ((us.toArray.zip vs.toArray).reverse.map (·.2)).reverse=_;rw [ez,List.map_snd_zip (by omega)];simp [List.map_snd_zip (l₁:=us) (l₂:=vs) (by omega),List.map_reverse]
 ·rw [if_neg h2,if_neg h2];rw [List.size_toArray] at h2;obtain ⟨fs,kt,fl,fi⟩:=sF K;refine wpAny_bind (kat_kind (T:=.type "bool") kt (by omega) (fun v hv=>?_) (by decide) ?_)
  ·obtain ⟨b,rfl⟩:=fi v hv;exact fun A Q E s _ q=>wpAny_pure q
  ·rw [er];have Kr:=bT0 K;have rl:ks.reverse.length=vs.reverse.length:=by simp;omega
   have rn:ks.reverse.Nodup:=(List.reverse_perm ks).nodup_iff.mpr nd;have rl2:us.reverse.length=vs.reverse.length:=by simp;omega
   have n2:ks.reverse.length=vs.reverse.length:=rl;obtain ⟨h1,h3,h4⟩:=qL rn (by simp;omega);rw [rl] at h1 h3 h4;refine wpAny_bind (kat_run (κ:=tuples' true) (Q:=fun st s'=>wpAny (model prog w) A (ksk_tail a true e1 (.ref kS) st) P E s') (vs:=vs.reverse) (ks:=us.reverse) (G:=fun p s'=>p=mL (ltK ks.reverse) (kas_sort vs.reverse.length)/\s'=s) rl2 (by simp;omega) (by simp;omega) ?_ ?_)
   ·rintro p st s' hp har hf ⟨rfl,rfl⟩;refine tail st (((mL (ltK ks.reverse) (kas_sort vs.reverse.length)).toList.map fun i=>(ks.reverse.getD i 0,vs.reverse.getD i Value.none)).reverse) ?_ ?_ hf ?_
    ·refine (List.reverse_perm _).trans ((h3.map _).trans ?_);rw [<- rl,qM rl,<- xB (by omega)];exact List.reverse_perm _
    ·rw [List.pairwise_reverse,List.pairwise_map];refine h4.imp fun {i j} hz=>?_;unfold ltK at hz;exact Int.le_of_lt (of_decide_eq_true hz)
    ·rw [kat_snds rl2 har];simp [List.map_reverse,Function.comp_def]
   ·refine qK (lt:=ltK ks.reverse) (fun i j hi hj hij C hC=>?_) (fun _ _ _ _=>rfl) _ _ h1 ⟨rfl,rfl⟩;have hi':i < ks.reverse.length:=by rw [rl];exact hi
    have hj':j < ks.reverse.length:=by rw [rl];exact hj
    obtain ⟨u,eu,ku⟩:=mP Kr (List.getElem?_eq_getElem hi');obtain ⟨v,ev,kv⟩:=mP Kr (List.getElem?_eq_getElem hj');unfold kas_ask;have e1:us.reverse.getD i .none=u:=by rw [List.getD_eq_getElem?_getD,eu];rfl
    have e2:us.reverse.getD j .none=v:=by rw [List.getD_eq_getElem?_getD,ev];rfl
    rw [e1,e2];refine bG4 ku kv ?_;have e3:ltK ks.reverse i j=decide (ks.reverse[i] < ks.reverse[j]):=by
     unfold ltK;rw [List.getD_eq_getElem?_getD,List.getD_eq_getElem?_getD,List.getElem?_eq_getElem hi',List.getElem?_eq_getElem hj'];rfl
    rw [<- e3];exact hC
end
end ST

namespace DL
open PySem PySem.Spec PyProof.Rows L2 CI ST
theorem xC {α:Type}:∀ {l:List (Int×α)},(l.map (·.1)).Nodup->∀ a∈l,∀ b∈l,a.1=b.1->a=b
 | [],_,_,h,_,_,_=>nomatch h
 | x::l,nd,a,ha,b,hb,e=>by
  rw [List.map_cons,List.nodup_cons] at nd;rcases List.mem_cons.mp ha with q1 | q1
  ·rcases List.mem_cons.mp hb with q2 | q2
   ·rw [q1,q2]
   ·exact (nd.1 (by rw [<- q1,e];exact List.mem_map_of_mem q2)).elim
  ·rcases List.mem_cons.mp hb with q2 | q2
   ·exact (nd.1 (by rw [<- q2,<- e];exact List.mem_map_of_mem q1)).elim
   ·exact xC nd.2 a q1 b q2 e
noncomputable def dsc {α:Type} (l:List (Int×α)):List (Int×α):=l.mergeSort fun a b=>decide (b.1<=a.1)
def mQ {α:Type} (l:List (Int×α)):(dsc l).Perm l:=List.mergeSort_perm _ _
def aH0 {α:Type} (l:List (Int×α)):(dsc l).Pairwise fun a b=>b.1<=a.1:=by
 have h:=List.pairwise_mergeSort (le:=fun a b:Int×α=>decide (b.1<=a.1)) (fun a b c h1 h2=>by simp at *;omega) (fun a b=>by simp;omega) l;exact h.imp fun h=>by simpa using h
def jK {α:Type} {l ps:List (Int×α)} (nd:(l.map (·.1)).Nodup) (p:ps.Perm l) (o:ps.Pairwise fun a b=>b.1<=a.1):ps=dsc l :=
 (p.trans (mQ l).symm).eq_of_pairwise (fun a b ha hb h1 h2=>xC nd a (p.mem_iff.mp ha) b ((mQ l).mem_iff.mp hb) (Int.le_antisymm h2 h1)) o (aH0 l)
def lC {α:Type} {ks:List Int} {r:List α} (h:ks.length<=r.length):(ks.zip r).map (·.1)=ks:=List.map_fst_zip h
def xD {α β:Type} {F:α->β->Prop} {ks:List Int} {xs:List α} {vs:List β} (nd:ks.Nodup) (hl:ks.length=xs.length) (r:Paired F xs vs):Paired F ((dsc (ks.zip xs)).map (·.2)) ((dsc (ks.zip vs)).map (·.2)):=by
 have hv:=r.length;have pz:∀ {xs:List α} {vs:List β},Paired F xs vs->∀ t∈xs.zip vs,F t.1 t.2:=by
  intro xs vs r;induction r with
  | nil=>intro t h;simp at h
  | cons a _ ih =>
   intro t h;rw [List.zip_cons_cons] at h;rcases List.mem_cons.mp h with rfl | h
   ·exact a
   ·exact ih t h
 have e1:(ks.zip (xs.zip vs)).map (fun t=>(t.1,t.2.1))=ks.zip xs:=by
  apply List.ext_getElem
  ·simp;omega
  ·intro i h1 h2;simp
 have e2:(ks.zip (xs.zip vs)).map (fun t=>(t.1,t.2.2))=ks.zip vs:=by
  apply List.ext_getElem
  ·simp;omega
  ·intro i h1 h2;simp
 have p:=mQ (ks.zip (xs.zip vs));have o:=aH0 (ks.zip (xs.zip vs));have f1:(dsc (ks.zip (xs.zip vs))).map (fun t=>(t.1,t.2.1))=dsc (ks.zip xs):=jK (by rw [lC (by omega)];exact nd) (by rw [<- e1];exact p.map _) (by rw [List.pairwise_map];exact o);have f2:(dsc (ks.zip (xs.zip vs))).map (fun t=>(t.1,t.2.2))=dsc (ks.zip vs):=jK (by rw [lC (by omega)];exact nd) (by rw [<- e2];exact p.map _) (by rw [List.pairwise_map];exact o);rw [<- f1,<- f2,List.map_map,List.map_map];have all:∀ t∈dsc (ks.zip (xs.zip vs)),F t.2.1 t.2.2:=fun t ht=>pz r t.2 (List.of_mem_zip (show (t.1,t.2)∈_ from p.mem_iff.mp ht)).2;generalize dsc (ks.zip (xs.zip vs))=l at all;induction l with
 | nil=>exact .nil
 | cons t l ih=>exact .cons (all t List.mem_cons_self) (ih fun t h=>all t (List.mem_cons_of_mem _ h))
theorem sG:∀ {zs:List PyData} {ks:List Int},wO zs=some ks->zs.length=ks.length
 | [],_,e=>by cases e;rfl
 | z::zs,_,e=>by
  obtain ⟨k,e1,e⟩:=bind_some (show (bC3 z).bind _=_ from e);obtain ⟨ks,e2,rfl⟩:=map_some e;simp [sG e2]
theorem xE {S:Sx} {Z:Zm} {hp:Heap} (hz:∀ a o,Z a=some o->hp.get? a=some o):∀ {zs:List PyData} {ks:List Int} {us:List Value},wO zs=some ks->Paired (Rep S Z) zs us->Paired (oQ hp) ks us
 | [],_,_,e,r=>by cases e;cases r;exact .nil
 | z::zs,_,_,e,r=>by
  obtain ⟨k,e1,e⟩:=bind_some (show (bC3 z).bind _=_ from e);obtain ⟨ks,e2,rfl⟩:=map_some e;cases r with
  | cons a b =>
   refine .cons ?_ (xE hz e2 b);obtain ⟨⟨k',x,y,i,ez,hi,ek⟩,hh,rfl⟩:=Option.map_eq_some_iff.mp (show (bO1 _).map (·.1)=_ from e1);clear hh e1;subst ez
   ·show oQ hp k' _;rw [ek];obtain ⟨A,o,us,rfl,zA,⟨⟨n,rfl⟩,_⟩,rr⟩:=rep_t.mp a;cases rr with
    | cons r1 rr =>
     cases rr with
     | cons r2 rr =>
      cases rr with
      | cons r3 rr =>
       cases rr;cases rep_b.mp r1;cases rep_b.mp r2;obtain ⟨t,rfl⟩:=rep_i.mp r3;exact ⟨x,y,i,t,A,_,n,rfl,hz _ _ zA,rfl,rfl,rfl,hi.1,hi.2⟩
theorem aH1 {te:XR W} {δ:DSt} {i:Nat}:∀ {xs zs:List PyData} {h h':aA},eX te δ i xs h=some (zs,h')->zs.length=xs.length
 | [],_,_,_,e=>by cases e;rfl
 | x::xs,_,h,h',e=>by
  unfold eX at e;obtain ⟨⟨p,h1⟩,e1,e⟩:=bind_some e;cases p with
  | c j=>cases e
  | d z =>
   obtain ⟨⟨q,h2⟩,e2,e⟩:=bind_some (show (eX te δ i xs h1).bind _=_ from e);cases e;simp [aH1 e2]
section
variable {S:Sx} {A:Around} {κ1:Kp} {kS a f:Addr} {e1 n0 i:Nat} {te:XR W} {δ':DSt} {vs:List Value} {xs zs:List PyData} {h h':aA} {M:Mp} {s:Shared} {P:PySem.Fin->Shared->Prop} {E:Value->Shared->Prop}
def bT1 {x y:Bool×Obj} (R:Mem S ((κ1.up a x).up a y) M h s):Mem S (κ1.up a y) M h s:=R.less fun b z q=>by
 by_cases hb:b=a
 ·subst hb;rw [eK] at q ⊢;exact q
 ·rw [bJ hb] at q;rw [bJ hb,bJ hb];exact q
def aH2 {bb:Bool} (turn:∀ (o:Obj) {M':Mp} {h1 h2:aA} {s1:Shared} {u:Value} {x:PyData} {z:W},Le M M'->Mem S (κ1.up kS (true,o)) M' h1 s1->Rep S M'.Z x u->te (δ'.set i (some (.d x))) h1=some (z,h2)->Wp S A (call (.ref f) [u]) (Pw S (κ1.up kS (true,o)) M' h2 z) NE s1)
  (R:Mem S (κ1.up kS (true,aU [] n0)) M h s) (rv:Reps' S M xs vs) (h6:xs.length < 64) (e:eX te δ' i xs h=some (zs,h'))
  (fin:∀ (M':Mp) (us:List Value) (n:Nat) (s':Shared),Le M M'->Mem S (κ1.up kS (true,aU us n)) M' h' s'->Reps' S M' zs us->Wp S A (ksk_end a bb vs.toArray e1 (.ref kS) us.toArray) P E s') :
  Wp S A (ksk_rest a (.ref f) bb vs.toArray e1 (.ref kS)) P E s:=by
 have vl:=rv.length;have zl:sizeLine=16777216:=sizeLine_eq;unfold ksk_rest;refine wpAny_bind (wpAny_rule ?_)
 first
  | rw [List.forIn_toArray]
  | (rw [<- Array.forIn_toList];simp only [List.toList_toArray])
  | rw [<- Array.forIn_toList]
 refine wpAny_bind (ksk_fold (fun j s'=>∃ hj M' us n zp zr,Le M M'/\Mem S (κ1.up kS (true,aU us n)) M' hj s'/\Reps' S M' zp us/\eX te δ' i (xs.drop j) hj=some (zr,h')/\zp++zr=zs/\zp.length=j) vs 0 s
  ⟨h,M,[],n0,[],zs,.refl,R,.nil,e,rfl,rfl⟩ ?step ?done)
 case step =>
  rintro j v s' hv ⟨hj,M',us,n,zp,zr,l,R',rp,ez,eq,hlen⟩;simp only [Nat.zero_add] at ez hlen ⊢;have hjl:j < xs.length:=by rw [vl];exact (List.getElem?_eq_some_iff.mp hv).1
  obtain ⟨v',ev',rx⟩:=jR rv (List.getElem?_eq_getElem hjl);rw [hv] at ev';cases ev';rw [List.drop_eq_getElem_cons hjl] at ez;unfold eX at ez;obtain ⟨⟨p,h1⟩,ep,ez⟩:=bind_some ez;cases p with
  | c j=>cases ez
  | d z =>
   obtain ⟨⟨zr',h2⟩,ezr,ez⟩:=bind_some (show (eX te δ' i (xs.drop (j+1)) h1).bind _=_ from ez);cases ez;refine wpAny_bind (wpAny_attempt (wpAny_mono (turn _ l R' (Rep.go l.z rx) ep) (fun k s'' he=>?_) fun _ _ hF=>hF.elim));obtain ⟨M2,l2,R2,rz⟩:=he;try dsimp only
   have nk:=(R2.k kS true _ eK).1 rfl;have hul:=rp.length;have s1:=Heap.SameBut.update s''.heap kS (Obj.mapSeq (·.push k));obtain ⟨c2,hc2⟩:∃ c2,(s''.heap.update kS (Obj.mapSeq (·.push k))).get? kS=some (seqObj "list" (us.toArray.push k) c2):=⟨_,get?_update_seq nk (·.push k)⟩;refine wpAny_bind (listUpdate_at nk rfl ?_ (by rw [List.size_toArray,zl];omega) (by rw [Array.size_push,List.size_toArray,zl];omega));refine wpAny_pure ⟨rfl,h1,M2,us++[k],c2,zp++[z],zr',l.trans l2,bT1 (R2.own (b:=true) (s':={ s'' with heap:=s''.heap.update kS (Obj.mapSeq (·.push k)) }) eK (fun b o hb q=>(s1.2 b hb).trans q) (show _=some (aU (us++[k]) c2) by rw [hc2];simp [seqObj]) R2.bare rfl),uB (Reps'.go l2 rp) (.cons rz .nil),ezr,by rw [<- eq];simp,by simp [hlen]⟩
 case done =>
  rintro s' ⟨hj,M',us,n,zp,zr,l,R',rp,ez,eq,hlen⟩;rw [Nat.zero_add,List.drop_of_length_le (by omega)] at ez;cases ez;rw [List.append_nil] at eq;subst eq;refine wpAny_bind (listItems_at ((R'.k kS true _ eK).1 rfl) rfl ?_);exact fin M' us n s' l R' rp
end
end DL

namespace ST
open PySem PySem.Spec PyProof.Rows
section
variable {prog:Program} {w:World} {A:Around} {E:Value->Shared->Prop} {s:Shared} {ks:List Int}
def oR {x:Value} {Q:Value->Shared->Prop} {n:Nat} (h64:n < 64)
  (hc:∀ R,(∀ (vs:List Value) (ns:List Int) h' dr tk,IntsAre vs ns->vs.length=n->ns.Perm ks->(∀ b o,s.heap.get? b=some o->h'.get? b=some o)->R vs { s with heap:=h',drawn:=dr,toks:=tk })->wpAny (model prog w) A.in1 (collect x) R E s)
  (h:∀ (a:Addr) (vs:List Value) (ns:List Int) (c:Nat) h' dr tk,IntsAre vs ns->ns.Perm ks->ns.Pairwise (·<=·)->s.heap.get? a=none->h'.get? a=some (seqObj "list" vs.toArray c)->(∀ b o,s.heap.get? b=some o->h'.get? b=some o)->Q (.ref a) { s with heap:=h',drawn:=dr,toks:=tk }) :
  wpAny (model prog w) A (call (.builtin "sorted") [x]) Q E s:=by
 refine Calls.call_function_entry kind_sorted plain_sorted entry_sorted (args_sorted1 _) ?_;unfold Builtin.«sorted»;refine wpAny_bind (m:=checkCount "sorted" 1 1 _) (wpAny_pure (wpAny_bind (hc _ fun vs ns h1 dr tk hi hl hp k1=>?_)));refine wpAny_bind (wpAny_newList ?_ (by rw [hl,sizeLine_eq];omega));have hoL:(h1.push (seqObj "list" vs.toArray 0)).get? h1.objs.size=some (seqObj "list" vs.toArray 0):=Heap.get?_push_size _ rfl;refine wpAny_bind (wpAny_holding (wpAny_call_entry slot_list_sort ⟨_,hoL,rfl⟩ entry_list_sort (list_sort_tree hoL hi (by omega) fun out ns' a1 a2 a3=>⟨_,rfl,?_⟩) (args_list_sort _)));obtain ⟨c,ec⟩:=sortedHeap_at (out:=out) hoL;refine wpAny_pure ⟨_,rfl,h h1.objs.size out.toList ns' c _ dr tk a1 (a2.trans hp) a3 (by cases q:s.heap.get? h1.objs.size with | none=>rfl | some o=>exact absurd (Heap.lt_size (k1 _ o q)) (Nat.lt_irrefl _)) (by rw [Array.toArray_toList];exact ec) fun b o e=>?_⟩;have bl:b < h1.objs.size:=Heap.lt_size (k1 b o e);rw [sortedHeap_old (Nat.ne_of_lt bl) (by rw [size_push'];exact Nat.lt_succ_of_lt bl)];exact Heap.get?_push_of_some _ (k1 b o e)
end
def aH3 (ns:List Int):(srt ns).Perm ns:=List.mergeSort_perm _ _
def bG5 (ns:List Int):(srt ns).Pairwise (·<=·):=by
 have h:=List.pairwise_mergeSort (le:=fun a b:Int=>decide (a<=b)) (fun a b c h1 h2=>by simp at *;omega) (fun a b=>by simp;omega) ns;exact h.imp fun h=>by simpa using h
def sH {a ns:List Int} (p:a.Perm ns) (o:a.Pairwise (·<=·)):a=srt ns:=(p.trans (aH3 ns).symm).eq_of_pairwise (fun a b _ _ h1 h2=>Int.le_antisymm h1 h2) o (bG5 ns)
end ST
namespace DL
open PySem PySem.Spec PyProof.Rows L2 CI ST
theorem fN {S:Sx} {Z:Zm}:∀ {xs:List PyData} {ns:List Int} {us:List Value},cA xs=some ns->Paired (Rep S Z) xs us->IntsAre us ns
 | [],_,_,e,r=>by cases e;cases r;exact .nil
 | x::xs,_,_,e,r=>by
  cases r with
  | cons a b =>
   cases x<;>first | cases e;done | skip
   obtain ⟨ns,e1,rfl⟩:=map_some (show (cA xs).map _=_ from e);obtain ⟨t,rfl⟩:=rep_i.mp a;exact .cons _ _ (fN e1 b)
theorem kB {S:Sx} {Z:Zm}:∀ {ns:List Int} {vs:List Value},IntsAre vs ns->Paired (Rep S Z) (ns.map .int) vs
 | _,_,.nil=>.nil
 | _,_,.cons n t h=>.cons (rep_i.mpr ⟨t,rfl⟩) (kB h)
def Mem.dr {S:Sx} {κ:Kp} {M:Mp} {h:aA} {s:Shared} (R:Mem S κ M h s) (h':Heap) (d:Drawn) (t:Nat) (k:∀ b o,s.heap.get? b=some o->h'.get? b=some o):Mem S κ M h { s with heap:=h',drawn:=d,toks:=t }:=R.keep (fun b o e _=>k b o e) R.bare rfl
end DL

namespace ST
open PySem PySem.Spec PyProof.Rows PySem.W
section
variable {prog:Program} {w:World} {A:Around} {E:Value->Shared->Prop} {s:Shared}
def kR (h:Heap) (k:Int) (u:Value):Prop:=∃ (i j:Int) (t t':Tok) (A:Addr) (o:Obj) (n:Nat),u=.ref A/\h.get? A=some o/\o.cls=.type "tuple"/\o.data=.seq #[.int i t,.int j t'] n/\k=i*1000+j/\0<=j/\j < 1000
def bT2 {x y:Int} {u v:Value} {C:Bool->Shared->Prop} (hx:kR s.heap x u) (hy:kR s.heap y v) (h:C (decide (x < y)) s):wpAny (model prog w) A (keyLt' (tuples' true) u v) C E s:=by
 obtain ⟨i,j,t,t1,X,o,n,rfl,h1,h2,h3,rfl,i1,i2⟩:=hx;obtain ⟨i',j',t',t1',X',o',n',rfl,g1,g2,g3,rfl,j1,j2⟩:=hy;refine kat_lt h1 h3 g1 g3 ?_;show KatLex prog w A true false C [(.int i t,.int i' t'),(.int j t1,.int j' t1')] 0 s;refine kat_cons (wpAny_eqBool_int ?_)
 by_cases hi:i=i'
 ·subst hi;rw [beq_self_eq_true];refine kat_yes (kat_cons (wpAny_eqBool_int ?_))
  by_cases hj:j=j'
  ·subst hj;rw [beq_self_eq_true];refine kat_yes (kat_nil ?_);rw [decide_eq_false (Int.lt_irrefl _)] at h;exact h
  ·rw [beq_eq_false_iff_ne.mpr hj];refine kat_no (kat_one _ _ (lt_int ?_));have e:decide (i*1000+j < i*1000+j')=decide (j < j'):=by rw [decide_eq_decide];omega
   rw [e] at h;exact h
 ·rw [beq_eq_false_iff_ne.mpr hi];refine kat_no (oneLt_int ?_);have e:decide (i*1000+j < i'*1000+j')=decide (i < i'):=by rw [decide_eq_decide];omega
  rw [e] at h;exact h
theorem xF {h:Heap}:∀ {ks:List Int} {us:List Value},Paired (kR h) ks us->∃ fs,KatTups h us fs/\fs.length=us.length/\∀ v∈fs,∃ k t,v=.int k t
 | _,_,.nil=>⟨[],.nil,rfl,fun v hv=>nomatch hv⟩
 | _,_,.cons k r=>by
  obtain ⟨i,j,t,t',X,o,n,rfl,h1,h2,h3,_⟩:=k;obtain ⟨fs,q,l,e⟩:=xF r;refine ⟨.int i t::fs,.cons h1 h2 h3 rfl q,by simp [l],fun v hv=>?_⟩;rcases List.mem_cons.mp hv with rfl | hv
  ·exact ⟨_,_,rfl⟩
  ·exact e v hv
def aZ1 {h h':Heap} {a:Addr} {x:Obj} (hx:h.get? a=some x) (hc:x.cls≠.type "tuple") (k:∀ b o,b≠a->h.get? b=some o->h'.get? b=some o) {ks:List Int} {us:List Value} (p:Paired (kR h) ks us):Paired (kR h') ks us:=by
 induction p with
 | nil=>exact .nil
 | cons q _ ih =>
  obtain ⟨i,j,t,t',X,o,n,rfl,h1,h2,h3,r⟩:=q;refine .cons ⟨i,j,t,t',X,o,n,rfl,k X o (fun z=>?_) h1,h2,h3,r⟩ ih;subst z;rw [hx] at h1;cases h1;exact hc h2
def uY (a:Addr) (n1:Nat) (st:SortSt):Sem PySem.Fin:=do
    let __do_lift <- seqEpoch a
    have touched:Bool:=__do_lift != n1
    Builtin.List.listUpdate (Value.ref a) fun x=>Array.map (fun x=>x.snd) (arrOf st)
    have __do_jp:Unit->Sem PySem.Fin:=fun __r =>
     have __do_jp:=fun __r=>ret Value.none;
     if touched=true then do
      rule "list.sort.modified"
      let __r <- raiseErrorWords "ValueError" "list modified during sort"
      __do_jp __r
     else __do_jp ()
    match failedOf st with
     | some e=>do
      rule "list.sort.comparison-raised"
      let __r <- throw e
      __do_jp __r
     | x=>__do_jp ()
def aH4 {a:Addr} {us:List Value} {ks:List Int} {n:Nat} {P:PySem.Fin->Shared->Prop} (hl:s.heap.get? a=some (seqObj "list" us.toArray n)) (K:Paired (kR s.heap) ks us) (nd:ks.Nodup) (h64:us.length < 64)
  (h:∀ ps:List (Int×Value),ps.Perm (ks.zip us)->ps.Pairwise (fun p q=>p.1<=q.1)->P (.done (.ret .none)) { s with heap:=sortedHeap s.heap a us (ps.map (·.2)).toArray }) :
  wpAny (model prog w) A (Builtin.«list.sort» { pos:=[.ref a] }) P E s:=by
 have hal:a < s.heap.objs.size:=Heap.lt_size hl;have kl:ks.length=us.length:=K.length;have zl:sizeLine=16777216:=sizeLine_eq;rw [list_sort_plain];refine wpAny_bind (listItems_at hl rfl ?_);refine wpAny_bind (listUpdate_at hl rfl ?_ (by simp;omega) (by simp));obtain ⟨n1,g1⟩:∃ n1,(s.heap.update a (Obj.mapSeq fun _=>#[])).get? a=some (seqObj "list" #[] n1):=⟨_,Heap.get?_update_self _ hl rfl⟩;have k1:Paired (kR (s.heap.update a (Obj.mapSeq fun _=>#[]))) ks us:=aZ1 hl (by simp [seqObj]) (fun b o nb q=>Heap.get?_update_of_ne _ (fun z=>nb z.symm) q) K;have hs1:(s.heap.update a (Obj.mapSeq fun _=>#[])).objs.size=s.heap.objs.size:=Heap.size_update _ _ _;unfold sortedHeap at h;generalize s.heap.update a (Obj.mapSeq fun _=>#[])=h1 at g1 k1 hs1 h;refine wpAny_bind (seqEpoch_at g1 rfl ?_);refine wpAny_bind (wpAny_newTuple ?_ (by simp;omega));refine wpAny_bind (wpAny_newList ?_ (by simp));have g2:((h1.push (seqObj "tuple" us.toArray 0)).push (seqObj "list" #[] 0)).get? a=some (seqObj "list" #[] n1):=Heap.get?_push_of_some _ (Heap.get?_push_of_some _ g1);have k2:Paired (kR ((h1.push (seqObj "tuple" us.toArray 0)).push (seqObj "list" #[] 0))) ks us:=aZ1 g1 (by simp [seqObj]) (fun b o _ q=>Heap.get?_push_of_some _ (Heap.get?_push_of_some _ q)) k1;simp only [List.toList_toArray] at *;show wpAny _ _ (holding _ _) _ _ { s with heap:=(h1.push (seqObj "tuple" us.toArray 0)).push (seqObj "list" #[] 0) };generalize (h1.push (seqObj "tuple" us.toArray 0)).push (seqObj "list" #[] 0)=h2 at g2 k2 h;refine wpAny_holding ?_;have fin:∀ (ps:List (Int×Value)),ps.Perm (ks.zip us)->ps.Pairwise (fun p q=>p.1<=q.1)->∀ st:SortSt,failedOf st=none->Array.map (fun x=>x.snd) (arrOf st)=(ps.map (·.2)).toArray->wpAny (model prog w) A (uY a n1 st) P E { s with heap:=h2 }:=fun ps hp hs st hf ha=>by
  have lp:=hp.length_eq;rw [List.length_zip] at lp;unfold uY;refine wpAny_bind (seqEpoch_at g2 rfl ?_);rw [ha];refine wpAny_bind (listUpdate_at g2 rfl ?_ (by simp) (by simp;omega));rw [hf];simp only [bne_self_eq_false,Bool.false_eq_true,if_false];exact wpAny_pure (h ps hp hs)
 have sz:us.toArray.size=us.length:=by simp
 by_cases h2l:us.length < 2
 ·rw [if_pos (by rw [sz];exact h2l),if_pos (by rw [sz];exact h2l)];refine wpAny_bind (wpAny_pure ?_);refine wpAny_bind (m:=StateT.run (pure ()) _) (wpAny_pure ?_);refine fin (ks.zip us) (.refl _) (pw1 (by rw [List.length_zip];omega)) _ rfl ?_;show Array.map (fun x=>x.snd) (us.toArray.zip us.toArray)=_;rw [List.map_snd_zip (by omega)];apply Array.ext
  ·simp
  ·intro i h1 h2;simp
 ·rw [if_neg (by rw [sz];exact h2l),if_neg (by rw [sz];exact h2l)];obtain ⟨fs,kt,fl,fi⟩:=xF k2;refine wpAny_bind (kat_kind (s:={ s with heap:=h2 }) (T:=.type "int") kt (by omega) (fun v hv=>?_) (by decide) ?_)
  ·obtain ⟨k,t,rfl⟩:=fi v hv;exact fun A Q E s _ q=>wpAny_pure q
  ·obtain ⟨z1,z3,z4⟩:=qL nd (by omega);rw [kl] at z1 z3 z4;refine wpAny_bind (kat_run (Q:=fun st s'=>wpAny (model prog w) A (uY a n1 st) P E s') (vs:=us) (ks:=us) (G:=fun p s'=>p=mL (ltK ks) (kas_sort us.length)/\s'={ s with heap:=h2 }) rfl (by omega) (by omega) ?_ ?_)
   ·rintro p st s' hp ha hf ⟨rfl,rfl⟩;refine fin ((mL (ltK ks) (kas_sort us.length)).toList.map fun i=>(ks.getD i 0,us.getD i Value.none)) ?_ ?_ st hf ?_
    ·refine (z3.map _).trans ?_;rw [<- kl,qM kl]
    ·rw [List.pairwise_map];refine z4.imp fun {i j} hz=>?_;unfold ltK at hz;exact Int.le_of_lt (of_decide_eq_true hz)
    ·rw [kat_snds rfl ha];simp [Function.comp_def]
   ·refine qK (s:={ s with heap:=h2 }) (lt:=ltK ks) (fun i j hi hj hij C hC=>?_) (fun _ _ _ _=>rfl) _ _ z1 ⟨rfl,rfl⟩;have hi':i < ks.length:=by rw [kl];exact hi
    have hj':j < ks.length:=by rw [kl];exact hj
    obtain ⟨u,eu,ku⟩:=mP k2 (List.getElem?_eq_getElem hi');obtain ⟨v,ev,kv⟩:=mP k2 (List.getElem?_eq_getElem hj');unfold kas_ask;have e1:us.getD i .none=u:=by rw [List.getD_eq_getElem?_getD,eu];rfl
    have e2:us.getD j .none=v:=by rw [List.getD_eq_getElem?_getD,ev];rfl
    rw [e1,e2];refine bT2 (s:={ s with heap:=h2 }) ku kv ?_;have e3:ltK ks i j=decide (ks[i] < ks[j]):=by
     unfold ltK;rw [List.getD_eq_getElem?_getD,List.getD_eq_getElem?_getD,List.getElem?_eq_getElem hi',List.getElem?_eq_getElem hj'];rfl
    rw [<- e3];exact hC
def uZ {x:Value} {us:List Value} {ks:List Int} {Q:Value->Shared->Prop} (nd:ks.Nodup) (h64:us.length < 64) (K:Paired (kR s.heap) ks us)
  (hc:∀ R:List Value->Shared->Prop,(∀ h',(∀ b o,s.heap.get? b=some o->h'.get? b=some o)->R us { s with heap:=h' })->wpAny (model prog w) A.in1 (collect x) R E s)
  (h:∀ (a:Addr) (ps:List (Int×Value)) (c:Nat) h',ps.Perm (ks.zip us)->ps.Pairwise (fun p q=>p.1<=q.1)->s.heap.get? a=none->h'.get? a=some (seqObj "list" (ps.map (·.2)).toArray c)->(∀ b o,s.heap.get? b=some o->h'.get? b=some o)->Q (.ref a) { s with heap:=h' }) :
  wpAny (model prog w) A (call (.builtin "sorted") [x]) Q E s:=by
 refine Calls.call_function_entry kind_sorted plain_sorted entry_sorted (args_sorted1 _) ?_;unfold Builtin.«sorted»;refine wpAny_bind (m:=checkCount "sorted" 1 1 _) (wpAny_pure (wpAny_bind (hc _ fun h1 k1=>?_)));refine wpAny_bind (wpAny_newList ?_ (by rw [sizeLine_eq];omega));have hoL:(h1.push (seqObj "list" us.toArray 0)).get? h1.objs.size=some (seqObj "list" us.toArray 0):=Heap.get?_push_size _ rfl;have K1:Paired (kR (h1.push (seqObj "list" us.toArray 0))) ks us:=Paired.mono (fun _ _ ⟨i,j,t,t',X,o,n,e,g,r⟩=>⟨i,j,t,t',X,o,n,e,Heap.get?_push_of_some _ (k1 _ _ g),r⟩) K;refine wpAny_bind (wpAny_holding (wpAny_call_entry slot_list_sort ⟨_,hoL,rfl⟩ entry_list_sort (aH4 hoL K1 nd h64 fun ps a1 a2=>⟨_,rfl,?_⟩) (args_list_sort _)));obtain ⟨c,ec⟩:=sortedHeap_at (out:=(ps.map (·.2)).toArray) hoL;refine wpAny_pure ⟨_,rfl,h h1.objs.size ps c _ a1 a2 (by cases q:s.heap.get? h1.objs.size with | none=>rfl | some o=>exact absurd (Heap.lt_size (k1 _ o q)) (Nat.lt_irrefl _)) ec fun b o e=>?_⟩;have bl:b < h1.objs.size:=Heap.lt_size (k1 b o e);rw [sortedHeap_old (Nat.ne_of_lt bl) (by rw [size_push'];exact Nat.lt_succ_of_lt bl)];exact Heap.get?_push_of_some _ (k1 b o e)
end
end ST

namespace DL
open PySem PySem.Spec PyProof.Rows L2 CI ST
theorem prs_len:∀ {zs:List PyData} {ks:List Int},yS zs=some ks->zs.length=ks.length
 | [],_,e=>by cases e;rfl
 | z::zs,_,e=>by
  obtain ⟨k,e1,e⟩:=bind_some (show ((prS z).map (·.1)).bind _=_ from e);obtain ⟨ks,e2,rfl⟩:=map_some e;simp [prs_len e2]
theorem aH5 {S:Sx} {Z:Zm} {hp:Heap} (hz:∀ a o,Z a=some o->hp.get? a=some o):∀ {zs:List PyData} {ks:List Int} {us:List Value},yS zs=some ks->Paired (Rep S Z) zs us->Paired (kR hp) ks us
 | [],_,_,e,r=>by cases e;cases r;exact .nil
 | z::zs,_,_,e,r=>by
  obtain ⟨k,e1,e⟩:=bind_some (show ((prS z).map (·.1)).bind _=_ from e);obtain ⟨ks,e2,rfl⟩:=map_some e;cases r with
  | cons a b =>
   refine .cons ?_ (aH5 hz e2 b);obtain ⟨⟨k',i,j,ez,hi,ek⟩,hh,rfl⟩:=Option.map_eq_some_iff.mp (show (prS _).map (·.1)=_ from e1);clear hh e1;subst ez;show kR hp k' _;rw [ek];obtain ⟨A,o,us,rfl,zA,⟨⟨n,rfl⟩,_⟩,rr⟩:=rep_t.mp a;cases rr with
   | cons r1 rr =>
    cases rr with
    | cons r2 rr =>
     cases rr;obtain ⟨t1,rfl⟩:=rep_i.mp r1;obtain ⟨t2,rfl⟩:=rep_i.mp r2;exact ⟨i,j,t1,t2,A,_,n,rfl,hz _ _ zA,rfl,rfl,rfl,hi.1,hi.2⟩
def bG6 {ks:List Int} (nd:ks.Nodup):(ks.map fun k=>-k).Nodup:=List.Pairwise.map _ (fun a b h z=>h (by omega)) nd
def aH6 {β:Type} {F:PyData->β->Prop} {ks:List Int} {xs:List PyData} {vs:List β} {ps:List (Int×β)} (nd:ks.Nodup) (hl:ks.length=xs.length) (r:Paired F xs vs) (hp:ps.Perm (ks.zip vs)) (ho:ps.Pairwise fun p q=>p.1<=q.1):Paired F (rR ks xs) (ps.map (·.2)):=by
 have nd':=bG6 nd;have vl:=r.length;have e:ps.map (fun p=>(-p.1,p.2))=dsc ((ks.map fun k=>-k).zip vs):=jK (by rw [lC (by simp;omega)];exact nd') ((hp.map _).trans (.of_eq (by rw [List.zip_map_left];rfl))) (by
  rw [List.pairwise_map];exact ho.imp fun h=>by simpa using h)
 have q:=xD nd' (by simpa using hl) r;rw [<- e,List.map_map] at q;exact q
section
variable {X:Cx} {st:Sta} {d:Nat} {v:Evs} {a:Expr} {es:List Expr} {p pos:Pos}
def bT3 (S:Snd v) (G:Good X st d) (hx:(cC st "sorted"&&(slot st "sorted").isNone&&st.bl.contains "sorted")=true):SF X (.Call (.Name "sorted" p) (a::es) [] pos) (xb (aQ v st (a::es)) fun ws=>fun _ h=>pR ws h):=by
 intro κ M δ h s w h' R F e;obtain ⟨ws,h1,e1,e⟩:=aF e;refine jZ (f:=.builtin "sorted") S G hx (by decide +kernel) (.inl ⟨_,rfl⟩) R F e1 fun {M1 us s1} l1 R1 r1=>?_;have fin:∀ {ns:List Int} {u:Value} {vs:List Value},IntsAre vs ns->ns.length < 64->(∀ Rr:List Value->Shared->Prop,(∀ h2,(∀ b o,s1.heap.get? b=some o->h2.get? b=some o)->Rr vs { s1 with heap:=h2 })->Wp X.S X.A.in1 (collect u) Rr NE s1)->Wp X.S X.A (call (.builtin "sorted") [u]) (Pf X.S κ M h1 ((srt ns).map .int)) NE s1:=fun {ns u vs} hi hl hc=>by
  refine oR (ks:=ns) (n:=vs.length) (by rw [hi.length];exact hl) (fun Rr hR=>hc Rr fun h2 k=>hR vs ns h2 s1.drawn s1.toks hi rfl (List.Perm.refl _) k) fun b vs' ns' c h2 dr tk hi' hp ho hz hb k=>?_;have e2:=sH hp ho;subst e2;have hlen:=hi'.length;have hpl:=hp.length_eq;exact ⟨M1,l1,R1.dr h2 dr tk k,b,vs',c,rfl,hb,R1.new hz,by rw [hlen,hpl,sizeLine_eq];omega,kB hi'⟩
 have all:∀ {xs zs:List PyData} {u:Value} {vs:List Value},yT xs=some zs->Paired (Rep X.S M1.Z) xs vs->(∀ Rr:List Value->Shared->Prop,(∀ h2,(∀ b o,s1.heap.get? b=some o->h2.get? b=some o)->Rr vs { s1 with heap:=h2 })->Wp X.S X.A.in1 (collect u) Rr NE s1)->Wp X.S X.A (call (.builtin "sorted") [u]) (Pf X.S κ M h1 zs) NE s1:=fun {xs zs u vs} e rr hc=>by
  unfold yT at e;cases en:cA xs with
  | some ns =>
   rw [en] at e;obtain ⟨hl,e⟩:=aE e;cases e;exact fin (fN en rr) hl hc
  | none =>
   rw [en] at e;obtain ⟨ks,ek,e⟩:=bind_some e;obtain ⟨⟨nd,hl⟩,e⟩:=aE e;cases e;have vl:=rr.length;have kl:=prs_len ek;refine uZ (us:=vs) nd (by omega) (aH5 R1.z ek rr) hc fun b ps c h2 hp ho hz hb k=>?_;have pl:=hp.length_eq;rw [List.length_zip] at pl;exact ⟨M1,l1,R1.dr h2 s1.drawn s1.toks k,b,ps.map (·.2),c,rfl,hb,R1.new hz,by rw [List.length_map,sizeLine_eq];omega,aH6 nd (by omega) rr hp ho⟩
 unfold pR at e;split at e
 ·obtain ⟨u,rfl,ru⟩:=w1 r1;split at e
  ·rename_i xs ex;obtain ⟨zs,ez,e⟩:=map_some e;cases e;obtain ⟨b,vs,n,rfl,ho,hz,rr⟩:=cH R1 ru ex;exact all ez rr fun Rr hR=>wpAny_collect_seq b (.inl rfl) ho rfl rfl (fun h2 k=>hR h2 k) (by simpa using hz)
  ·rename_i xs ex;obtain ⟨zs,ez,e⟩:=map_some e;cases e;obtain ⟨b,vs,n,rfl,z,hz,rr⟩:=dY R1 ru ex;exact all ez rr fun Rr hR=>wpAny_collect_seq b (.inr rfl) (R1.z _ _ z) rfl rfl (fun h2 k=>hR h2 k) (by simpa using hz)
  ·cases e
 ·cases e
end
end DL

namespace ST
open PySem PySem.Spec PyProof.Rows PySem.W
section
variable {prog:Program} {w:World} {A:Around} {E:Value->Shared->Prop} {s:Shared}
theorem oS:∀ {us:List Value} {ks:List Int},IntsAre us ks->Paired (fun k u=>∃ t,u=Value.int k t) ks us
 | _,_,.nil=>.nil
 | _,_,.cons n t h=>.cons ⟨t,rfl⟩ (oS h)
def aH7 {a kS:Addr} {us vs:List Value} {ks:List Int} {e e1:Nat} {P:PySem.Fin->Shared->Prop} (hk:s.heap.get? kS=some (seqObj "list" us.toArray e)) (ha:s.heap.get? a=some (seqObj "list" #[] e1)) (hka:kS≠a) (K:IntsAre us ks) (nd:ks.Nodup) (hl:us.length=vs.length) (h6:vs.length < 64)
  (h:∀ (ps:List (Int×Value)) c h',ps.Perm (ks.zip vs)->ps.Pairwise (fun p q=>p.1<=q.1)->h'.get? a=some (seqObj "list" (ps.map (·.2)).toArray c)->(∀ b o,b≠a->b≠kS->s.heap.get? b=some o->h'.get? b=some o)->P (.done (.ret .none)) { s with heap:=h' }) :
  wpAny (model prog w) A (ksk_end a false vs.toArray e1 (.ref kS) us.toArray) P E s:=by
 have K2:=oS K;have kl:ks.length=us.length:=K2.length;have zl:sizeLine=16777216:=sizeLine_eq;have tail:∀ (st:SortSt) (ps:List (Int×Value)),ps.Perm (ks.zip vs)->ps.Pairwise (fun p q=>p.1<=q.1)->failedOf st=none->(arrOf st).map (·.2)=(ps.map (·.2)).toArray->wpAny (model prog w) A (ksk_tail a false e1 (.ref kS) st) P E s:=fun st ps hp ho hf he=>by
  have s1:=Heap.SameBut.update s.heap kS (Obj.mapSeq fun _=>(#[]:Array Value));have na1:(s.heap.update kS (Obj.mapSeq fun _=>(#[]:Array Value))).get? a=some (seqObj "list" #[] e1):=(s1.2 a hka.symm).trans ha;have s2:=Heap.SameBut.update (s.heap.update kS (Obj.mapSeq fun _=>(#[]:Array Value))) a (Obj.mapSeq fun _=>(ps.map (·.2)).toArray);obtain ⟨c2,hc2⟩:∃ c2,((s.heap.update kS (Obj.mapSeq fun _=>(#[]:Array Value))).update a (Obj.mapSeq fun _=>(ps.map (·.2)).toArray)).get? a=some (seqObj "list" (ps.map (·.2)).toArray c2):=⟨_,get?_update_seq na1 fun _=>(ps.map (·.2)).toArray⟩;have pl:ps.length=vs.length:=by rw [hp.length_eq,List.length_zip];omega
  unfold ksk_tail;try dsimp only
  refine wpAny_bind (listUpdate_at hk rfl ?_ (by rw [List.size_toArray,zl];omega) (Nat.zero_le _));refine wpAny_bind (wpAny_letGo ?_);refine wpAny_bind (seqEpoch_at na1 rfl ?_);simp only [Bool.false_eq_true,if_false];rw [he];refine wpAny_bind (listUpdate_at na1 rfl ?_ (Nat.zero_le _) (by rw [List.size_toArray,List.length_map,zl];omega));rw [hf];simp only [bne_self_eq_false,Bool.false_eq_true,if_false];exact wpAny_pure (h ps c2 _ hp ho hc2 fun b o n1 n2 q=>(s2.2 b n1).trans ((s1.2 b n2).trans q))
 have ez:us.toArray.zip vs.toArray=(us.zip vs).toArray:=by simp
 unfold ksk_end;try dsimp only
 simp only [Bool.false_eq_true,if_false]
 by_cases h2:vs.toArray.size < 2
 ·rw [if_pos h2,if_pos h2];rw [List.size_toArray] at h2;refine wpAny_bind (wpAny_pure ?_);rw [StateT.run_pure];refine wpAny_bind (wpAny_pure ?_);refine tail _ (ks.zip vs) (.refl _) (pw1 (by rw [List.length_zip];omega)) rfl ?_;show (us.toArray.zip vs.toArray).map (·.2)=_;rw [ez,List.map_snd_zip (by omega)];simp [List.map_snd_zip (l₁:=us) (l₂:=vs) (by omega)]
 ·rw [if_neg h2,if_neg h2];rw [List.size_toArray] at h2;rw [ksk_kind (kz:=ks) (by simpa using K) (by simp;omega)];refine wpAny_bind (wpAny_pure ?_);obtain ⟨h1,h3,h4⟩:=qL nd (by omega);rw [kl,hl] at h1 h3 h4;refine wpAny_bind (kat_run (κ:=oneType') (Q:=fun st s'=>wpAny (model prog w) A (ksk_tail a false e1 (.ref kS) st) P E s') (vs:=vs) (ks:=us) (G:=fun p s'=>p=mL (ltK ks) (kas_sort vs.length)/\s'=s) hl (by omega) (by omega) ?_ ?_)
  ·rintro p st s' hp har hf ⟨rfl,rfl⟩;refine tail st ((mL (ltK ks) (kas_sort vs.length)).toList.map fun i=>(ks.getD i 0,vs.getD i Value.none)) ?_ ?_ hf ?_
   ·refine (h3.map _).trans ?_;rw [<- hl,<- kl,qM (by omega)]
   ·rw [List.pairwise_map];refine h4.imp fun {i j} hz=>?_;unfold ltK at hz;exact Int.le_of_lt (of_decide_eq_true hz)
   ·rw [kat_snds hl har];simp [Function.comp_def]
  ·refine qK (lt:=ltK ks) (fun i j hi hj hij C hC=>?_) (fun _ _ _ _=>rfl) _ _ h1 ⟨rfl,rfl⟩;have hi':i < ks.length:=by omega
   have hj':j < ks.length:=by omega
   obtain ⟨u,eu,t,rfl⟩:=mP K2 (List.getElem?_eq_getElem hi');obtain ⟨v,ev,t',rfl⟩:=mP K2 (List.getElem?_eq_getElem hj');unfold kas_ask;have e1:us.getD i .none=.int ks[i] t:=by rw [List.getD_eq_getElem?_getD,eu];rfl
   have e2:us.getD j .none=.int ks[j] t':=by rw [List.getD_eq_getElem?_getD,ev];rfl
   rw [e1,e2];refine kat_lt_int ?_;have e3:ltK ks i j=decide (ks[i] < ks[j]):=by
    unfold ltK;rw [List.getD_eq_getElem?_getD,List.getD_eq_getElem?_getD,List.getElem?_eq_getElem hi',List.getElem?_eq_getElem hj'];rfl
   rw [<- e3];exact hC
end
end ST

namespace DL
open PySem PySem.Spec PyProof.Rows L2 CI ST
section
variable {X:Cx} {st:Sta} {d:Nat} {v:Evs} {κ:Kp} {M:Mp} {δ δ':DSt} {h h':aA} {s:Shared} {te:XR W} {i:Nat} {f l:Addr} {vs:List Value} {xs zs:List PyData} {ks:List Int}
noncomputable def bG7 (b:Bool):List (Str×Value):=if b=true then [(Str.ofString "reverse",.bool true)] else []
def aS1 {b:Bool} {zs xs rs:List PyData} (e:byK b zs xs=some rs):xs.length < 64:=by
 unfold byK at e;split at e
 ·obtain ⟨ks,_,e⟩:=bind_some e;exact (aE e).1.2
 ·obtain ⟨ks,_,e⟩:=bind_some e;exact (aE e).1.2
def bG8 {A:Around} {b:Bool} {zs rs:List PyData} {h1:aA} {Z:Zm} {a kS:Addr} {us:List Value} {e e1:Nat} {P:PySem.Fin->Shared->Prop} (ek:byK b zs xs=some rs) (ez:eX te δ' i xs h=some (zs,h1)) (hz:∀ a o,Z a=some o->s.heap.get? a=some o) (rz:Paired (Rep X.S Z) zs us) (hk:s.heap.get? kS=some (seqObj "list" us.toArray e)) (ha:s.heap.get? a=some (seqObj "list" #[] e1)) (hka:kS≠a) (vl:xs.length=vs.length)
  (fin:∀ (rv:List Value) c h',rv.length=vs.length->(∀ Z':Zm,Paired (Rep X.S Z') xs vs->Paired (Rep X.S Z') rs rv)->h'.get? a=some (seqObj "list" rv.toArray c)->(∀ b o,b≠a->b≠kS->s.heap.get? b=some o->h'.get? b=some o)->P (.done (.ret .none)) { s with heap:=h' }) :
  Wp X.S A (ksk_end a b vs.toArray e1 (.ref kS) us.toArray) P NE s:=by
 have zl:=aH1 ez;have ul:=rz.length;unfold byK at ek;cases b with
 | true =>
  rw [if_pos rfl] at ek;obtain ⟨ks,ek1,e⟩:=bind_some ek;obtain ⟨⟨nd,h6⟩,e⟩:=aE e;cases e;have kl:ks.length=xs.length:=by rw [<- sG ek1,zl]
  refine aS0 (ks:=ks) hk ha hka (xE hz ek1 rz) nd (by omega) (by omega) fun ps c h2 hp ho hc hk=>fin (ps.map (·.2)) c h2 (by rw [List.length_map,hp.length_eq,List.length_zip];omega) (fun Z' r=>?_) hc hk;have e2:ps=dsc (ks.zip vs):=jK (by rw [lC (by omega)];exact nd) hp ho;rw [e2];exact xD nd kl r
 | false =>
  rw [if_neg (by decide)] at ek;obtain ⟨ks,ek1,e⟩:=bind_some ek;obtain ⟨⟨nd,h6⟩,e⟩:=aE e;cases e;have ia:=fN ek1 rz;have kl:ks.length=xs.length:=by rw [<- ia.length,<- ul,zl]
  exact aH7 (ks:=ks) hk ha hka ia nd (by omega) (by omega) fun ps c h2 hp ho hc hk=>fin (ps.map (·.2)) c h2 (by rw [List.length_map,hp.length_eq,List.length_zip];omega) (fun Z' r=>aH6 nd kl r hp ho) hc hk
def aH8 {n:Nat} {oF:Obj} (R:Mem X.S κ M h s) (ff:bA κ M f) (hf:s.heap.get? f=some oF) (hl:s.heap.get? l=some (aU vs n)) (rv:Reps' X.S M xs vs) {b:Bool} {rs:List PyData} (e:eX te δ' i xs h=some (zs,h')) (ek:byK b zs xs=some rs)
  (turn:∀ {κ':Kp} {M':Mp} {h1 h2:aA} {s1:Shared} {u:Value} {x:PyData} {z:W},(∀ a,κ a≠none->κ' a=κ a)->Le M M'->κ' f=some (true,oF)->Mem X.S κ' M' h1 s1->Rep X.S M'.Z x u->te (δ'.set i (some (.d x))) h1=some (z,h2)->Wp X.S X.A.in1.in1 (call (.ref f) [u]) (Pw X.S κ' M' h2 z) NE s1) :
  Wp X.S X.A (call (.builtin "sorted") [.ref l] ((Str.ofString "key",.ref f)::bG7 b)) (Pf X.S κ M h' rs) NE s:=by
 have vl:=rv.length;have zl:sizeLine=16777216:=sizeLine_eq;have h6:=aS1 ek;refine call_function_entry_kw kind_sorted plain_sorted entry_sorted (by cases b;exact ksk_s1 _ _;exact ksk_s2 _ _ _) ?_;unfold Builtin.«sorted»;refine wpAny_bind (m:=checkCount "sorted" 1 1 _) (wpAny_pure ?_);refine wpAny_bind (collect_list (bK hl).isList ?_ (by rw [zl];omega));refine wpAny_bind (wpAny_newList ?_ (by rw [zl];omega));have hsz:((s.heap.push (seqObj "list" #[] 0)).update s.heap.objs.size (Obj.mapSeq (·++vs.toArray))).objs.size=s.heap.objs.size+1:=by
  rw [Heap.size_update,size_push']
 have hoL:(((s.heap.push (seqObj "list" #[] 0)).update s.heap.objs.size (Obj.mapSeq (·++vs.toArray))).push (seqObj "list" vs.toArray 0)).get? (s.heap.objs.size+1)=some (seqObj "list" vs.toArray 0):=by
  rw [<- hsz];exact Heap.get?_push_size _ rfl
 have keep:∀ b o,s.heap.get? b=some o->(((s.heap.push (seqObj "list" #[] 0)).update s.heap.objs.size (Obj.mapSeq (·++vs.toArray))).push (seqObj "list" vs.toArray 0)).get? b=some o:=fun b o q=>by
  have hlt:b < s.heap.objs.size:=Heap.lt_size q;rw [Heap.get?_push_ne _ _ _ (by rw [hsz];exact Nat.ne_of_lt (Nat.lt_succ_of_lt hlt)),Heap.get?_update_ne _ _ _ _ (Nat.ne_of_lt hlt),Heap.get?_push_ne _ _ _ (Nat.ne_of_lt hlt)];exact q
 have hs1:(((s.heap.push (seqObj "list" #[] 0)).update s.heap.objs.size (Obj.mapSeq (·++vs.toArray))).push (seqObj "list" vs.toArray 0)).objs.size=s.heap.objs.size+2:=by rw [size_push',hsz]
 show wpAny _ _ _ _ _ { s with heap:=((s.heap.push (seqObj "list" #[] 0)).update s.heap.objs.size (Obj.mapSeq (·++vs.toArray))).push (seqObj "list" vs.toArray 0) };rw [hsz];generalize (((s.heap.push (seqObj "list" #[] 0)).update s.heap.objs.size (Obj.mapSeq (·++vs.toArray))).push (seqObj "list" vs.toArray 0))=H1 at hoL keep hs1;refine wpAny_bind (wpAny_holding (wpAny_call_entry_kw slot_list_sort ⟨_,hoL,rfl⟩ entry_list_sort ?body (by cases b;exact ksk_l1 _ _;exact ksk_l2 _ _ _)))
 case body =>
  show wpAny (model X.S.P X.S.w) X.A.in1.in1 (Builtin.«list.sort» ⟨[.ref (s.heap.objs.size+1)],(Str.ofString "key",.ref f)::bG7 b⟩) _ _ _;rw [show Builtin.«list.sort» ⟨[.ref (s.heap.objs.size+1)],(Str.ofString "key",.ref f)::bG7 b⟩=ksk_tree (s.heap.objs.size+1) (.ref f) b by cases b;exact ksk_t1 _ _;exact ksk_t2 _ _ _];have fa:bA κ M (s.heap.objs.size+1):=R.new (Heap.get?_none_of_le (Nat.le_succ _));have fk:bA κ M (s.heap.objs.size+3):=R.new (Heap.get?_none_of_le (by omega));have la:∀ {b o},s.heap.get? b=some o->b < s.heap.objs.size:=fun q=>Heap.lt_size q;have nfa:f≠s.heap.objs.size+1:=Nat.ne_of_lt (Nat.lt_succ_of_lt (la hf));have nfk:f≠s.heap.objs.size+3:=Nat.ne_of_lt (Nat.lt_add_right 3 (la hf));have nak:s.heap.objs.size+3≠s.heap.objs.size+1:=by simp
  generalize ea:s.heap.objs.size+1=a at hoL fa nfa nak;have al:∀ {b o},s.heap.get? b=some o->b≠a:=fun q=>by rw [<- ea];exact Nat.ne_of_lt (Nat.lt_succ_of_lt (la q))
  obtain ⟨e1,ho1⟩:∃ e1,(H1.update a (Obj.mapSeq fun _=>(#[]:Array Value))).get? a=some (seqObj "list" #[] e1):=⟨_,get?_update_seq hoL fun _=>#[]⟩;have s1:=Heap.SameBut.update H1 a (Obj.mapSeq fun _=>(#[]:Array Value));have hs2:(H1.update a (Obj.mapSeq fun _=>(#[]:Array Value))).objs.size=s.heap.objs.size+2:=by rw [Heap.size_update,hs1]
  unfold ksk_tree;refine wpAny_bind (listItems_at hoL rfl ?_);refine wpAny_bind (listUpdate_at hoL rfl ?_ (by rw [List.size_toArray,zl];omega) (Nat.zero_le _));refine wpAny_bind (seqEpoch_at ho1 rfl ?_);refine wpAny_bind (wpAny_newTuple ?_ (by show vs.length<=_;rw [zl];omega));refine wpAny_bind (wpAny_newList ?_ (Nat.zero_le _));refine wpAny_holding ?_;have kz:((H1.update a (Obj.mapSeq fun _=>(#[]:Array Value))).push (seqObj "tuple" vs.toArray 0)).objs.size=s.heap.objs.size+3:=by rw [size_push',hs2]
  have hk0:(((H1.update a (Obj.mapSeq fun _=>(#[]:Array Value))).push (seqObj "tuple" vs.toArray 0)).push (seqObj "list" #[] 0)).get? (s.heap.objs.size+3)=some (aU [] 0):=by rw [<- kz];exact Heap.get?_push_size _ rfl
  have ha0:(((H1.update a (Obj.mapSeq fun _=>(#[]:Array Value))).push (seqObj "tuple" vs.toArray 0)).push (seqObj "list" #[] 0)).get? a=some (aU [] e1):=Heap.get?_push_of_some _ (Heap.get?_push_of_some _ ho1);have keep2:∀ b o,s.heap.get? b=some o->(((H1.update a (Obj.mapSeq fun _=>(#[]:Array Value))).push (seqObj "tuple" vs.toArray 0)).push (seqObj "list" #[] 0)).get? b=some o:=fun b o q=>Heap.get?_push_of_some _ (Heap.get?_push_of_some _ ((s1.2 b (al q)).trans (keep b o q)));show wpAny _ _ (ksk_rest a (.ref f) b vs.toArray e1 (.ref ((H1.update a (Obj.mapSeq fun _=>(#[]:Array Value))).push (seqObj "tuple" vs.toArray 0)).objs.size)) _ _ { s with heap:=((H1.update a (Obj.mapSeq fun _=>(#[]:Array Value))).push (seqObj "tuple" vs.toArray 0)).push (seqObj "list" #[] 0) };rw [kz];generalize ((H1.update a (Obj.mapSeq fun _=>(#[]:Array Value))).push (seqObj "tuple" vs.toArray 0)).push (seqObj "list" #[] 0)=H2 at hk0 ha0 keep2;generalize s.heap.objs.size+3=kS at fk nfk nak hk0;have R1:Mem X.S κ M h { s with heap:=H2 }:=R.kept (t:=s.toks) keep2;have R2:=R1.more (b:=true) ⟨ff.1,ff.2.2⟩ (keep2 _ _ hf);have R3:=R2.more (b:=true) ⟨fa.1,fa.2.2⟩ ha0;have R4:=R3.more (b:=true) ⟨fk.1,fk.2.2⟩ hk0;refine aH2 (a:=a) (κ1:=(κ.up f (true,oF)).up a (true,aU [] e1)) (zs:=zs) (h':=h') (fun o {M' h1 h2 s1 u x z} l R' r' e'=>turn (fun b hb=>?_) l ?_ R' r' e') R4 rv h6 e fun M' us m s' l R' rz=>?_
  ·rw [bJ fun q=>hb (by rw [q];exact fk.2.1),bJ fun q=>hb (by rw [q];exact fa.2.1),bJ fun q=>hb (by rw [q];exact ff.2.1)]
  ·rw [bJ nfk,bJ nfa,eK]
  ·have kk:(((κ.up f (true,oF)).up a (true,aU [] e1)).up kS (true,aU us m)) a=some (true,aU [] e1):=by rw [bJ (Ne.symm nak),eK]
   have kf:∀ b x,κ b=some x->(((κ.up f (true,oF)).up a (true,aU [] e1)).up kS (true,aU us m)) b=some x:=fun b x q=>by
    rw [bJ (a:=kS) (fun q2=>by rw [q2,fk.2.1] at q;cases q),bJ (a:=a) (fun q2=>by rw [q2,fa.2.1] at q;cases q),bJ (a:=f) (fun q2=>by rw [q2,ff.2.1] at q;cases q)];exact q
   refine bG8 ek e R'.z rz ((R'.k kS true _ eK).1 rfl) ((R'.k a true _ kk).1 rfl) nak vl fun rv' c h2 hlr hr hc hk=>⟨_,rfl,wpAny_pure ⟨_,rfl,?_⟩⟩;have R5:Mem X.S κ M' h' s':=R'.less kf;have fA:bA κ M' a:=⟨(R'.k a true _ kk).2.2,fa.2.1,R'.kc kk⟩;have fK:bA κ M' kS:=⟨(R'.k kS true _ eK).2.2,fk.2.1,R'.kc eK⟩;refine ⟨M',l,R5.keep (s':={ s' with heap:=h2 }) (fun b o q nf=>hk b o (fun z=>nf (by rw [z];exact fA)) (fun z=>nf (by rw [z];exact fK)) q) R5.bare rfl,a,rv',c,rfl,hc,fA,?_,hr _ (Reps'.go l rv)⟩;omega
def aH9 {a:Arg} (fd:FuncData) (hp:fd.params=⟨[],[a],none,[],[],none,[]⟩) (h1:fd.defaults=.none) (h2:fd.kwdefaults=.none) (u:Value):bindArgs fd ⟨[u],[]⟩=pure [(a.arg,u)]:=by
 unfold bindArgs;rw [hp,h1,h2];simp [show seqItems? Value.none=pure none from rfl,List.lookup]
def aI0 {A:Around} {sc:Scope} {q:Str} {L f cc:Addr} {cl:List (Str×Addr)} {qp:Str×Pos} (G:Good X st d) (lk:LamOk X d qp):Good (cxL X X.A.in1.in1 (iU sc) sc q L f cc cl) (st.lam sc) d:=by
 refine ⟨G.bl,G.gc,G.tk,G.fn,G.fnW,G.cls,G.om,G.fo,rfl,rfl,(fun z=>nomatch z),⟨G.rm.hd,?_,?_⟩,fun q z=>nomatch z⟩
 ·have:=lk.dp;show X.A.depth+1+3*d+5 < _;omega
 ·have:=lk.un;show X.A.units+1+1+3+16*d+200 < _;omega
def bG9 {kws:List Keyword} {a:Arg} {body:Expr} {sc:Scope} {lp:Pos} {b:Bool} (e:rS kws=some ((a,body,sc,lp),b)):∃ p1 r,kws=⟨some "key",.Lambda ⟨[],[a],none,[],[],none,[]⟩ body sc lp,p1⟩::r/\((b=false/\r=[])\/(b=true/\∃ j p3 p2,r=[⟨some "reverse",.Constant (.bool true) j p3,p2⟩])):=by
 unfold rS at e;obtain ⟨y,_,ey⟩:=Option.map_eq_some_iff.mp e;have h:=y.2;rw [ey] at h;exact h
def bT4 (S:Snd v) (G:Good X st d) {a:Expr} {kws:List Keyword} {p pos:Pos} (hx:(cC st "sorted"&&(slot st "sorted").isNone&&st.bl.contains "sorted")=true):SF X (.Call (.Name "sorted" p) [a] kws pos) (aP1 v st a kws):=by
 intro κ M δ h s w h' R F e;unfold aP1 at e;obtain ⟨q,eq⟩:∃ q,st.qn=some q:=by
  cases eq:st.qn with
  | none=>rw [eq] at e;cases e
  | some q=>exact ⟨q,rfl⟩
 obtain ⟨⟨⟨ar,body,sc,lp⟩,r⟩,el⟩:∃ y,rS kws=some y:=by
  cases el:rS kws with
  | none=>rw [eq,el] at e;cases e
  | some y=>exact ⟨y,rfl⟩
 rw [eq,el] at e;dsimp only at e;obtain ⟨p1,rr,rfl,hr⟩:=bG9 el;obtain ⟨hb,e⟩:aP0 st q ar sc lp=true/\(match (iU sc).findIdx? (·==ar.arg) with
  | some i=>xb (aQ v st [a]) fun ws=>(match ws with
   | [w]=>lU r (v.E (st.lam sc) body) (dO st.N sc) i (q.1++"<lambda>") lp w
   | _=>xno)
  | none=>xno) δ h=some (w,h'):=by
  by_cases hb:aP0 st q ar sc lp=true
  ·rw [if_pos hb] at e;exact ⟨hb,e⟩
  ·rw [if_neg hb] at e;cases e
 obtain ⟨i0,ei⟩:∃ i,(iU sc).findIdx? (·==ar.arg)=some i:=by
  cases ei:(iU sc).findIdx? (·==ar.arg) with
  | none=>rw [ei] at e;cases e
  | some i=>exact ⟨i,rfl⟩
 rw [ei] at e;obtain ⟨ws,h1,e1,e⟩:=aF e;have LK:=G.qn q eq;obtain ⟨c0,ec,T⟩:=LK.code;obtain ⟨b1,b2,b3⟩:=cN G hx;have hst:=cI e1;rw [List.all_cons,Bool.and_eq_true] at hst;unfold aP0 at hb;simp only [Bool.and_eq_true,decide_eq_true_eq,Bool.not_eq_true'] at hb;obtain ⟨rfl,hc,hco,hg,hloc⟩:=hb;have SC:CompSc X.N (iU sc) (dO st.N sc) X.env.scope sc:=by rw [G.N,G.S];exact jH hc
 obtain ⟨cl,ecl,hcl1,hcl2⟩:=fM (sc:=sc) (env:=X.env) fun y hy hf=>F.ok.has y.1 (SC.free y hy hf);rcases hr with ⟨rfl,rfl⟩ | ⟨rfl,j,p3,p2,rfl⟩
 all_goals
  refine wpAny_Call_Name_kw (cM (u:=.builtin "sorted") F R b2 b3 (by decide +kernel) b1 ?_);refine callWith_kw (e:=a) (rest:=[]) ?_ (by show _=_;unfold backTo;rw [bM a hst.1];rfl) (by have:=bQ pos [] (by rfl) (X:=X);show _=_;unfold backTo;rw [bM a hst.1];rfl);refine thn (cD S G _ pos R F e1) fun us s1 ⟨M1,l1,R1,r1⟩=>?_;obtain ⟨wa,rfl⟩:∃ w,ws=[w]:=by
   rcases ws with _ | ⟨w,_ | ⟨_,_⟩⟩
   ·cases e
   ·exact ⟨w,rfl⟩
   ·cases e
  obtain ⟨u,rfl,ru⟩:=w1 r1
  change lU _ (v.E (st.lam sc) body) (dO st.N sc) i0 (q.1++"<lambda>") q.2 wa δ h1=some (w,h') at e
  unfold lU at e;split at e
  case h_2=>cases e
  rename_i xs ts ex eh;obtain ⟨ts',et,e⟩:=bind_some e;obtain ⟨⟨zs,h2⟩,ez,e⟩:=bind_some e;obtain ⟨rs,ek,e⟩:=map_some e;cases e;have F1:=F.go l1;refine kws_cons (thn (aG6 (qs':=ts') R1 F1 T ec ecl rfl eh (by rw [LK.qual];exact et)) fun uf s2 ⟨f,cc,pm,ctv,M2,euf,l2,R2,ff,hf,hcz⟩=>?_);subst euf
  first | refine kws_cons (Constant_bool (kws_nil ?_)) | refine kws_nil ?_
  have F2:=F1.go l2;have ex2:ref (h1.set 0 (.t ts')) wa=some (.list xs):=by
   cases wa with
   | d y=>exact ex
   | c k =>
    dsimp only [DL.ref] at ex ⊢
    by_cases hk:k=0
    ·subst hk;rw [eh] at ex;cases ex
    ·rw [List.getElem?_set_ne (Ne.symm hk)];exact ex
  obtain ⟨l,vs,n,rfl,hl,hz,rv⟩:=cH R2 (ru.go l2) ex2;have hp:(iU sc)[i0]?=some ar.arg:=by
   obtain ⟨z1,z2,_⟩:=List.findIdx?_eq_some_iff_getElem.mp ei;rw [List.getElem?_eq_getElem z1,eq_of_beq z2]
  have hi:(dO st.N sc)[i0]?=some none:=by
   unfold dO;rw [List.getElem?_map,hp];show some (if sc.names.lookup ar.arg=some NameKind.free then _ else _)=_;rw [hloc,if_neg (by decide)]
  refine thn (aH8 R2 ff hf hl rv ez ek fun {κ' M' h3 h4 s3 u x z} hκ l3 kf R3 r3 e3=>?_) fun _ _ q=>Pf.go (l1.trans l2) q;have FX:Fra X κ' M' δ:=(F2.go l3).kp fun b hb=>hκ b (F2.mine hb);have hf3:=(R3.k f true _ kf).1 rfl;obtain ⟨oc,vs',t,z1,z2,z3⟩:=hcz;exact aR5 (A:=X.A.in1.in1) (w:=.d x) (by have:=LK.dp;show X.A.depth < _;omega) FX.frs R3 FX SC hcl1 hcl2 hf3 ⟨cc,oc,vs',t,rfl,R3.z _ _ (l3.z _ _ z1),z2,z3⟩ (fun fd q1 q2 q3=>aH9 fd q1 q2 q3 u) hco hg hp hloc hi r3 (fun L=>S.E (aI0 (A:=X.A) G LK) body) e3
 end
end DL

namespace ST
open PySem PySem.Spec PyProof.Rows
def Ris (xs:Array Nat):Prop:=xs.toList.Pairwise (· < ·)
def Ris.lt {xs:Array Nat} (h:Ris xs) {i k:Nat} {a b:Nat} (hik:i < k) (ha:xs[i]?=some a) (hb:xs[k]?=some b):a < b:=by
 unfold Ris at h;rw [List.pairwise_iff_getElem] at h;rw [Array.getElem?_eq_some_iff] at ha hb;obtain ⟨h1,rfl⟩:=ha;obtain ⟨h2,rfl⟩:=hb;exact h i k (by simpa using h1) (by simpa using h2) hik
theorem qN {xs:Array Nat} {j:Nat} (hx:Ris xs):∀ (fuel lo hi:Nat),hi - lo<=fuel->lo<=hi->hi<=xs.size->(∀ i a,i < lo->xs[i]?=some a->a < j)->(∀ i a,hi<=i->xs[i]?=some a->j<=a) ->
  (∀ i a,i < SetTable.below.go xs j fuel lo hi->xs[i]?=some a->a < j)/\(∀ i a,SetTable.below.go xs j fuel lo hi<=i->xs[i]?=some a->j<=a)/\SetTable.below.go xs j fuel lo hi<=xs.size
 | 0,lo,hi,h1,h2,h3,h4,h5=>by
  have:lo=hi:=by omega
  subst this;exact ⟨h4,h5,h3⟩
 | fuel+1,lo,hi,h1,h2,h3,h4,h5=>by
  unfold SetTable.below.go;split
  ·rename_i hlt;have hm:(lo+hi) / 2 < xs.size:=by omega
   have em:xs[(lo+hi) / 2]?=some xs[(lo+hi) / 2]:=Array.getElem?_eq_getElem hm;have eg:xs.getD ((lo+hi) / 2) j=xs[(lo+hi) / 2]:=by simp [Array.getD,hm]
   dsimp only;rw [eg];split
   ·rename_i hj;refine qN hx fuel _ _ (by omega) (by omega) h3 (fun i a hi' ha=>?_) h5
    by_cases e:i=(lo+hi) / 2
    ·subst e;rw [em] at ha;cases ha;exact hj
    ·exact Nat.lt_trans (hx.lt (by omega) ha em) hj
   ·rename_i hj;refine qN hx fuel _ _ (by omega) (by omega) (by omega) h4 (fun i a hi' ha=>?_)
    by_cases e:i=(lo+hi) / 2
    ·subst e;rw [em] at ha;cases ha;omega
    ·have:=hx.lt (show (lo+hi) / 2 < i by omega) em ha;omega
  ·have:lo=hi:=by omega
   subst this;exact ⟨h4,h5,h3⟩
def mR {xs:Array Nat} (hx:Ris xs) (j:Nat):(∀ i a,i < SetTable.below xs j->xs[i]?=some a->a < j)/\(∀ i a,SetTable.below xs j<=i->xs[i]?=some a->j<=a)/\SetTable.below xs j<=xs.size :=
 qN hx xs.size 0 xs.size (by omega) (by omega) (Nat.le_refl _) (fun i a h=>by omega) (fun i a h e=>by
  rw [Array.getElem?_eq_none (by omega)] at e;cases e)
noncomputable def fO (xs:Array Nat):Nat->Nat
 | 0=>0
 | i+1=>xs.getD i 0+1
def qO {xs:Array Nat} (hx:Ris xs) {i:Nat} (hi:i<=xs.size):SetTable.below xs (fO xs i)=i:=by
 obtain ⟨h1,h2,h3⟩:=mR hx (fO xs i);generalize SetTable.below xs (fO xs i)=r at h1 h2 h3;cases i with
 | zero =>
  cases r with
  | zero=>rfl
  | succ r =>
   have:=h1 0 xs[0] (by omega) (Array.getElem?_eq_getElem (by omega));simp [fO] at this
 | succ i =>
  have ei:xs[i]?=some xs[i]:=Array.getElem?_eq_getElem (by omega);have es:fO xs (i+1)=xs[i]+1:=by simp [fO,Array.getD,show i < xs.size by omega]
  rw [es] at h1 h2;have a1:¬ r<=i:=fun z=>by have:=h2 i _ z ei;omega
  have a2:¬ i+1 < r:=fun z=>by
   have e2:xs[i+1]?=some xs[i+1]:=Array.getElem?_eq_getElem (by omega);have q1:=h1 (i+1) _ z e2;have q2:=hx.lt (show i < i+1 by omega) ei e2;omega
  omega
def vA {xs:Array Nat} (hx:Ris xs) {j:Nat} (hj:xs[SetTable.below xs j]?≠some j):Ris (SetTable.insertAt xs (SetTable.below xs j) j):=by
 obtain ⟨h1,h2,h3⟩:=mR hx j;have e:(SetTable.insertAt xs (SetTable.below xs j) j).toList=xs.toList.take (SetTable.below xs j)++j::xs.toList.drop (SetTable.below xs j):=by
  simp [SetTable.insertAt,Array.toList_extract,List.extract_eq_take_drop,List.take_of_length_le]
 unfold Ris at hx ⊢;rw [e,List.pairwise_append,List.pairwise_cons];have mt:∀ a∈xs.toList.take (SetTable.below xs j),a < j:=fun a ha=>by
  obtain ⟨i,hi,ea⟩:=List.mem_iff_getElem.mp ha;rw [List.getElem_take] at ea;rw [List.length_take] at hi;refine h1 i a (by omega) ?_;rw [<- ea];exact Array.getElem?_eq_getElem (by simp at hi;omega)
 have md:∀ b∈xs.toList.drop (SetTable.below xs j),j < b:=fun b hb=>by
  obtain ⟨i,hi,eb⟩:=List.mem_iff_getElem.mp hb;rw [List.getElem_drop] at eb;rw [List.length_drop] at hi;have hlt:SetTable.below xs j+i < xs.size:=by simp at hi;omega
  have eg:xs[SetTable.below xs j+i]?=some b:=by rw [<- eb];exact Array.getElem?_eq_getElem hlt
  have q:=h2 _ b (by omega) eg;rcases Nat.lt_or_eq_of_le q with q | q
  ·exact q
  ·subst q;cases i with
   | zero=>exact absurd eg hj
   | succ i =>
    have e0:xs[SetTable.below xs j]?=some xs[SetTable.below xs j]:=Array.getElem?_eq_getElem (by omega);have:=Ris.lt hx (show SetTable.below xs j < SetTable.below xs j+(i+1) by omega) e0 eg;have q0:=h2 _ _ (Nat.le_refl _) e0;omega
 refine ⟨hx.sublist (List.take_sublist _ _),⟨md,hx.sublist (List.drop_sublist _ _)⟩,fun a ha b hb=>?_⟩;rcases List.mem_cons.mp hb with rfl | hb
 ·exact mt a ha
 ·exact Nat.lt_trans (mt a ha) (md b hb)
def zJ (n:Nat):Ris (Array.range n):=by
 unfold Ris;rw [Array.toList_range];exact List.pairwise_lt_range
def free (t:SetTable) (j:Nat):Prop:=t.place[SetTable.below t.place j]?≠some j
def oU {t:SetTable} {j:Nat} (h:∀ i,t.slot j≠.live i):free t j:=by
 intro e;unfold SetTable.slot at h;dsimp only at h;rw [e] at h;simp at h
theorem iZ {t:SetTable} {f:Nat->Int} {h:Int}:∀ (fuel:Nat) (p:SetTable.Probe),(∀ d,p.dummy=some d->free t d)->∀ j d,SetTable.probe.go t f h fuel p=some (.empty j d)->free t j/\∀ d',d=some d'->free t d'
 | 0,p,hp,j,d,e=>by simp [SetTable.probe.go] at e
 | fuel+1,p,hp,j,d,e=>by
  unfold SetTable.probe.go at e;split at e
  ·rename_i es;cases e;exact ⟨oU (fun i z=>by rw [es] at z;cases z),hp⟩
  ·rename_i es;refine iZ fuel _ (fun d' ed=>?_) j d e;have:(t.advance { p with dummy:=some p.j }).dummy=some p.j:=by
    unfold SetTable.advance;split<;>rfl
   rw [this] at ed;cases ed;exact oU fun i z=>by rw [es] at z;cases z
  ·split at e
   ·cases e
   ·refine iZ fuel _ (fun d' ed=>hp d' ?_) j d e;have:(t.advance p).dummy=p.dummy:=by
     unfold SetTable.advance;split<;>rfl
    rw [<- this];exact ed
def nQ {t:SetTable} {h:Int} {j:Nat} {b:Bool} (e:t.freeSlot h=some (j,b)):free t j:=by
 unfold SetTable.freeSlot at e;split at e
 ·rename_i j' d ep;cases e;obtain ⟨f1,f2⟩:=iZ _ _ (fun d ed=>by simp [SetTable.probeStart] at ed) _ _ ep;cases d with
  | none=>exact f1
  | some d=>exact f2 d rfl
 ·cases e
def Good (by_:Bool) (t:SetTable):Prop:=Ris t.place/\(by_=false->t.led=true)
def dD {by_:Bool} {t:SetTable} (h:Good by_ t) (n:Nat):Good by_ (t.standIn n):=⟨zJ n,h.2⟩
def sI {by_:Bool} {t:SetTable} {es:Array (Int×Value)} {h:Int} {x:Value} (g:Good by_ t):Good by_ (layNew t es h x).2.1:=by
 unfold layNew;split
 ·rename_i slot wd e;dsimp only;have gp:Good by_ (t.put slot).1:=⟨vA g.1 (nQ e),g.2⟩;unfold SetTable.orStandIn;split
  ·exact gp
  ·exact dD gp _
 ·exact dD g _
def aI1 {owner:Array (Option Nat)} (n:Nat):(((List.range n).filterMap fun j=>(owner.getD j none).map (j,·)).map (·.1)).Pairwise (· < ·):=by
 rw [List.pairwise_map];refine List.Pairwise.filterMap (R:=(· < ·)) _ (fun a a' hlt b hb b' hb'=>?_) (List.pairwise_lt_range (n:=n));obtain ⟨_,_,rfl⟩:=Option.map_eq_some_iff.mp hb;obtain ⟨_,_,rfl⟩:=Option.map_eq_some_iff.mp hb';exact hlt
def vB {by_:Bool} {t:SetTable} {es:Array (Int×Value)} {n:Nat} (g:Good by_ t):Good by_ (relayAll t es n).2.1:=by
 unfold relayAll;split
 ·rename_i t' order e;dsimp only;split
  ·unfold SetTable.relaid SetTable.laid at e;dsimp only at e;obtain ⟨owner,_,e2⟩:=Option.bind_eq_some_iff.mp e;cases e2;refine ⟨?_,g.2⟩;unfold Ris;exact aI1 _
  ·exact dD g _
 ·exact dD g _
theorem jA {α:Type}:∀ (l:List α) (i:Nat) (h:i < l.length),([l[i]]++l.eraseIdx i).Perm l
 | [],i,h=>by simp at h
 | x::l,0,h=>by simp
 | x::l,i+1,h=>by
  have:=jA l i (by simpa using h);simp only [List.getElem_cons_succ,List.eraseIdx_cons_succ];exact (List.Perm.swap _ _ _).trans (List.Perm.cons _ this)
theorem oV {α:Type} (next:Nat->Nat):∀ (fuel k:Nat) (left:List α) (out:Array α),left.length<=fuel->(pickOrder.go next fuel k left out).toList.Perm (out.toList++left)
 | 0,k,left,out,h=>by
  have:left=[]:=List.length_eq_zero_iff.mp (by omega);subst this;simp [pickOrder.go]
 | fuel+1,k,left,out,h=>by
  unfold pickOrder.go;cases left with
  | nil=>simp
  | cons y ys =>
   have hl:next k%(y::ys).length < (y::ys).length:=Nat.mod_lt _ (by simp);rw [List.getElem?_eq_getElem hl];dsimp only;refine (oV next fuel (k+1) _ _ (by rw [List.length_eraseIdx_of_lt hl];simp at h ⊢;omega)).trans ?_;rw [Array.toList_push,List.append_assoc];exact List.Perm.append_left _ (jA _ _ hl)
def mS {α:Type} (next:Nat->Nat) (xs:Array α):(pickOrder next xs).toList.Perm xs.toList:=by
 unfold pickOrder
 simpa using oV next xs.size 0 xs.toList #[] (by simp)
end ST

namespace ST
open PySem PySem.Spec PyProof.Rows
noncomputable def nR:Value->Int
 | .int k _=>k
 | _=>0
section
variable {prog:Program} {w:World} {A:Around} {E:Value->Shared->Prop} {s:Shared}
abbrev txt (w:World):Bool:=w.params.followText "set-order"
structure Parts (prog:Program) (w:World) (o:Obj) (es:Array (Int×Value)) (ep:Nat) (t:SetTable) (ks:List Int):Prop where
 ex:o.ExactSet
 dat:o.data=.set es ep t
 el:ElemsOf (intKind prog w) es.toList
 ks:(es.toList.map fun e=>nR e.2).Perm ks
 few:es.size < scanBound
 fit:t.fits es.size=true
 good:Good (txt w) t
def SetI (prog:Program) (w:World) (h:Heap) (a:Addr) (ks:List Int):Prop:=∃ o es ep t,h.get? a=some o/\Parts prog w o es ep t ks
def SetI.keep {h h':Heap} {a:Addr} {ks:List Int} (x:SetI prog w h a ks) (e:∀ o,h.get? a=some o->h'.get? a=some o):SetI prog w h' a ks :=
 let ⟨o,es,ep,t,ho,p⟩:=x;⟨o,es,ep,t,e o ho,p⟩
def vC {k:Int} {v:Value} (h:(intKind prog w).is k v=true):∃ t,v=.int k t:=Value.isInt_shape h
def vD {es:List (Int×Value)} (h:ElemsOf (intKind prog w) es) {e:Int×Value} (he:e∈es):∃ t,e.2=.int (nR e.2) t:=by
 obtain ⟨⟨k,hk,_⟩,_⟩:=h e he;obtain ⟨t,q⟩:=vC hk;exact ⟨t,by rw [q];rfl⟩
def zK {es:List (Int×Value)} (h:ElemsOf (intKind prog w) es) {k:Int} (hf:es.findIdx? (fun e=>(intKind prog w).is k e.2)=none):k∉es.map fun e=>nR e.2:=by
 intro z;obtain ⟨e,he,q⟩:=List.mem_map.mp z;obtain ⟨t,e2⟩:=vD h he;have:=List.findIdx?_eq_none_iff.mp hf e he;rw [e2,q] at this;rw [intKind_is] at this;cases this
def zL {es:List (Int×Value)} {k:Int} {j:Nat} (hf:es.findIdx? (fun e=>(intKind prog w).is k e.2)=some j):k∈es.map fun e=>nR e.2:=by
 obtain ⟨hj,hp,_⟩:=List.findIdx?_eq_some_iff_getElem.mp hf;obtain ⟨t,q⟩:=vC hp;exact List.mem_map.mpr ⟨es[j],List.getElem_mem hj,by rw [q];rfl⟩
def kK {a:Addr} {o:Obj} {es es':Array (Int×Value)} {ep:Nat} {t t':SetTable} {ks':List Int} {h:Heap} (ho:h.get? a=some o) (hd:o.data=.set es ep t) (hx:o.ExactSet)
  (p:Parts prog w { o with data:=.set es' (ep+1) t' } es' (ep+1) t' ks'):(h.update a (Obj.putSet es' t')).get? a=some { o with data:=.set es' (ep+1) t' } :=
 (SetOf_store (knd:=intKind prog w) (S':=fun k=>decide (k∈es'.toList.map fun e=>nR e.2)) ho hx hd p.el (fun k=>by
  rw [decide_eq_true_eq,List.mem_map];constructor
  ·rintro ⟨e,he,rfl⟩;obtain ⟨q,e2⟩:=vD p.el he;exact ⟨e,he,by rw [e2];exact intKind_is _ _ _ _⟩
  ·rintro ⟨e,he,q⟩;obtain ⟨tk,e2⟩:=vC q;exact ⟨e,he,by rw [e2];rfl⟩) p.few p.fit).1
def xG {g:Bool->Sem Unit} (hg:∀ (b:Bool) (s₁:Shared) (Q':Unit->Shared->Prop),Q' () s₁->wpAny (model prog w) A (g b) Q' E s₁) {a:Addr} {o:Obj} {es es1:Array (Int×Value)} {ep:Nat} {t t2:SetTable} {ks':List Int}
  (ho:s.heap.get? a=some o) (hd:o.data=.set es ep t) (hx:o.ExactSet) (p:Parts prog w { o with data:=.set es1 (ep+1) t2 } es1 (ep+1) t2 ks') {wd:Bool} {R:Option Bool->Shared->Prop}
  (h:∀ h',Heap.SameBut a s.heap h'->SetI prog w h' a ks'->R (some true) { s with heap:=h' }) :
  wpAny (model prog w) A (do
   storeSet a es1 t2
   if (!wd&&t2.tooFull)=true then do
    g (relayAll t2 es1 (SetTable.grown es1.size)).2.2
    storeSet a (relayAll t2 es1 (SetTable.grown es1.size)).1 (relayAll t2 es1 (SetTable.grown es1.size)).2.1
    pure (some true)
   else pure (some true)) R E s:=by
 refine wpAny_bind (wpAny_storeSet_of ho hd ?_ (fits_of_scanBound p.few));have ho1:=kK ho hd hx p;have sb1:=Heap.SameBut.update s.heap a (Obj.putSet es1 t2);split
 ·have hp:=relayAll_perm t2 es1 (SetTable.grown es1.size);have hf:=relayAll_fits t2 es1 (SetTable.grown es1.size);have hgd:=vB (es:=es1) (n:=SetTable.grown es1.size) p.good;have hz:(relayAll t2 es1 (SetTable.grown es1.size)).1.size=es1.size:=by simpa using hp.length_eq
  have p2:Parts prog w { o with data:=.set (relayAll t2 es1 (SetTable.grown es1.size)).1 (ep+1+1) (relayAll t2 es1 (SetTable.grown es1.size)).2.1 } (relayAll t2 es1 (SetTable.grown es1.size)).1 (ep+1+1) (relayAll t2 es1 (SetTable.grown es1.size)).2.1 ks' :=
   ⟨hx,rfl,p.el.perm hp,(hp.map _).trans p.ks,by rw [hz];exact p.few,hf,hgd⟩
  refine wpAny_bind (hg _ _ _ (wpAny_bind (wpAny_storeSet_of ho1 rfl (wpAny_pure (h _ (sb1.trans (Heap.SameBut.update _ a _)) ⟨_,_,_,_,kK ho1 rfl hx p2,p2⟩)) (fits_of_scanBound p2.few))))
 ·exact wpAny_pure (h _ sb1 ⟨_,_,_,_,ho1,p⟩)
def xH {ks:List Int} {k:Int}:(ks.any (·==k))=decide (k∈ks):=by
 rw [Bool.eq_iff_iff,List.any_eq_true,decide_eq_true_eq];constructor
 ·rintro ⟨x,hx,e⟩;rw [<- eq_of_beq e];exact hx
 ·exact fun hx=>⟨k,hx,beq_self_eq_true k⟩
def bH0 {ks:List Int} {k:Int} (h:k∈ks):step_dedup ks k=ks:=by unfold step_dedup;rw [xH,if_pos (decide_eq_true h)]
def bH1 {ks:List Int} {k:Int} (h:k∉ks):step_dedup ks k=ks++[k]:=by unfold step_dedup;rw [xH,if_neg (by rw [decide_eq_true_eq];exact h)]
def add_int {a:Addr} {ks:List Int} {k:Int} {tk:Tok} {Q:Bool->Shared->Prop} (hS:SetI prog w s.heap a ks) (room:ks.length+1 < scanBound)
  (h:∀ b h',Heap.SameBut a s.heap h'->SetI prog w h' a (step_dedup ks k)->Q b { s with heap:=h' }):wpAny (model prog w) A (setAddHashed a (.int k tk) ((intKind prog w).hash k)) Q E s:=by
 obtain ⟨o,es,ep,t,ho,p⟩:=hS;have hk:(intKind prog w).is k (.int k tk)=true:=intKind_is _ _ _ _;have hsz:es.size=ks.length:=by have:=p.ks.length_eq;simpa using this
 unfold setAddHashed setAddHashedIn;refine wpAny_holding (wpAny_bind (wpAny_setState_of ho p.dat p.fit ?_));dsimp only;rw [byScan_of (x:=.int k tk) rfl p.few p.el];simp only [if_true];unfold setAddByScan;refine wpAny_bind (wpAny_bind (wpAny_rule (wpAny_bind (wpAny_setScan_of hk ho p.dat p.fit p.el ?_))));cases hr:List.findIdx? (fun e=>(intKind prog w).is k e.2) es.toList with
 | some j =>
  have hm:k∈ks:=p.ks.mem_iff.mp (zL hr);refine wpAny_pure (wpAny_pure ?_);have q:=h false s.heap (Heap.SameBut.refl a _) (by rw [bH0 hm];exact ⟨o,es,ep,t,ho,p⟩);cases s;exact q
 | none =>
  have hm:k∉ks:=fun z=>zK p.el hr (p.ks.mem_iff.mpr z);dsimp only;have gw:∀ (b:Bool) {s₁:Shared} {Q':Unit->Shared->Prop},Q' () s₁->wpAny (model prog w) A (match b with | true=>rule "set.scan.the-table-gave-way" | false=>pure ()) Q' E s₁:=fun b s₁ Q' q=>by
   cases b
   ·exact wpAny_pure q
   ·exact wpAny_rule q
  have lp:=layNew_perm t es ((intKind prog w).hash k) (.int k tk);have lf:=layNew_fits t es ((intKind prog w).hash k) (.int k tk);have lg:Good (txt w) (layNew t es ((intKind prog w).hash k) (.int k tk)).2.1:=sI p.good;generalize layNew t es ((intKind prog w).hash k) (.int k tk)=L at lp lf lg;obtain ⟨es1,t1,wd,gv⟩:=L;dsimp only at lp lf lg ⊢;rw [Array.toList_push] at lp;have z1:es1.size=ks.length+1:=by have:=lp.length_eq;simp at this;omega
  have mk:∀ t2:SetTable,t2.fits es1.size=true->Good (txt w) t2->Parts prog w { o with data:=.set es1 (ep+1) t2 } es1 (ep+1) t2 (step_dedup ks k):=fun t2 f2 g2 =>
   ⟨p.ex,rfl,(p.el.push hk rfl).perm lp,by
    rw [bH1 hm];refine (lp.map _).trans ?_;rw [List.map_append];exact p.ks.append (List.Perm.refl _),by omega,f2,g2⟩
  refine wpAny_bind (gw _ ?_);have fin:∀ h',Heap.SameBut a s.heap h'->SetI prog w h' a (step_dedup ks k)->wpAny (model prog w) A (pure true) (fun b s'=>Q b s') E { s with heap:=h' }:=fun h' b c=>wpAny_pure (h true h' b c);split
  ·refine wpAny_bind ?_;rw [hashByValue_scannable 8 (x:=.int k tk) rfl];refine wpAny_pure (xG (fun b s₁ Q' q=>?_) ho p.dat p.ex (mk _ ?_ ?_) fun h' b c=>wpAny_pure (h _ h' b c))
   ·cases b
    ·exact wpAny_pure q
    ·exact wpAny_rule q
   ·split
    ·exact lf
    ·exact SetTable.fits_plain_off lf
   ·split
    ·exact lg
    ·exact lg
  ·refine wpAny_bind (wpAny_pure ?_);simp only [if_true];refine xG (fun b s₁ Q' q=>?_) ho p.dat p.ex (mk _ lf lg) fun h' b c=>wpAny_pure (h _ h' b c);cases b
   ·exact wpAny_pure q
   ·exact wpAny_rule q
end
end ST

namespace ST
open PySem PySem.Spec PyProof.Rows
section
variable {prog:Program} {w:World} {A:Around} {E:Value->Shared->Prop} {s:Shared} {R:Result->Shared->Prop}
def aI2 {I:Addr} {fp wr:List Addr} {n:Nat} {P:Nat->Value->Prop} {St:Nat->Heap->Prop} (W:Walks prog w A.in1 I fp wr n P St) (S:Addr) (hS:S∉fp) (val:Nat->Int) (hval:∀ i v,P i v->∃ t,v=.int (val i) t) (hb:n+1 < scanBound) :
  ∀ (k i:Nat) (s:Shared),n - i=k->i<=n->St i s.heap->SetI prog w s.heap S (firstMet val i) ->
   (∀ h' tk,SetI prog w h' S (firstMet val n)->(∀ b o,b≠S->b∉wr->s.heap.get? b=some o->h'.get? b=some o)->R (.ok (.ret .none)) { s with heap:=h',toks:=tk }) ->
   codeAny (model prog w) A (.builtin "set.update.loop" ⟨[.ref S,.ref I],[]⟩) R s:=by
 have hw:S∉wr:=fun z=>hS (W.sub _ z);intro k;induction k with
 | zero =>
  intro i s hk hi st si hR;have e:i=n:=by omega
  subst e;refine codeAny_builtin F.entry_set_update_loop ?_;rw [Around.under_plainId F.plain_set_update_loop _];refine wpAny_bind (W.done s _ _ st fun h' tk hm=>wpAny_pure ?_);exact hR h' tk (si.keep fun o e=>hm S o hw e) fun b o _ hb e=>hm b o hb e
 | succ k ih =>
  intro i s hk hi st si hR;have hlt:i < n:=by omega
  refine codeAny_builtin F.entry_set_update_loop ?_;rw [Around.under_plainId F.plain_set_update_loop _];refine wpAny_bind (W.item i s _ _ hlt st fun v h1 tk1 hP st1 hm=>?_);obtain ⟨t,rfl⟩:=hval i v hP;have s1:SetI prog w h1 S (firstMet val i):=si.keep fun o e=>hm S o hw e;have fl:=firstMet_length_le val i;refine wpAny_bind (wpAny_holding ?_);unfold setAdd;refine wpAny_holding (wpAny_bind ((intKind prog w).pyHash (k:=val i) (intKind_is _ _ _ _) ?_));refine add_int (s:={ s with heap:=h1,toks:=tk1+1 }) s1 (by omega) fun b h2 sb s2=>?_;rw [<- firstMet_succ] at s2;refine wpAny_pure ⟨plainId_quiet F.plain_set_update_loop _,ih (i+1) _ (by omega) hlt (W.frame _ h1 _ st1 fun c hc o e=>?_) s2 fun h3 tk3 s3 k3=>hR h3 tk3 s3 fun c o n1 n2 e=>k3 c o n1 n2 ?_⟩
  ·rw [sb.2 c (fun z=>hS (by rw [<- z];exact hc))];exact e
  ·show h2.get? c=some o;rw [sb.2 c n1];exact hm c o n2 e
abbrev iM (w:World):Obj:={ cls:=.type "set",dict:=none,data:=.set #[] 0 (.fresh 0 0 (!txt w)) }
def zM:Parts prog w (iM w) #[] 0 (.fresh 0 0 (!txt w)) [] where
 ex:=⟨rfl,rfl,rfl⟩
 dat:=rfl
 el:=fun e he=>by simp at he
 ks:=by simp
 few:=by decide
 fit:=rfl
 good:=⟨by simp [Ris,SetTable.fresh],fun e=>by rw [e];rfl⟩
def aI3 (a:Value) {Q₁:Value->Shared->Prop} (h:Q₁ (.ref s.heap.objs.size) { s with heap:=s.heap.push (iM w) }) :
  codeAny (model prog w) A (.call (.builtin "set.__new__") ⟨[.type "set",a],[]⟩) (wants Q₁ E) s:=by
 refine codeAny_of_tree ?_;show wpAny _ _ (checkBuiltinCall "set.__new__" ⟨[.type "set",a],[]⟩ >>= fun _=>again (.builtin "set.__new__" ⟨[.type "set",a],[]⟩)) _ _ s;refine wpAny_bind (wpAny_of_eq (PySem.F.newCall_set_1 a) (wpAny_pure ⟨plainId_quiet PySem.F.plain_set_new _,codeAny_builtin PySem.F.entry_set_new ?_⟩));rw [Around.under_plainId PySem.F.plain_set_new _];have sub:=sub_set_self;unfold Builtin.«set.__new__» Builtin.Frozenset.newClass;obtain ⟨hp,g,d,tk,os⟩:=s;dsimp only
 wp_walk
 refine wpAny_askSetting (wpAny_pure ?_);dsimp only;simp only [newObj];exact wpAny_bind (wpAny_alloc (wpAny_pure (wpAny_pure h)))
def vE (ns:List Int):(List.range ns.length).map (fun i=>ns.getD i 0)=ns:=by
 apply List.ext_getElem
 ·simp
 ·intro i h1 h2;simp [h2]
def vF (ns:List Int):firstMet (fun i=>ns.getD i 0) ns.length=dd ns:=by
 unfold firstMet dd;rw [vE]
def eB {b:Bool} {l:Addr} {items:Array Value} {ns:List Int} {Q:Value->Shared->Prop} (hh:A.handled=none) (hl:SqAt b s.heap l items) (hi:IntsAre items.toList ns) (hb:items.size+1 < scanBound)
  (h:∀ h' tk,SetI prog w h' s.heap.objs.size (dd ns)->(∀ b o,s.heap.get? b=some o->h'.get? b=some o)->Q (.ref s.heap.objs.size) { s with heap:=h',toks:=tk }) :
  wpAny (model prog w) A (call (.type "set") [.ref l]) Q E s:=by
 have hnz:ns.length=items.size:=by have:=IntsAre.length hi;simpa using this.symm
 obtain ⟨c,tl,mro⟩:=PySem.F.called_set.mro;have made:=PySem.F.called_set.made;have sub:=PySem.F.called_set.sub;refine wpAny_call (codeAny_of_tree (wpAny_pure ⟨Code.quiet_builtin _ (by decide +kernel),codeAny_builtin PySem.F.entry_type_call ?_⟩));rw [Around.under_plain (weight_type_call_type "set" [.ref l] []) rfl];have h1:=PySem.F.called_set.notType;have h2:=PySem.F.called_set.canCreate;have h3:=PySem.F.typeCall_set_1 (.ref l)
 repeat (any_goals (first | assumption | wp_step))
 refine codeAny_mono (aI3 (.ref l) (E:=E) (Q₁:=fun obj s₁=>obj=.ref s.heap.objs.size/\s₁={ s with heap:=s.heap.push (iM w) }) ⟨rfl,rfl⟩) fun r s₁ hr=>?_;cases r with
 | error e=>exact hr
 | ok fl =>
  cases fl with
  | ret obj =>
   obtain ⟨rfl,rfl⟩:=hr;have gS:(s.heap.push (iM w)).get? s.heap.objs.size=some (iM w):=Heap.get?_push_size _ rfl;have hT:Shared.TypeIs { s with heap:=s.heap.push (iM w) } (.ref s.heap.objs.size) "set":=⟨_,gS,rfl⟩;have look:=PySem.F.called_set.init.lookup;have bnd:=PySem.F.called_set.init.bind (.ref s.heap.objs.size)
   repeat (any_goals (first | assumption | wp_step))
   refine codeAny_mono (codeAny_call_builtin (R:=wants (fun r s₂=>r=.none/\∃ h' tk,s₂={ s with heap:=h',toks:=tk }/\SetI prog w h' s.heap.objs.size (dd ns)/\(∀ b o,s.heap.get? b=some o->h'.get? b=some o)) E)
    PySem.F.called_set.init.plain PySem.F.entry_set_init (check_set_init_1 hT ?_)) fun r₂ s₂ hr₂=>?_
   ·obtain ⟨cc,⟨⟨oc,od,odt,osl⟩,hol,hcl⟩,f1,f2,f3⟩:∃ cc,(∃ ol,s.heap.get? l=some ol/\ol.cls=.type cc)/\isSubtype (.type cc) (.type "set")=pure false/\isSubtype (.type cc) (.type "frozenset")=pure false/\(Value.type cc==Value.type "dict")=false:=by
     cases b
     ·obtain ⟨ol,hol,hcl,_⟩:=hl;exact ⟨_,⟨ol,hol,hcl⟩,PySem.F.sub_list_set,PySem.F.sub_list_frozenset,by decide⟩
     ·obtain ⟨ol,hol,hcl,_⟩:=hl;exact ⟨_,⟨ol,hol,hcl⟩,PySem.F.sub_tuple_set,PySem.F.sub_tuple_frozenset,by decide⟩
    dsimp only at hcl;subst hcl;have hol2:(s.heap.push (iM w)).get? l=some { cls:=.type cc,dict:=od,data:=odt,slots:=osl }:=Heap.get?_push_of_some _ hol;have il:SqAt b (s.heap.push (iM w)) l items:=hl.keep fun o e=>Heap.get?_push_of_some _ e;unfold Builtin.«set.__init__» noKeywords Builtin.Frozenset.updateFrom;generalize hPI:pyIter=PI
    wp_walk
    subst hPI;refine dH il (wpAny_bind (wpAny_runValue ?_));have lt:l < s.heap.objs.size:=Heap.lt_size hol;have sz:(s.heap.push (iM w)).objs.size=s.heap.objs.size+1:=by rw [Heap.size_push]
    have hne:l≠(s.heap.push (iM w)).objs.size:=by rw [sz];exact Nat.ne_of_lt (Nat.lt_succ_of_lt lt)
    have hSf:s.heap.objs.size∉[(s.heap.push (iM w)).objs.size,l]:=by
     rw [sz];simp only [List.mem_cons,List.not_mem_nil,or_false,not_or];exact ⟨Nat.ne_of_lt (Nat.lt_succ_self _),Nat.ne_of_gt lt⟩
    obtain ⟨P,St,W,st0,hP⟩:∃ P St,Walks prog w A.in1.in1.in1 (s.heap.push (iM w)).objs.size [(s.heap.push (iM w)).objs.size,l] [(s.heap.push (iM w)).objs.size] items.size P St/\St 0 ((s.heap.push (iM w)).push (jJ b l))/\∀ i v,P i v->items[i]?=some v:=by
     have il2:SqAt b ((s.heap.push (iM w)).push (jJ b l)) l items:=il.keep fun o e=>Heap.get?_push_of_some _ e;cases b
     ·exact ⟨_,_,Walks.list (by simp [hh]) _ l hne items,⟨⟨_,Heap.get?_push_size _ rfl,rfl,rfl⟩,il2⟩,fun _ _ e=>e⟩
     ·exact ⟨_,_,Walks.tuple (by simp [hh]) _ l hne items,⟨⟨_,Heap.get?_push_size _ rfl,rfl,rfl⟩,il2⟩,fun _ _ e=>e⟩
    refine aI2 W s.heap.objs.size hSf (fun i=>ns.getD i 0) (fun i v hv=>IntsAre.int_at hi i v (by rw [Array.getElem?_toList];exact hP i v hv)) hb (items.size - 0) 0 _ rfl (Nat.zero_le _)
     st0 ⟨_,_,_,_,Heap.get?_push_of_some _ gS,zM⟩ fun h' tk si kp=>?_
    rw [<- hnz,vF] at si;refine wpAny_pure (wpAny_pure ⟨rfl,h',tk,rfl,si,fun b o e=>?_⟩);have bl:b < s.heap.objs.size:=Heap.lt_size e;refine kp b o (Nat.ne_of_lt bl) ?_ (Heap.get?_push_of_some _ (Heap.get?_push_of_some _ e));simp only [List.mem_singleton];rw [sz];exact Nat.ne_of_lt (Nat.lt_succ_of_lt bl)
   ·cases r₂ with
    | error e=>exact hr₂
    | ok fl₂ =>
     cases fl₂ with
     | ret r =>
      obtain ⟨rfl,h',tk,rfl,si,kp⟩:=hr₂
      repeat (any_goals (first | assumption | wp_step))
      exact h _ _ si kp
     | _=>exact hr₂.elim
  | _=>exact hr.elim
end
end ST

namespace ST
open PySem PySem.Spec PyProof.Rows
def sl_next:Slot "set_iterator" "__next__" "set_iterator.__next__" :=
 .of (owner:="set_iterator") (n:="__next__") (by rw [typeLookup_type,builtinLookup_eq_fast];kernel_rfl) (by decide +kernel) (by decide +kernel) (by decide +kernel) (by first | exact .inl (by decide +kernel) | exact .inr (by decide +kernel)) (by rw [isSubtype_type];kernel_rfl)
def aS2:entryFor table "set_iterator.__next__"=some Builtin.«set_iterator.__next__»:=entryFor_of_tree (by kernel_rfl)
def xI:Manifest.owners.lookup (String.ofList ['r','o','t','a','r','e','t','i','_','t','e','s'].reverse)=some Manifest.sig_set_iterator:=by kernel_rfl
def aS3 (a:Value):argsOk "set_iterator.__next__" ⟨[a],[]⟩:=by
 unfold argsOk;rw [signature?_of (id:="set_iterator.__next__") (n:=['_','_','t','x','e','n','_','_']) (o:=['r','o','t','a','r','e','t','i','_','t','e','s']) (by kernel_rfl) xI]
 kernel_rfl
def aS4:entryFor table "set.__iter__"=some Builtin.«frozenset.__iter__»:=entryFor_alias (id':="frozenset.__iter__") (by kernel_rfl) (by decide +kernel) (by decide +kernel) (by kernel_rfl)
abbrev itO (f:Value) (i:Nat) (a:Value) (n ep:Nat):Obj:={ cls:=.type "set_iterator",dict:=none,data:=.fields #[f,.int i 0,a,.int n 0,.int ep 0],slots:=#[] }
section
variable {prog:Program} {w:World} {A:Around} {E:Value->Shared->Prop} {s:Shared} {o:Obj} {es:Array (Int×Value)} {ep:Nat} {t:SetTable} {ks:List Int} {a:Addr}
def gT (ho:s.heap.get? a=some o) (p:Parts prog w o es ep t ks) {Q:(Array (Int×Value)×Nat×SetTable)->Shared->Prop} (h:Q (es,ep,t) s):wpAny (model prog w) A (setState a) Q E s:=wpAny_setState_of ho p.dat p.fit h
def qP {Q:Bool->Shared->Prop} (h:Q (txt w) s):wpAny (model prog w) A setsByText Q E s:=by
 unfold setsByText;exact wpAny_bind (wpAny_askSetting (wpAny_pure h))
noncomputable def vG (w:World) (es:Array (Int×Value)) (t:SetTable):Bool:=!txt w&&(!t.plain&&decide (es.size > 1))
def aI4 (ho:s.heap.get? a=some o) (p:Parts prog w o es ep t ks) {Q:Bool->Shared->Prop} (h:Q (vG w es t) s):wpAny (model prog w) A (setDrawn a) Q E s:=by
 unfold setDrawn;refine wpAny_bind (gT ho p (wpAny_bind (qP (wpAny_pure h))))
def aS5 (ho:s.heap.get? a=some o) (p:Parts prog w o es ep t ks) (ht:txt w=true) {Q:Array (Int×Value)->Shared->Prop} (h:Q (pickOrder (w.params.setOrder a ep) es) s):wpAny (model prog w) A (setWalk a) Q E s:=by
 unfold setWalk;refine wpAny_bind (gT ho p (wpAny_bind (qP ?_)));rw [ht,if_pos rfl];exact wpAny_bind (wpAny_askSetting (wpAny_pure h))
noncomputable def ord (w:World) (a:Addr) (ep:Nat) (es:Array (Int×Value)):Array (Int×Value):=if txt w=true then pickOrder (w.params.setOrder a ep) es else es
def slt (w:World) (t:SetTable) (i:Nat):Nat:=if txt w=true then 0 else fO t.place i
def xJ (ho:s.heap.get? a=some o) (p:Parts prog w o es ep t ks) (hd:vG w es t=false) {i:Nat} (hi:i<=es.size) {Q:Option (Value×Nat)->Shared->Prop}
  (h:Q ((ord w a ep es)[i]?.map fun e=>(e.2,slt w t (i+1))) s):wpAny (model prog w) A (setNext a (slt w t i) i ep) Q E s:=by
 unfold setNext;refine wpAny_bind (gT ho p (wpAny_bind (qP ?_)));unfold ord slt at *;cases ht:txt w with
 | true =>
  simp only [ht,if_true] at h ⊢;rw [if_neg (by simp)];exact wpAny_bind (aS5 ho p ht (wpAny_pure h))
 | false =>
  simp only [ht,Bool.false_eq_true,if_false] at h ⊢;have hd':(!t.plain&&decide (es.size > 1))=false:=by unfold vG at hd;rw [ht] at hd;exact hd
  have led:t.led=true:=p.good.2 ht;have psz:t.place.size=es.size:=by
   have f:=p.fit;unfold SetTable.fits at f;rw [Bool.and_eq_true] at f;exact eq_of_beq f.1
  refine wpAny_ite_split (fun z=>?_) fun _=>wpAny_bind (wpAny_ite_split (fun z=>?_) fun _=>wpAny_pure ?_)
  ·have z':(!t.plain&&decide (es.size > 1))=true:=z;rw [hd'] at z';cases z'
  ·have z':(!t.led&&!es.isEmpty)=true:=z;rw [led] at z';cases z'
  rw [qO p.good.1 (by omega)];refine wpAny_pure ?_
  by_cases hlt:i < es.size
  ·rw [Array.getElem?_eq_getElem hlt] at h ⊢;rw [Array.getElem?_eq_getElem (show i < t.place.size by omega)];have e1:fO t.place (i+1)=t.place[i]+1:=by simp [fO,Array.getD,show i < t.place.size by omega]
   rw [e1] at h;exact h
  ·rw [Array.getElem?_eq_none (by omega)] at h ⊢;exact h
def ord_perm:(ord w a ep es).toList.Perm es.toList:=by
 unfold ord;split
 ·exact mS _ _
 ·exact List.Perm.refl _
def aI5 (ho:s.heap.get? a=some o) (p:Parts prog w o es ep t ks) {Q:Array (Int×Value)->Shared->Prop} (h:Q es s):wpAny (model prog w) A (setEntries a) Q E s:=by
 unfold setEntries;exact wpAny_bind (gT ho p (wpAny_pure h))
def xK {P:PySem.Fin->Shared->Prop} {Q:Option Value->Shared->Prop} (hh:A.handled=none) (h:∀ h',(∀ b o,s.heap.get? b=some o->h'.get? b=some o)->Q none { s with heap:=h' }) :
  wpAny (model prog w) A.in1 (do let e <- newExc (Value.type "StopIteration") [];raiseNew e) P (fun e s'=>wpAny (model prog w) A (do
   let b <- isInstance e (Value.type "StopIteration")
   if b=true then pure none else throw e) Q E s') s:=by
 simp only [newExc,newTuple];refine wpAny_bind (wpAny_bind (wpAny_newObj_type (wpAny_bind (m:=firstArgMember _ _) (wpAny_of_eq (a:=Value.none) (by first | rfl | (simp only [firstArgMember];rfl)) (wpAny_newObj_type ?_ (by size_fits)))) (by size_fits)));simp only [raiseNew];refine wpAny_bind (wpAny_handled ?_);rw [show A.in1.handled=none from hh];refine wpAny_bind (wpAny_pure (wpAny_throw ?_));refine wpAny_bind (wpAny_isInstance (T:="StopIteration") (b:=true) ⟨_,Heap.get?_push_size _ rfl,rfl⟩ isSubtype_stop (wpAny_pure ?_));exact h _ fun b o e=>Heap.get?_push_of_some _ (Heap.get?_push_of_some _ e)
def lE {it:Addr} {f:Value} {i:Nat} {Q:Option Value->Shared->Prop} (hit:s.heap.get? it=some (itO f i (.ref a) es.size ep)) (ho:s.heap.get? a=some o) (p:Parts prog w o es ep t ks)
  (h:wpAny (model prog w) A.in1 (match f with
   | Value.int slot tok=>do
    let r <- setNext a slot.toNat i ep
    match r with
     | some (x,next)=>do
      setField (Value.ref it) 0 (rawInt next)
      setField (Value.ref it) 1 (rawInt ((i:Int)+1))
      ret x
     | none=>do
      setField (Value.ref it) 2 Value.none
      let e <- newExc (Value.type "StopIteration") []
      raiseNew e
   | x=>do
    let r <- seqItems? f
    match r with
     | some places =>
      match places[i]? with
      | some (Value.int place tok)=>do
       let x <- setNextDrawn a place.toNat ep
       setField (Value.ref it) 1 (rawInt ((i:Int)+1))
       ret x
      | some val=>unsupported "internal:set_iterator"
      | none=>do
       setField (Value.ref it) 0 (rawInt 0)
       setField (Value.ref it) 2 Value.none
       let e <- newExc (Value.type "StopIteration") []
       raiseNew e
     | x=>unsupported "internal:set_iterator")
   (fun fin s'=>∃ v,fin=PySem.Fin.done (Flow.ret v)/\wpAny (model prog w) A (pure (some v)) Q E s')
   (fun e s'=>wpAny (model prog w) A (do
    let b <- isInstance e (Value.type "StopIteration")
    if b=true then pure none else throw e) Q E s') s):wpAny (model prog w) A (pyNext (.ref it)) Q E s:=by
 have hT:s.TypeIs (.ref it) "set_iterator":=⟨_,hit,rfl⟩;unfold pyNext;refine wpAny_bind (wpAny_attempt (wpAny_callSpecial?_slot (name:=Str.ofString "__next__") hT sl_next (wpAny_call_entry sl_next hT aS2 ?_ (aS3 _))));unfold Builtin.«set_iterator.__next__»;refine wpAny_bind (wpAny_pure (wpAny_bind (wpAny_fieldsOf hit rfl ?_)));dsimp only;refine wpAny_bind (aI5 ho p ?_);rw [if_neg (by simp)];exact h
def bT5 (k:Nat):rawInt ((k:Int)+1)=.int ((k+1:Nat):Int) 0:=by
 rw [show ((k+1:Nat):Int)=(k:Int)+1 by omega];rfl
def aI6 {it:Addr} {i:Nat} {e:Int×Value} {Q:Option Value->Shared->Prop} (hd:vG w es t=false) (hia:a≠it) (hit:s.heap.get? it=some (itO (.int (slt w t i) 0) i (.ref a) es.size ep)) (ho:s.heap.get? a=some o) (p:Parts prog w o es ep t ks)
  (hi:(ord w a ep es)[i]?=some e) (hQ:∀ h',h'.get? it=some (itO (.int (slt w t (i+1)) 0) (i+1) (.ref a) es.size ep)->(∀ b o,b≠it->s.heap.get? b=some o->h'.get? b=some o)->Q (some e.2) { s with heap:=h' }) :
  wpAny (model prog w) A (pyNext (.ref it)) Q E s:=by
 have hz:i < es.size:=by
  have:=ord_perm (w:=w) (a:=a) (ep:=ep) (es:=es) |>.length_eq
  have h2:=(Array.getElem?_eq_some_iff.mp hi).1;simp at this;omega
 refine lE hit ho p (wpAny_bind ?_);rw [Int.toNat_natCast];refine xJ ho p hd (by omega) ?_;rw [hi];refine wpAny_bind (wpAny_setField_rec hit (by simp) fun h1 e1 s1=>wpAny_bind (wpAny_setField_rec (s:={ s with heap:=h1 }) e1 (by simp) fun h2 e2 s2=>wpAny_pure ⟨_,rfl,wpAny_pure (hQ h2 ?_ fun b o hb q=>s2.extBut b o hb (s1.extBut b o hb q))⟩));rw [bT5] at e2;exact e2
def aS6 {it:Addr} {Q:Option Value->Shared->Prop} (hh:A.handled=none) (hd:vG w es t=false) (hit:s.heap.get? it=some (itO (.int (slt w t es.size) 0) es.size (.ref a) es.size ep)) (ho:s.heap.get? a=some o) (p:Parts prog w o es ep t ks)
  (hQ:∀ h',(∀ b o,b≠it->s.heap.get? b=some o->h'.get? b=some o)->Q none { s with heap:=h' }):wpAny (model prog w) A (pyNext (.ref it)) Q E s:=by
 have hz:(ord w a ep es)[es.size]?=none:=by
  have:=ord_perm (w:=w) (a:=a) (ep:=ep) (es:=es) |>.length_eq
  simp at this;exact Array.getElem?_eq_none (by omega)
 refine lE hit ho p (wpAny_bind ?_);rw [Int.toNat_natCast];refine xJ ho p hd (Nat.le_refl _) ?_;rw [hz];exact wpAny_bind (wpAny_setField_rec hit (by simp) fun h1 e1 s1=>xK (s:={ s with heap:=h1 }) hh fun h2 k2=>hQ h2 fun b o hb q=>k2 b o (s1.extBut b o hb q))
def aI7 {it T:Addr} {ps:List Nat} {oT:Obj} {nT:Nat} {i j:Nat} {e:Int×Value} {Q:Option Value->Shared->Prop} (hia:a≠it) (hiT:T≠it) (hit:s.heap.get? it=some (itO (.ref T) i (.ref a) es.size ep)) (hT:s.heap.get? T=some oT) (hTd:oT.data=.seq (ps.map fun (x:Nat)=>rawInt x).toArray nT) (hTc:oT.cls=.type "tuple")
  (ho:s.heap.get? a=some o) (p:Parts prog w o es ep t ks) (hj:ps[i]?=some j) (he:es[j]?=some e)
  (hQ:∀ h',h'.get? it=some (itO (.ref T) (i+1) (.ref a) es.size ep)->(∀ b o,b≠it->s.heap.get? b=some o->h'.get? b=some o)->Q (some e.2) { s with heap:=h' }) :
  wpAny (model prog w) A (pyNext (.ref it)) Q E s:=by
 refine lE hit ho p ?_;dsimp only;refine wpAny_bind ?_;unfold seqItems?;dsimp only;refine wpAny_bind (wpAny_load hT ?_);rw [hTd];refine wpAny_pure ?_;dsimp only;rw [show ((ps.map fun (x:Nat)=>rawInt x).toArray)[i]?=some (Value.int j 0) by simp [hj,rawInt]];dsimp only;refine wpAny_bind ?_;unfold setNextDrawn;refine wpAny_bind (gT ho p ?_);dsimp only;rw [if_neg (by simp),Int.toNat_natCast,he];refine wpAny_pure (wpAny_bind (wpAny_setField_rec hit (by simp) fun h1 e1 s1=>wpAny_pure ⟨_,rfl,wpAny_pure (hQ h1 ?_ fun b o hb q=>s1.extBut b o hb q)⟩));rw [bT5] at e1;exact e1
def aS7 {it T:Addr} {ps:List Nat} {oT:Obj} {nT:Nat} {Q:Option Value->Shared->Prop} (hh:A.handled=none) (hl:ps.length=es.size) (hit:s.heap.get? it=some (itO (.ref T) es.size (.ref a) es.size ep)) (hT:s.heap.get? T=some oT) (hTd:oT.data=.seq (ps.map fun (x:Nat)=>rawInt x).toArray nT) (hTc:oT.cls=.type "tuple")
  (ho:s.heap.get? a=some o) (p:Parts prog w o es ep t ks) (hQ:∀ h',(∀ b o,b≠it->s.heap.get? b=some o->h'.get? b=some o)->Q none { s with heap:=h' }):wpAny (model prog w) A (pyNext (.ref it)) Q E s:=by
 refine lE hit ho p ?_;dsimp only;refine wpAny_bind ?_;unfold seqItems?;dsimp only;refine wpAny_bind (wpAny_load hT ?_);rw [hTd];refine wpAny_pure ?_;dsimp only;rw [show ((ps.map fun (x:Nat)=>rawInt x).toArray)[es.size]?=none by simp [hl]];exact wpAny_bind (wpAny_setField_rec hit (by simp) fun h1 e1 s1=>wpAny_bind (wpAny_setField_rec (s:={ s with heap:=h1 }) e1 (by simp) fun h2 e2 s2=>xK (s:={ s with heap:=h2 }) hh fun h3 k3=>hQ h3 fun b o hb q=>k3 b o (s2.extBut b o hb (s1.extBut b o hb q))))
end
end ST

namespace ST
open PySem PySem.Spec PyProof.Rows
def xL:Slot "set_iterator" "__iter__" "set_iterator.__iter__" :=
 .of (owner:="set_iterator") (n:="__iter__") (by rw [typeLookup_type,builtinLookup_eq_fast];kernel_rfl) (by decide +kernel) (by decide +kernel) (by decide +kernel) (by first | exact .inl (by decide +kernel) | exact .inr (by decide +kernel)) (by rw [isSubtype_type];kernel_rfl)
def aS8:entryFor table "set_iterator.__iter__"=some Builtin.«dict_keyiterator.__iter__»:=entryFor_alias (id':="dict_keyiterator.__iter__") (by kernel_rfl) (by decide +kernel) (by decide +kernel) (by kernel_rfl)
def aS9 (a:Value):argsOk "set_iterator.__iter__" ⟨[a],[]⟩:=by
 unfold argsOk;rw [signature?_of (id:="set_iterator.__iter__") (n:=['_','_','r','e','t','i','_','_']) (o:=['r','o','t','a','r','e','t','i','_','t','e','s']) (by kernel_rfl) xI]
 kernel_rfl
section
variable {prog:Program} {w:World} {A:Around} {E:Value->Shared->Prop} {s:Shared} {o:Obj} {es:Array (Int×Value)} {ep:Nat} {t:SetTable} {ks:List Int} {a:Addr}
def xM {it:Addr} {x:Value} {f:Value} {i n:Nat} {Q:Value->Shared->Prop} (st:s.heap.get? it=some (itO f i x n ep)) (hQ:Q (.ref it) s):wpAny (model prog w) A (pyIter (.ref it)) Q E s:=by
 have hT:s.TypeIs (.ref it) "set_iterator":=⟨_,st,rfl⟩;refine wpAny_pyIter_slot hT xL (wpAny_call_entry xL hT aS8 ?_ (aS9 _));show wpAny _ _ (ret (.ref it)) _ _ s;exact wpAny_pure ⟨_,rfl,"set_iterator",_,hT,sl_next.lookup,hQ⟩
def bT6 (hh:A.handled=none) (hd:vG w es t=false) (p:Parts prog w o es ep t ks) (it:Addr) (hia:a≠it) :
  Walks prog w A it [it,a] [it] es.size (fun i v=>((ord w a ep es).toList.map (·.2))[i]?=some v) (fun i h=>h.get? it=some (itO (.int (slt w t i) 0) i (.ref a) es.size ep)/\h.get? a=some o) where
 sub:=fun b hb=>by simp at hb;simp [hb]
 frame:=fun i h h' st k=>⟨k it (by simp) _ st.1,k a (by simp) _ st.2⟩
 item:=fun i s Q E hi st hQ=>by
  have hz:=(ord_perm (w:=w) (a:=a) (ep:=ep) (es:=es)).length_eq;simp at hz;have e1:(ord w a ep es)[i]?=some (ord w a ep es)[i]:=Array.getElem?_eq_getElem (by omega);refine aI6 hd hia st.1 st.2 p e1 fun h' k1 k2=>hQ _ h' s.toks ?_ ⟨k1,k2 a o hia st.2⟩ fun b o hb e=>k2 b o (by simpa using hb) e;rw [List.getElem?_map,Array.getElem?_toList,e1];rfl
 done:=fun s Q E st hQ=>aS6 hh hd st.1 st.2 p fun h' k=>hQ h' s.toks fun b o hb e=>k b o (by simpa using hb) e
 self:=fun i s Q E st hQ=>xM st.1 hQ
def bT7 (hh:A.handled=none) (p:Parts prog w o es ep t ks) (it T:Addr) (ps:List Nat) (hp:ps.Perm (List.range es.size)) (hia:a≠it) (hiT:T≠it) :
  Walks prog w A it [it,a,T] [it] es.size (fun i v=>(ps.filterMap fun j=>es[j]?.map (·.2))[i]?=some v) (fun i h=>h.get? it=some (itO (.ref T) i (.ref a) es.size ep)/\h.get? a=some o/\∃ oT nT,h.get? T=some oT/\oT.data=.seq (ps.map fun (x:Nat)=>rawInt x).toArray nT/\oT.cls=.type "tuple") where
 sub:=fun b hb=>by simp at hb;simp [hb]
 frame:=fun i h h' st k=>⟨k it (by simp) _ st.1,k a (by simp) _ st.2.1,let ⟨oT,nT,e,r⟩:=st.2.2;⟨oT,nT,k T (by simp) _ e,r⟩⟩
 item:=fun i s Q E hi st hQ=>by
  obtain ⟨st1,st2,oT,nT,e,r1,r2⟩:=st;have hl:ps.length=es.size:=by simpa using hp.length_eq
  have hm:∀ j∈ps,∃ x,es[j]?=some x:=fun j hj=>⟨es[j]'(by simpa using hp.mem_iff.mp hj),Array.getElem?_eq_getElem _⟩;have ej:ps[i]?=some ps[i]:=List.getElem?_eq_getElem (by omega);obtain ⟨x,ex⟩:=hm _ (List.getElem_mem (show i < ps.length by omega));refine aI7 hia hiT st1 e r1 r2 st2 p ej ex fun h' k1 k2=>hQ _ h' s.toks ?_ ⟨k1,k2 a o hia st2,oT,nT,k2 T _ hiT e,r1,r2⟩ fun b o hb e=>k2 b o (by simpa using hb) e;have gen:∀ (l:List Nat) (k:Nat) (j:Nat) (x:Int×Value),(∀ j∈l,∃ x,es[j]?=some x)->l[k]?=some j->es[j]?=some x->(l.filterMap fun j=>es[j]?.map (·.2))[k]?=some x.2:=by
   intro l;induction l with
   | nil=>intro k j x _ h;simp at h
   | cons y l ih =>
    intro k j x hm h1 h2;obtain ⟨z,hz⟩:=hm y List.mem_cons_self;rw [List.filterMap_cons,hz];cases k with
    | zero =>
     simp at h1;subst h1;rw [h2] at hz;cases hz;rfl
    | succ k=>exact ih k j x (fun j hj=>hm j (List.mem_cons_of_mem _ hj)) (by simpa using h1) h2
  exact gen ps i _ x hm ej ex
 done:=fun s Q E st hQ=>by
  obtain ⟨st1,st2,oT,nT,e,r1,r2⟩:=st;have hl:ps.length=es.size:=by simpa using hp.length_eq
  exact aS7 hh hl st1 e r1 r2 st2 p fun h' k=>hQ h' s.toks fun b o hb e=>k b o (by simpa using hb) e
 self:=fun i s Q E st hQ=>xM st.1 hQ
theorem xN {α:Type}:∀ (n:Nat) (xs:List α) (s:Shared) (Q:List α->Shared->Prop),n=xs.length->(∀ ys dr,ys.Perm xs->Q ys { s with drawn:=dr })->wpAny (model prog w) A (drawOrder n xs) Q E s
 | 0,xs,s,Q,hn,h=>by
  have:xs=[]:=List.length_eq_zero_iff.mp hn.symm;subst this;unfold drawOrder;exact wpAny_pure (h [] s.drawn (List.Perm.refl _))
 | n+1,[],s,Q,hn,h=>by simp at hn
 | n+1,x::xs,s,Q,hn,h=>by
  unfold drawOrder;have h0:∀ i,i < (x::xs).length->wpAny (model prog w) A (match (x::xs)[i]? with
   | some y=>do
    let r <- drawOrder n ((x::xs).eraseIdx i)
    pure (y::r)
   | none=>unsupported "internal:drawOrder") Q E { s with drawn:=s.drawn.bump .order }:=by
   intro i hi;rw [List.getElem?_eq_getElem hi];refine wpAny_bind (xN n _ _ _ (by rw [List.length_eraseIdx_of_lt hi];simp at hn ⊢;omega) fun ys dr hy=>wpAny_pure (h _ dr ?_));exact (List.Perm.cons _ hy).trans (jA _ _ hi)
  refine wpAny_bind (show wpAny (model prog w) A (choose .order (x::xs).length) _ _ _ from fun Γ p hΓ=>⟨by simp,?_⟩);rw [Sem.wp_pure];exact h0 _ (Nat.mod_lt _ (by simp))
def zN (ps:List Nat) (hp:ps.Perm (List.range es.size)):(ps.filterMap fun j=>es[j]?.map (·.2)).Perm (es.toList.map (·.2)):=by
 refine (hp.filterMap _).trans (List.Perm.of_eq ?_);have:=filterMap_getElem?_range es;rw [<- this,List.map_filterMap]
def aI8 (hh:A.handled=none) (ho:s.heap.get? a=some o) (p:Parts prog w o es ep t ks) {Q:Value->Shared->Prop}
  (h:∀ (I:Addr) (fp:List Addr) (St:Nat->Heap->Prop) (vs:List Value) (h':Heap) dr,vs.Perm (es.toList.map (·.2))->Walks prog w A I fp [I] es.size (fun i v=>vs[i]?=some v) St->St 0 h'->(∀ b o,s.heap.get? b=some o->h'.get? b=some o) ->
   s.heap.objs.size<=I->(∀ b∈fp,b=a\/s.heap.objs.size<=b)->Q (.ref I) { s with heap:=h',drawn:=dr }):wpAny (model prog w) A (pyIter (.ref a)) Q E s:=by
 have hT:s.TypeIs (.ref a) "set":=⟨_,ho,p.ex.1⟩;have hlt:a < s.heap.objs.size:=Heap.lt_size ho;refine wpAny_pyIter_slot hT PySem.F.slot_set_iter (wpAny_call_entry PySem.F.slot_set_iter hT aS4 ?_ (PySem.F.args_set_iter_1 _));unfold Builtin.«frozenset.__iter__»;refine wpAny_bind (wpAny_pure ?_);unfold Builtin.Frozenset.sizeOf;refine wpAny_bind (wpAny_bind (aI5 ho p (wpAny_pure ?_)));refine wpAny_bind (aI4 ho p ?_);cases hd:vG w es t with
 | true =>
  rw [if_pos rfl];refine wpAny_bind (xN _ _ _ _ (by simp) fun ps dr hp=>?_);refine wpAny_bind (wpAny_newTuple (items:=ps.map fun (i:Nat)=>rawInt i) ?_ (by
   have:=hp.length_eq;simp at this ⊢;rw [this];exact fits_of_scanBound p.few))
  unfold newFields;refine wpAny_bind (wpAny_setEpoch_of (Heap.get?_push_of_some _ ho) p.dat p.fit ?_);refine wpAny_bind (wpAny_newObj_type (wpAny_pure ⟨_,rfl,"set_iterator",_,⟨_,Heap.get?_push_size _ rfl,rfl⟩,sl_next.lookup,?_⟩));refine h _ _ _ (ps.filterMap fun j=>es[j]?.map (·.2)) _ dr (zN ps hp) (bT7 hh p _ s.heap.objs.size ps hp (by rw [Heap.size_push];exact Nat.ne_of_lt (Nat.lt_succ_of_lt hlt)) (by rw [Heap.size_push];exact Nat.ne_of_lt (Nat.lt_succ_self _)))
   ⟨Heap.get?_push_size _ rfl,Heap.get?_push_of_some _ (Heap.get?_push_of_some _ ho),_,_,Heap.get?_push_of_some _ (Heap.get?_push_size _ rfl),rfl,rfl⟩ (fun b o e=>Heap.get?_push_of_some _ (Heap.get?_push_of_some _ e)) (by rw [Heap.size_push];exact Nat.le_succ _) fun b hb=>?_
  simp only [List.mem_cons,List.not_mem_nil,or_false] at hb;rcases hb with rfl | rfl | rfl
  ·exact .inr (by rw [Heap.size_push];exact Nat.le_succ _)
  ·exact .inl rfl
  ·exact .inr (Nat.le_refl _)
 | false =>
  rw [if_neg (by simp)];refine wpAny_bind (wpAny_pure ?_);unfold newFields;refine wpAny_bind (wpAny_setEpoch_of ho p.dat p.fit ?_);refine wpAny_bind (wpAny_newObj_type (wpAny_pure ⟨_,rfl,"set_iterator",_,⟨_,Heap.get?_push_size _ rfl,rfl⟩,sl_next.lookup,?_⟩));refine h _ _ _ ((ord w a ep es).toList.map (·.2)) _ s.drawn (ord_perm.map _) (bT6 hh hd p s.heap.objs.size (Nat.ne_of_lt hlt)) ⟨?_,Heap.get?_push_of_some _ ho⟩ (fun b o e=>Heap.get?_push_of_some _ e) (Nat.le_refl _) fun b hb=>?_
  ·simp only [List.mem_cons,List.not_mem_nil,or_false] at hb;rcases hb with rfl | rfl
   ·exact .inr (Nat.le_refl _)
   ·exact .inl rfl
  ·have e0:slt w t 0=0:=by unfold slt;split<;>rfl
   rw [e0];exact Heap.get?_push_size _ rfl
end
end ST

namespace ST
open PySem PySem.Spec PyProof.Rows
section
variable {prog:Program} {w:World} {A:Around} {E:Value->Shared->Prop} {s:Shared} {o:Obj} {es:Array (Int×Value)} {ep:Nat} {t:SetTable} {ks:List Int} {a:Addr}
def aI9 {Q:Bool->Shared->Prop} (hT:s.TypeIs (.ref a) "set") (h:Q false s):wpAny (model prog w) A (Builtin.List.listLengthHint (.ref a)) Q E s:=by
 unfold Builtin.List.listLengthHint;refine wpAny_bind (wpAny_specialOf hT PySem.F.slot_set_len.lookup ?_);generalize hid:("set.__len__":String)=id0
 wp_delta
 rw [show splitId id0=some ("set","__len__") from by subst hid;decide +kernel];subst hid;refine wpAny_bind (wpAny_isInstance (T:="set") (b:=true) hT (by rw [isSubtype_type];kernel_rfl) (wpAny_ite_split (fun z=>absurd z (by decide)) fun _=>wpAny_ite_split (fun _=>?_) fun z=>absurd (by decide +kernel) z));exact wpAny_bind (wpAny_typeOf hT (wpAny_pure h))
def sJ (hh:A.handled=none) (ho:s.heap.get? a=some o) (p:Parts prog w o es ep t ks) {R:List Value->Shared->Prop}
  (h:∀ (vs:List Value) h' dr tk,vs.Perm (es.toList.map (·.2))->s.heap.objs.size<=h'.objs.size->(∀ b o,s.heap.get? b=some o->h'.get? b=some o)->R vs { s with heap:=h',drawn:=dr,toks:=tk }):wpAny (model prog w) A (collect (.ref a)) R E s:=by
 have hn:es.size<=sizeLine:=fits_of_scanBound p.few;have hlt:a < s.heap.objs.size:=Heap.lt_size ho;unfold collect;refine wpAny_bind (wpAny_runValue (codeAny_builtin PySem.F.entry_proto_collect ?_));rw [Around.under_plainId PySem.F.plain_proto_collect _];refine wpAny_bind (wpAny_newObj_type (wpAny_pure ⟨plainId_quiet PySem.F.plain_list_iadd _,codeAny_builtin PySem.F.entry_list_iadd ?_⟩));rw [Around.under_plainId PySem.F.plain_list_iadd _];show wpAny _ _ (Builtin.List.listExtendWith (.ref s.heap.objs.size) (.ref a) (.ref s.heap.objs.size)) _ _ _;unfold Builtin.List.listExtendWith;have ho1:(s.heap.push { cls:=.type "list",data:=.seq ([]:List Value).toArray }).get? a=some o:=Heap.get?_push_of_some _ ho;have hT:Shared.TypeIs { s with heap:=s.heap.push { cls:=.type "list",data:=.seq ([]:List Value).toArray } } (.ref a) "set":=⟨_,ho1,p.ex.1⟩;refine wpAny_bind (wpAny_typeOf hT ?_);have n1:Builtin.List.listSameRef (.ref s.heap.objs.size) (.ref a)=false:=by simp [Builtin.List.listSameRef,Nat.ne_of_gt hlt]
 simp only [n1,show (Value.type "set"==Value.type "list")=false by decide,show (Value.type "set"==Value.type "tuple")=false by decide,Bool.or_false,Bool.false_eq_true,if_false];refine wpAny_bind (aI8 (A:=A.in1) hh ho1 p fun I fp St vs h1 dr hp W st k1 hI hfp=>?_);have hS1:h1.get? s.heap.objs.size=some { cls:=.type "list",data:=.seq #[] }:=k1 _ _ (Heap.get?_push_size _ rfl);have sz:(s.heap.push { cls:=.type "list",data:=.seq ([]:List Value).toArray }).objs.size=s.heap.objs.size+1:=by rw [Heap.size_push]
 have hSf:s.heap.objs.size∉fp:=fun z=>by
  rcases hfp _ z with e | e
  ·exact absurd e (Nat.ne_of_gt hlt)
  ·rw [sz] at e;exact absurd e (Nat.not_succ_le_self _)
 have hIs:s.heap.objs.size < I:=by rw [sz] at hI;exact hI
 refine wpAny_bind (wpAny_holding (aI9 (s:={ s with heap:=h1,drawn:=dr }) ⟨_,k1 a o ho1,p.ex.1⟩ ?_));have key:∀ (h2:Heap) (c:Nat),St 0 h2->(∀ b o,b≠s.heap.objs.size->h1.get? b=some o->h2.get? b=some o)->h2.get? s.heap.objs.size=some { cls:=.type "list",data:=.seq #[] c } ->
   codeAny (model prog w) A (.builtin "list.extend.loop" ⟨[.ref s.heap.objs.size,.ref I,.ref s.heap.objs.size],[]⟩) (fun r s'=>match r with
    | .ok (.ret v)=>wpAny (model prog w) A (do
      let o <- load s.heap.objs.size
      match o.data with
      | .seq xs _=>pure xs.toList
      | _=>unsupported "internal:collect") R E s'/\v=.ref s.heap.objs.size
    | _=>False) { s with heap:=h2,drawn:=dr }:=fun h2 c st2 k2 hS2=>by
  refine codeAny_extend_loopS W.toS hn _ hSf _ es.size 0 _ #[] c rfl (Nat.zero_le _) st2 hS2 (ItemsOf.nil _) fun s' acc c' hm hS' hacc=>⟨wpAny_bind (wpAny_load hS' (wpAny_pure ?_)),rfl⟩;have hv:acc.toList=vs:=by
   apply List.ext_getElem?;intro i
   by_cases hi:i < acc.size
   ·rw [Array.getElem?_toList];have e1:acc[i]?=some acc[i]:=Array.getElem?_eq_getElem hi;rw [e1,hacc.2 i _ e1]
   ·have l1:=hacc.1;have l2:=hp.length_eq;rw [List.getElem?_eq_none (by simp;omega),List.getElem?_eq_none (by simp at l2;omega)]
  have e:=Moved.eq_with hm;rw [e];show R acc.toList _;rw [hv];refine h vs s'.heap dr s'.toks hp (Nat.le_of_lt (Heap.lt_size hS')) fun b o e=>?_;have bl:=Heap.lt_size e;refine hm.heap b o ?_ (k2 b o (Nat.ne_of_lt bl) (k1 b o (Heap.get?_push_of_some _ e)));simp only [List.mem_cons,List.not_mem_nil,or_false,not_or];exact ⟨Nat.ne_of_lt bl,Nat.ne_of_lt (Nat.lt_trans bl hIs)⟩
 refine wpAny_ite_split (fun _=>?_) fun _=>wpAny_pure ⟨plainId_quiet PySem.F.plain_extend_loop _,codeAny_mono (key h1 0 st (fun b o _ e=>e) hS1) fun r s' hr=>?_⟩
 ·refine wpAny_bind (wpAny_rule (wpAny_bind ?_));show wpAny _ _ (updateSeq s.heap.objs.size (·.push .none) >>= fun _=>updateSeq s.heap.objs.size (·.pop)) _ _ _;have hS2:=Heap.get?_update_self (Obj.mapSeq (·.push Value.none)) hS1 rfl;have hS3:=Heap.get?_update_self (Obj.mapSeq (·.pop)) hS2 rfl;have oth:∀ b o,b≠s.heap.objs.size->h1.get? b=some o->((h1.update s.heap.objs.size (Obj.mapSeq (·.push Value.none))).update s.heap.objs.size (Obj.mapSeq (·.pop))).get? b=some o:=fun b o hb e =>
   (Heap.get?_update_other _ _ (Ne.symm hb)).trans ((Heap.get?_update_other _ _ (Ne.symm hb)).trans e)
  refine wpAny_bind (wpAny_updateSeq hS1 rfl (wpAny_updateSeq (hz:=by seq_fits) hS2 rfl (wpAny_pure ⟨plainId_quiet PySem.F.plain_extend_loop _,codeAny_mono (key _ _ (W.frame 0 _ _ st fun b hb o e=>oth b o (fun z=>hSf (by rw [<- z];exact hb)) e) oth hS3) fun r s' hr=>?_⟩)));cases r with
  | error e=>exact hr.elim
  | ok fl =>
   cases fl with
   | ret v=>obtain ⟨q1,rfl⟩:=hr;exact q1
   | _=>exact hr.elim
 ·cases r with
  | error e=>exact hr.elim
  | ok fl =>
   cases fl with
   | ret v=>obtain ⟨q1,rfl⟩:=hr;exact q1
   | _=>exact hr.elim
def aJ0 {vs:List Value} (h:∀ v∈vs,∃ tk,v=.int (nR v) tk):IntsAre vs (vs.map nR):=by
 induction vs with
 | nil=>exact .nil
 | cons v r ih =>
  obtain ⟨tk,e⟩:=h v List.mem_cons_self;have q:=ih fun u hu=>h u (List.mem_cons_of_mem _ hu);rw [List.map_cons];generalize nR v=k at e;subst e;exact .cons _ _ q
def vH (hh:A.handled=none) (hs:SetI prog w s.heap a ks) (h64:ks.length < 64) {Q:Value->Shared->Prop}
  (h:∀ (b:Addr) (vs:List Value) (ns:List Int) (c:Nat) h' dr tk,IntsAre vs ns->ns.Perm ks->ns.Pairwise (·<=·)->s.heap.get? b=none->h'.get? b=some (seqObj "list" vs.toArray c)->(∀ b o,s.heap.get? b=some o->h'.get? b=some o)->Q (.ref b) { s with heap:=h',drawn:=dr,toks:=tk }) :
  wpAny (model prog w) A (call (.builtin "sorted") [.ref a]) Q E s:=by
 obtain ⟨o,es,ep,t,ho,p⟩:=hs;have hl:es.size=ks.length:=by have:=p.ks.length_eq;simpa using this
 refine oR (n:=es.size) (by omega) (fun R hR=>sJ (A:=A.in1) (by simp [hh]) ho p fun vs h' dr tk hp z k=>hR vs (vs.map nR) h' dr tk (aJ0 fun v hv=>?_) ?_ ?_ k) h
 ·obtain ⟨e,he,rfl⟩:=List.mem_map.mp (hp.mem_iff.mp hv);exact vD p.el he
 ·simpa using hp.length_eq
 ·refine (hp.map nR).trans ?_;rw [List.map_map];exact p.ks
end
end ST

namespace ST
open PySem PySem.Spec PyProof.Rows
def bT8 (ns:List Int):(dd ns).length<=ns.length:=by
 rw [<- vF];exact firstMet_length_le _ _
end ST
namespace DL
open PySem PySem.Spec PyProof.Rows L2 CI ST
section
variable {X:Cx} {st:Sta} {d:Nat} {v:Evs} {a:Expr} {p p2 pos pos2:Pos}
def bH2 (S:Snd v) (G:Good X st d) (h1:okC st "sorted"=true) (h2:okC st "set"=true):SF X (.Call (.Name "sorted" p) [.Call (.Name "set" p2) [a] [] pos2] [] pos) (xb (aQ v st [a]) fun ws=>fun _ h=>xSS ws h):=by
 intro κ M δ h s w h' R F e;obtain ⟨ws,hh,e1,e⟩:=aF e;obtain ⟨n1,n2,n3⟩:=cN G h1;refine wpAny_Call_Name_kw (cM (u:=.builtin "sorted") F R n2 n3 (by decide +kernel) n1 ?_);refine PyProof.Rows.callWith_builtin1 (iC (by rfl) ?_) rfl rfl;refine jZ (f:=.type "set") S G h2 (by decide +kernel) (.inr ⟨_,rfl⟩) R F e1 fun {M1 us s1} l1 R1 r1=>?_;have sb:scanBound=4096:=rfl;have fin:∀ {ns:List Int} {h2:Heap} {tk2:Nat},ns.length<=62->SetI X.S.P X.S.w h2 s1.heap.objs.size (dd ns)->(∀ b o,s1.heap.get? b=some o->h2.get? b=some o)->Wp X.S X.A (call (.builtin "sorted") [.ref s1.heap.objs.size]) (Pf X.S κ M hh ((srt (dd ns)).map .int)) NE { s1 with heap:=h2,toks:=tk2 }:=fun {ns h2 tk2} hn si k2=>by
  have hd:=bT8 ns;refine vH G.rm.hd si (by omega) fun b vs' ns' c h3 dr tk hi' hp ho hz hb k=>?_;have e2:=sH hp ho;subst e2;have hlen:=hi'.length;have hpl:=hp.length_eq;have k3:∀ b o,s1.heap.get? b=some o->h3.get? b=some o:=fun b o q=>k b o (k2 b o q);exact ⟨M1,l1,R1.dr h3 dr tk k3,b,vs',c,rfl,hb,R1.new (by cases q:s1.heap.get? b with | none=>rfl | some o=>rw [k2 b o q] at hz;cases hz),by rw [hlen,hpl,sizeLine_eq];omega,kB hi'⟩
 unfold xSS at e;rcases ws with _ | ⟨x,_ | ⟨y,ws⟩⟩
 ·cases e
 ·obtain ⟨u,rfl,ru⟩:=w1 r1;cases x with
  | c _=>cases e
  | d x =>
   cases x with
   | tuple xs =>
    dsimp only at e;obtain ⟨ns,en,e⟩:=bind_some e;obtain ⟨hn,e⟩:=aE e;cases e;obtain ⟨b,vs,n,rfl,z,hz,rr⟩:=dY (h:=h') R1 ru rfl;have hi:=fN en rr;exact eB (b:=true) G.rm.hd (show s1.heap.IsTuple b vs.toArray from eY (R1.z _ _ z)) (by simpa using hi) (by have:=hi.length;simp;omega) fun h2 tk2 si k2=>fin hn si k2
   | list xs =>
    dsimp only at e;obtain ⟨ns,en,e⟩:=bind_some e;obtain ⟨hn,e⟩:=aE e;cases e;obtain ⟨b,vs,n,rfl,ho,hz,rr⟩:=cH (h:=h') R1 ru rfl;have hi:=fN en rr;exact eB (b:=false) G.rm.hd (bK ho).isList (by simpa using hi) (by have:=hi.length;simp;omega) fun h2 tk2 si k2=>fin hn si k2
   | _=>cases e
 ·rcases x with x | _<;>first | (cases e;done) | (cases x<;>cases e)
end
end DL

namespace DL
open PySem PySem.Spec PyProof.Rows L2 CI
section
variable {X:Cx} {st:Sta} {d:Nat} {v:Evs} {κ:Kp} {M:Mp} {δ:DSt} {h h':aA} {s:Shared} {a b c e o tg iter:Expr} {es:List Expr} {pos p p2 apos:Pos} {x m:Str} {w:W}
def xO (h:uG e=false) (o i:Value):subscripted e false o i=operate [o,i] (getItem o i):=by
 cases e<;>first | rfl | cases h
def cH4 (S:Snd v) (G:Good X st d) (hs:uG b=false):SE X (.Subscript a b pos) (xb (v.E st a) fun x=>xb (v.E st b) fun y=>fun _ h=>xIx x y h):=fun _ _ _ _ _ _ _ R F e =>
 Subscript_ (two (S.E G a) (S.E G b) R F e fun R1 _ ra rb e=>bP0 G.rm R1 ra rb e (xO hs))
theorem bT9 (S:Snd v) (G:Good X st d) {f:Str->Option PyData} (hf:jC st a=some f) (hs:uG b=false):SE X (.Subscript a b pos) (xb (v.E st b) fun w=>(match w with
    | .d (.str z)=>(match f z with
     | some i=>aC (.d i)
     | none=>xno)
    | _=>xno)):=by
 intro κ M δ h s w h' R F e;obtain ⟨y,p,p',rfl,hn,hg,hm,T⟩:=aE4 G hf;obtain ⟨x,h1,e1,e⟩:=aF e;refine Subscript_ (jE F R hg hm hn (thn (S.E G b R F e1) fun u s1 ⟨M1,l1,R1,r1⟩=>?_));obtain ⟨g,m,g0,g1,g2⟩:=T.map (prog:=X.S.P) (F.ok.mod.kin.keeps R1.bk);rcases x with (_ | _ | _ | z | _ | _ | _) | _<;>first | cases e;done | skip
 obtain ⟨⟨t,rfl⟩,_⟩:=rep_s.mp (show Rep X.S M1.Z _ _ from r1);have e:(match f z with
  | some i=>aC (.d i)
  | none=>xno:XR W) δ h1=some (w,h'):=e
 cases ei:f z with
 | some i =>
  rw [ei] at e;cases e;obtain ⟨t',q',rq⟩:=g1 z i ei;exact pX m.typeIs PySem.F.slot_dict_getitem.lookup (xO hs _ _) (wpAny_getItem_of (qA z t) m q' (((R1.tok _).pw (w:=.d i) (show Rep X.S M1.Z i t' from Rep.go R1.base rq)).go l1))
 | none=>rw [ei] at e;cases e
def aT1:SE X (.Dict [] [] pos) (aC (.d (.dict []))):=by
 intro κ M δ h s w h' R F e;cases e;refine wpAny_Dict_empty ?_;have hd:(s.heap.push { cls:=.type "dict",data:=.dict #[] }).DictOf (bY X.S.P X.S.w) s.heap.objs.size []:=Heap.DictOf.new s.heap;obtain ⟨o,es,ep,ho,hr⟩:=hd;have R1:Mem X.S κ M h { s with heap:=s.heap.push { cls:=.type "dict",data:=.dict #[] } }:=R.kept (t:=s.toks) fun b o e=>Heap.get?_push_of_some _ e;refine ⟨M.add s.heap.objs.size o,Le.add R.size.1,R1.frz R.size ho,?_⟩;exact (wL (S:=X.S) (Z:=(M.add s.heap.objs.size o).Z) rfl).mpr ⟨_,o,[],rfl,jB,⟨qG F R,Nat.zero_le _,fun h2 e2=>⟨o,es,ep,e2,hr⟩⟩,.nil⟩
def bH3:SE X (.Dict [] [] pos) aY4:=by
 intro κ M δ h s w h' R F e;cases e;refine wpAny_Dict_empty ?_;have hd:(s.heap.push { cls:=.type "dict",data:=.dict #[] }).DictOf (bY X.S.P X.S.w) s.heap.objs.size []:=Heap.DictOf.new s.heap;obtain ⟨o,es,ep,ho,hr⟩:=id hd;have R1:Mem X.S κ M h { s with heap:=s.heap.push { cls:=.type "dict",data:=.dict #[] } }:=R.kept (t:=s.toks) fun b o e=>Heap.get?_push_of_some _ e;exact ⟨M.cel (s.heap.objs.size,s.heap.objs.size),.cel,R1.add R.size R.size ⟨⟨_,ho⟩,_,ho⟩ ⟨[],hd,.nil,qG F R,Nat.zero_le _⟩,(s.heap.objs.size,s.heap.objs.size),by show (M.m++[_])[h.length]?=_;rw [<- R.len];simp,rfl⟩
def bU0 {S:Sx}:BfS S (.builtin "max") xMx:=by
 intro κ M h h' s A E ws us w d hr hK hsm R r e;unfold xMx at e;split at e
 ·cases e;obtain ⟨u,v,rfl,ra,rb⟩:=w2 r;obtain ⟨t,rfl⟩:=wi.mp ra;obtain ⟨t',rfl⟩:=wi.mp rb;rename_i a b;refine max_two_ints hr.hd fun h2 tk k=>(R.kept (t:=tk) k).pw (wi.mpr ?_)
  by_cases z:b > a
  ·rw [if_pos z];exact ⟨t',by rw [Int.max_eq_right (Int.le_of_lt z)]⟩
  ·rw [if_neg z];exact ⟨t,by rw [Int.max_eq_left (Int.not_lt.mp z)]⟩
 ·cases e
def bU1 {S:Sx}:BfS S (.builtin "min") xMn:=by
 intro κ M h h' s A E ws us w d hr hK hsm R r e;unfold xMn at e;split at e
 ·cases e;obtain ⟨u,v,rfl,ra,rb⟩:=w2 r;obtain ⟨t,rfl⟩:=wi.mp ra;obtain ⟨t',rfl⟩:=wi.mp rb;rename_i a b;refine min_two_ints hr.hd fun h2 tk k=>(R.kept (t:=tk) k).pw (wi.mpr ?_)
  by_cases z:b < a
  ·rw [if_pos z];exact ⟨t',by rw [Int.min_eq_right (Int.le_of_lt z)]⟩
  ·rw [if_neg z];exact ⟨t,by rw [Int.min_eq_left (Int.not_lt.mp z)]⟩
 ·cases e
def aT2 {S:Sx} {g:List W->aA->Option (W×aA)} (h:bB9 x=some g):∃ f,bootBuiltins x=some f/\((∃ i,f=.builtin i)\/∃ i,f=.type i)/\BfS S f g:=by
 unfold bB9 at h;split at h
 ·rename_i e;cases h;subst e;exact ⟨_,by decide +kernel,.inl ⟨_,rfl⟩,bP1⟩
 split at h
 ·rename_i e;cases h;subst e;exact ⟨.type "tuple",by decide +kernel,.inr ⟨_,rfl⟩,aP5⟩
 split at h
 ·rename_i e;cases h;subst e;exact ⟨.builtin "all",by decide +kernel,.inl ⟨_,rfl⟩,bP2⟩
 split at h
 ·rename_i e;cases h;subst e;exact ⟨.type "int",by decide +kernel,.inr ⟨_,rfl⟩,bP4⟩
 split at h
 ·rename_i e;cases h;subst e;exact ⟨.builtin "max",by decide +kernel,.inl ⟨_,rfl⟩,bU0⟩
 split at h
 ·rename_i e;cases h;subst e;exact ⟨.builtin "min",by decide +kernel,.inl ⟨_,rfl⟩,bU1⟩
 split at h
 ·rename_i e;cases h;subst e;exact ⟨.builtin "any",by decide +kernel,.inl ⟨_,rfl⟩,bP3⟩
 ·cases h
def aJ1 (S:Snd v) (G:Good X st d):SF X (.Call (.Name x p) (a::es) [] pos) (bL v st (.Call (.Name x p) (a::es) [] pos)):=by
 unfold bL;dsimp only;split
 ·rename_i hx;subst hx;split
  ·rename_i b hb;split
   ·rename_i hc;rw [Bool.and_eq_true,Bool.and_eq_true] at hc;obtain ⟨⟨y,p1,q1,heq⟩,hh,rfl⟩:=Option.map_eq_some_iff.mp (show (rgS _).map (·.1)=_ from hb);clear hh hb;cases heq;exact bS5 S G hc.1.1 hc.1.2 hc.2
   ·exact eO
  ·split
   ·rename_i hc;exact bS2 S G hc
   ·exact eO
 ·split
  ·rename_i hx;subst hx;split
   ·rename_i b hq hqe;clear hqe;obtain ⟨p2,q2,heq⟩:=hq;cases heq;split
    ·rename_i hc;rw [Bool.and_eq_true,Bool.and_eq_true] at hc;exact bH2 S G hc.1.1 hc.1.2
    ·exact eO
   ·split
    ·rename_i hc;exact bT3 S G hc
    ·exact eO
  ·exact eO
def gU (S:Snd v) (G:Good X st d) (e:Expr):SF X e (bL v st e):=by
 cases e with
 | List es p=>exact uL S G
 | ListComp elt gs sc p =>
  rcases gs with _ | ⟨⟨tg,iter,ifs,a⟩,_ | ⟨_,_⟩⟩
  ·exact eO
  ·by_cases ha:a=0
   ·subst ha;exact bE7 S (qJ S) G
   ·have:bL v st (.ListComp elt [⟨tg,iter,ifs,a⟩] sc p)=xno:=if_neg ha;rw [this];exact eO
  ·exact eO
 | Subscript a b p =>
  cases b with
  | Slice lo hi st' p2 =>
   cases st' with
   | none=>exact cH0 S G
   | some k =>
    cases lo with
    | some _=>exact eO
    | none =>
     cases hi with
     | some _=>exact eO
     | none=>exact bS9 S G
  | _=>exact eO
 | BinOp a op b p =>
  cases op with
  | Add=>exact bR6 S G
  | Mult =>
   cases a with
   | List es p'=>exact bR8 S G
   | _=>exact eO
  | _=>exact eO
 | Call f args kw p =>
  cases f with
  | Name x px =>
   rcases args with _ | ⟨a,es⟩
   ·exact eO
   ·rcases kw with _ | ⟨k,ks⟩
    ·exact aJ1 S G
    ·rcases es with _ | ⟨_,_⟩
     ·show SF X _ (if x="sorted" then (if okC st x then aP1 v st a (k::ks) else xno) else xno)
      by_cases hx:x="sorted"
      ·subst hx;rw [if_pos rfl]
       by_cases hc:okC st "sorted"=true
       ·rw [if_pos hc];exact bT4 S G hc
       ·rw [if_neg hc];exact eO
      ·rw [if_neg hx];exact eO
     ·exact eO
  | _=>exact eO
 | _=>exact eO
end
end DL

namespace ST
open PySem PySem.Spec PyProof.Rows
section
variable {prog:Program} {w:World} {A:Around} {E:Value->Shared->Prop} {s:Shared} {R:Result->Shared->Prop}
def dd_len (ns:List Int):(dd ns).length<=ns.length:=by
 rw [<- vF];exact firstMet_length_le _ _
end
end ST
namespace DL
open PySem PySem.Spec PyProof.Rows L2 CI ST
section
variable {X:Cx} {st:Sta} {d:Nat} {v:Evs} {a:Expr} {p p2 pos pos2:Pos}
def aJ2 (G:Good X st d) {x:Str} (h:okB st x=true):(cC st x&&(slot st x).isNone&&st.bl.contains x)=true:=by
 unfold okB at h;rw [Bool.and_eq_true] at h;exact h.1
def bH4 (S:Snd v) (G:Good X st d) (h1:okB st "len"=true) (h2:okB st "set"=true) (hs:aH a=true):SE X (.Call (.Name "len" p) [.Call (.Name "set" p2) [a] [] pos2] [] pos) (xb (aQ v st [a]) fun ws=>fun _ h=>xLS ws h):=by
 intro κ M δ h s w h' R F e;obtain ⟨ws,hh,e1,e⟩:=aF e;obtain ⟨n1,n2,n3⟩:=cN G (aJ2 G h1);refine wpAny_Call_Name_kw (cM (u:=.builtin "len") F R n2 n3 (by decide +kernel) n1 ?_);refine PyProof.Rows.callWith_builtin1 (iC (by rfl) ?_) rfl rfl;refine jZ (f:=.type "set") S G (aJ2 G h2) (by decide +kernel) (.inr ⟨_,rfl⟩) R F e1 fun {M1 us s1} l1 R1 r1=>?_;have sb:scanBound=4096:=rfl;have fin:∀ {ns:List Int} {h2:Heap} {tk2:Nat},ns.length<=62->SetI X.S.P X.S.w h2 s1.heap.objs.size (dd ns)->(∀ b o,s1.heap.get? b=some o->h2.get? b=some o)->Wp X.S X.A (call (.builtin "len") [.ref s1.heap.objs.size]) (Pw X.S κ M hh (.d (.int (dd ns).length))) NE { s1 with heap:=h2,toks:=tk2 }:=fun {ns h2 tk2} hn si k2=>by
  obtain ⟨o,es,ep,tt,ho,pt⟩:=si;have hsz:es.size=(dd ns).length:=by
   have:=pt.ks.length_eq
   simpa using this
  have hd:=dd_len ns;refine call_len_set ho pt.ex pt.dat pt.fit (by omega) ?_;rw [hsz];exact ((R1.kept (t:=tk2) k2).tok _).pi.go l1
 unfold xLS at e;rcases ws with _ | ⟨x,_ | ⟨y,ws⟩⟩
 ·cases e
 ·obtain ⟨u,rfl,ru⟩:=w1 r1;cases x with
  | c _=>cases e
  | d x =>
   cases x with
   | tuple xs =>
    dsimp only at e;cases en:cA xs with
    | none=>rw [en] at e;cases e
    | some ns =>
     rw [en] at e;obtain ⟨hn,e⟩:=aE e;cases e;obtain ⟨b,vs,n,rfl,z,hz,rr⟩:=dY (h:=h') R1 ru rfl;have hi:=fN en rr;exact eB (b:=true) G.rm.hd (show s1.heap.IsTuple b vs.toArray from eY (R1.z _ _ z)) (by simpa using hi) (by have:=hi.length;simp;omega) fun h2 tk2 si k2=>fin hn si k2
   | list xs =>
    dsimp only at e;cases en:cA xs with
    | none=>rw [en] at e;cases e
    | some ns =>
     rw [en] at e;obtain ⟨hn,e⟩:=aE e;cases e;obtain ⟨b,vs,n,rfl,ho,hz,rr⟩:=cH (h:=h') R1 ru rfl;have hi:=fN en rr;exact eB (b:=false) G.rm.hd (bK ho).isList (by simpa using hi) (by have:=hi.length;simp;omega) fun h2 tk2 si k2=>fin hn si k2
   | _=>cases e
 ·rcases x with x | _<;>first | (cases e;done) | (cases x<;>cases e)
end
end DL

namespace DL
open PySem PySem.Spec PyProof.Rows L2 CI
section
variable {X:Cx} {st:Sta} {d:Nat} {v:Evs} {κ:Kp} {M:Mp} {δ:DSt} {h h':aA} {s:Shared} {a b c e o tg iter:Expr} {es:List Expr} {pos p p2 apos:Pos} {x m:Str} {w:W}
def bH5 (S:Snd v) (G:Good X st d) {p:Pos} {args:List Expr} (hx:(cC st "isinstance"&&(slot st "isinstance").isNone&&st.bl.contains "isinstance")=true):SE X (.Call (.Name "isinstance" p) args [] pos) (bC6 v st args):=by
 unfold bC6;cases bO5 args with
 | some y =>
  obtain ⟨⟨e,T⟩,q,rfl⟩:=y;dsimp only;split
  ·rename_i hc;simp only [Bool.and_eq_true] at hc;split
   ·rename_i Ts hT;exact bS3 S G hx hc.1.1.1 (by rw [hc.1.1.2,hc.1.2,hc.2];rfl) hT
   ·exact bV
  ·exact bV
 | none =>
  cases bO6 args with
  | some y =>
   obtain ⟨e,q1,q2,k,r,rfl⟩:=y;dsimp only;split
   ·rename_i hc;simp only [Bool.and_eq_true] at hc;exact bF9 S G hx hc.1.1 hc.1.2 hc.2
   ·exact bV
  | none=>exact bV
def bU2 (S:Snd v) (G:Good X st d) {o:Expr} {m:Str} {apos:Pos} {args:List Expr}:SE X (.Call (.Attribute o m apos) args [] pos) (bC7 v st o m apos pos args):=by
 unfold bC7;split
 ·rename_i hc;rw [Bool.and_eq_true] at hc;rcases args with _ | ⟨a,es⟩
  ·exact bV
  ·dsimp only;split
   ·rename_i hm;subst hm;rcases es with _ | ⟨_,_⟩
    ·dsimp only;split
     ·exact bS6 S G hc.1 hc.2
     ·exact bV
    ·exact bV
   ·split
    ·rename_i hm;subst hm;rcases es with _ | ⟨_,_⟩
     ·dsimp only;split
      ·rename_i hs;exact bS7 S G hc.1 hc.2 hs
      ·exact bV
     ·exact bV
    ·split
     ·rename_i hn;split
      ·rename_i g hg;exact bG0 S G hg hc.1 hc.2 (by simpa using hn)
      ·exact bV
     ·exact bV
 ·exact bV
def bH6 (S:Snd v) (G:Good X st d) {f:Expr} {args:List Expr}:SE X (.Call f args [] pos) (wP v st f args pos):=by
 cases f with
 | Name x p =>
  unfold wP;dsimp only;split
  ·rename_i ht;rw [Bool.and_eq_true] at ht;split
   ·rename_i m hm;rcases args with _ | ⟨a,es⟩
    ·exact bV
    ·exact bR9 S G ht.1 (G.fnW _ _ hm)
   ·split
    ·rename_i C m hm;rcases args with _ | ⟨a,es⟩
     ·exact bV
     ·exact cH1 S G ht.1 hm
    ·split
     ·rename_i m hm;rcases args with _ | ⟨a,es⟩
      ·exact bV
      ·refine aF6 G ht.1 (G.fn _ _ hm) (fa:=if (st.ac x).isEmpty=true then aQ v st (a::es) else iT v st (st.ac x) 0 (a::es)) ?_ fun {δ h r} e=>?_
       ·split
        ·exact cD S G _
        ·exact wZ S G _ _ _
       ·split at e
        ·exact cI e
        ·exact mK e
     ·split
      ·rename_i hbl;have hx:(cC st x&&(slot st x).isNone&&st.bl.contains x)=true:=by rw [ht.1,ht.2,hbl];rfl
       split
       ·rename_i g hg;rcases args with _ | ⟨a,es⟩
        ·exact bV
        ·obtain ⟨f,h1,h2,h3⟩:=aT2 (S:=X.S) hg;exact cH3 S G hx h1 h2 h3
       ·split
        ·rename_i hi;subst hi;exact bH5 S G hx
        ·rcases args with _ | ⟨a,es⟩
         ·exact kJ eO
         ·exact kJ (aJ1 S G)
      ·exact bV
  ·split
   ·rcases args with _ | ⟨a,es⟩
    ·exact bV
    ·exact bF1 S G
   ·exact bV
 | Attribute o m apos =>
  unfold wP;dsimp only;split
  ·rename_i C g hm;rcases args with _ | ⟨a,es⟩
   ·exact bV
   ·dsimp only;split
    ·rename_i hc;simp only [Bool.and_eq_true,decide_eq_true_eq] at hc;exact cH2 S G hm hc.1.1.1 (by rw [hc.1.1.2]) hc.1.2 hc.2
    ·exact bV
  ·exact bU2 S G
 | _=>exact bV
def bH7 (S:Snd v) (G:Good X st d) {f:Expr} {args:List Expr}:SE X (.Call f args [] pos) (aC6 v st f args pos):=by
 unfold aC6;cases hq:fuS f args with
 | none=>exact bH6 S G
 | some y =>
  obtain ⟨a,p,p2,q,rfl,rfl⟩:=y;dsimp only;split
  ·rename_i hc;simp only [Bool.and_eq_true] at hc;exact bH4 S G hc.1.1 hc.1.2 hc.2
  ·exact bV
def bH8 (S:Snd v) (G:Good X st d) (e:Expr):SE X e (rU v st e):=by
 cases e with
 | Name x p=>exact aE2 G
 | Constant c k p=>exact aQ0
 | BinOp a op b p =>
  unfold rU;dsimp only;split
  ·rename_i es p';have:bL v st (.BinOp (.List es p') .Mult b p')=bL v st (.BinOp (.List es p') .Mult b p):=rfl;rw [this];exact kJ (gU S G _)
  ·exact bQ0 S G
 | Compare a ops cs p=>exact bF6 S G
 | BoolOp op vs p =>
  cases op with
  | And=>exact aE3 S G vs
  | Or=>exact aY7 S G vs
 | UnaryOp op a p =>
  cases op with
  | Not=>exact bQ1 S G
  | USub=>exact bQ2 S G
  | _=>exact bV
 | IfExp c a b p=>exact bQ3 S G
 | Tuple es k p=>exact bQ7 S G
 | List es p=>exact kJ (gU S G _)
 | ListComp elt gs sc p =>
  show SE X _ (match gW st gs with
   | some (tg,iter,ifs)=>pS v st elt tg iter ifs sc
   | none=>aN (bL v st (.ListComp elt gs sc p)))
  split
  ·rename_i tg iter ifs e;rw [bR5 e];exact aQ9 S G
  ·exact kJ (gU S G _)
 | Subscript a b p =>
  unfold rU;dsimp only;split
  ·exact bR7 S G
  ·rename_i k q;exact kJ (gU S G (.Subscript a (.Slice none none (some k) q) p))
  ·split
   ·exact bV
   ·rename_i hs;have hs:uG b=false:=by simpa using hs
    split
    ·rename_i f hf;exact bT9 S G hf hs
    ·exact cH4 S G hs
 | Call f args kw p =>
  rcases kw with _ | ⟨k,ks⟩
  ·exact bH7 S G
  ·exact kJ (gU S G _)
 | Attribute o f p =>
  unfold rU;dsimp only;split
  ·rename_i ho;exact bS0 S G ho
  ·exact bV
 | Dict ks vs p =>
  rcases ks with _ | ⟨_,_⟩
  ·rcases vs with _ | ⟨_,_⟩
   ·exact aT1
   ·exact bV
  ·exact bV
 | _=>exact bV
theorem aZ2 (S:Snd v) (G:Good X st d) (he:∀ whole,isTrue e X.env whole=(do let v <- whole;standAt e.pos;holding [v] (truthy v))):ST X e (xb (v.E st e) fun w=>(match w with
  | .d (.bool b)=>aC b
  | _=>xno)):=by
 intro κ M δ h s w h' R F e';obtain ⟨x,h1,e1,e'⟩:=aF e';refine isTrue_plain (thn (S.E G e R F e1) fun u s1 ⟨M1,l1,R1,r1⟩=>?_) (he _);rcases x with (_ | b | _ | _ | _ | _ | _) | _<;>first | cases e';done | skip
 cases e';cases wb.mp r1;exact wpAny_truthy_bool ⟨rfl,M1,l1,R1⟩
def bH9 (S:Snd v) (G:Good X st d) (e:Expr):ST X e (aY3 v st e):=by
 cases e with
 | UnaryOp op a p =>
  cases op with
  | Not =>
   intro κ M δ h s w h' R F e;obtain ⟨x,h1,e1,e⟩:=aF (show xb (v.T st a) (fun b=>aC (!b)) δ h=some (w,h') from e);cases e;exact isTrue_not (thn (S.T G a R F e1) fun c s1 ⟨ec,q⟩=>⟨by rw [ec],q⟩)
  | _=>exact aZ2 S G fun _=>rfl
 | BoolOp op vs p =>
  cases op with
  | And=>exact aY8 S G vs _
  | Or=>exact bQ4 S G vs _
 | Compare a ops cs p=>exact bQ6 S G
 | IfExp a b c p=>exact fun _ _ _ _ _ _ _ _ _ e=>by cases e
 | _=>exact aZ2 S G fun _=>rfl
def zO:SG X e (fun _ _ _=>none):=fun _ _ _ _ _ _ _ _ _ _ _ _ e=>by cases e
def vI (h:uG b=false) (v:Value):assign (.Subscript a b pos) X.env v=(do
   let ov <- holding [v] (eval a X.env)
   let iv <- holding [v,ov] (eval b X.env)
   standAt pos
   holding [v,ov,iv] (setItem ov iv v)
   release [v,ov,iv] []):=by
 cases b<;>first | rfl | cases h
def bI0 (S:Snd v) (G:Good X st d) (e:Expr):SG X e (rV v st e):=by
 cases e with
 | Name x p =>
  unfold rV;dsimp only;split
  ·rename_i i hi;split
   ·rename_i hl;exact bE3 G hi hl
   ·exact zO
  ·exact zO
 | Tuple es k p =>
  unfold rV;dsimp only;split
  ·rename_i hs;exact bR1 S G hs
  ·exact zO
 | Subscript a b p =>
  unfold rV;dsimp only;split
  ·exact zO
  ·rename_i hs;exact bR2 S G (vI (by simpa using hs))
 | _=>exact zO
end
end DL

namespace DL
open PySem PySem.Spec PyProof.Rows L2 CI
section
variable {X:Cx} {st:Sta} {d:Nat} {v:Evs} {κ:Kp} {M:Mp} {δ:DSt} {h h':aA} {s:Shared} {a b c e o tg iter:Expr} {es:List Expr} {pos p p2 apos px:Pos} {x m:Str} {w:W} {i:Nat}
def mT (h:iX e=false) (t:Option Expr) (l:Nat) (env:Env):swapsWith e t l env=pure false:=by
 cases e<;>first | rfl | cases h
def sK (F:Fra X κ M δ) (G:Good X st d) {elt:Expr} {gs:List Comprehension} {sc:Scope} {l:Nat} :
  swapsWith (.ListComp elt gs sc p) (some (.Name x px)) l X.env=pure (swB st (.ListComp elt gs sc p) x px):=by
 show (pure (X.env.blockKind==.function&&X.env.kindOf x==some .local&&px.line==p.line&&!(sc.names.any fun (n,k)=>n==x&&(k==.local||k==.cell))):Sem Bool)=_;unfold swB;dsimp only;have e1:(X.env.blockKind==.function)=true:=by unfold Env.blockKind;rw [F.ok.kind];rfl
 have e2:(X.env.kindOf x==some .local)=cS st.S x:=by
  unfold Env.kindOf cS;rw [G.S];cases q:st.S.names.lookup x with
  | none=>rfl
  | some k=>cases k<;>rfl
 rw [e1,e2,Bool.true_and]
def vJ (h:aP2 e tg=false) (env:Env):swappedStores [tg] e env=pure none:=by
 cases tg<;>first | rfl | (cases e<;>first | rfl | cases h)
def aT3 (h:aH e=true) (env:Env):(assignEach [e] env).map (·.2)=[assign e env]:=by
 cases e<;>first | rfl | cases h
def xP {f:XR W} (G:Good X st d) (he:SE X e f) (hi:slot st x=some i) (hl:(pQ st.S x&&(st.top||cS st.S x))=true) (hs:∀ ⦃κ M δ⦄,Fra X κ M δ->swapsWith e (some (.Name x px)) pos.line X.env=pure false):SS X (.Assign [.Name x px] e pos) (aO i f):=by
 intro κ M δ h s fl h' R F e';obtain ⟨⟨w,h1⟩,e1,e'⟩:=bind_some e';cases e';obtain ⟨hx,hf⟩:=aE1 G hl;refine wpAny_Assign_Name (thn (he R F e1) fun u s1 ⟨M1,l1,R1,r1⟩=>?_) (hs F);exact aD8 (F.go l1) R1 (lB G hi) hx hf r1 fun s2 κ2 o2 R2 F2 _=>⟨κ2,M1,o2,l1,R2,F2⟩
def aJ3 (S:Snd v) (G:Good X st d) (hi:slot st x=some i) (hl:(pQ st.S x&&(st.top||cS st.S x))=true) (hc:iX e=true) (hs:(swB st e x px||!(cS st.S x))=true) {f:XR W}
  (hf:f=aV (bL v st e)\/f=aN (bL v st e)):SS X (.Assign [.Name x px] e pos) (aO i f):=by
 have no:∀ {e:Expr},f=aV (bL v st e)\/f=aN (bL v st e)->(∀ δ h,bL v st e δ h=none)->SS X (.Assign [.Name x px] e pos) (aO i f):=fun {e} hf n κ M δ h s fl h' R F e'=>by
  obtain ⟨⟨w,h1⟩,e1,e'⟩:=bind_some e';rcases hf with rfl | rfl<;>(obtain ⟨q,e2,_⟩:=bind_some (show (bL v st e δ h).bind _=_ from e1);rw [n] at e2;cases e2)
 cases e with
 | ListComp elt gs sc p =>
  by_cases hw:swB st (.ListComp elt gs sc p) x px=true
  ·rcases gs with _ | ⟨⟨tg,iter,ifs,a⟩,_ | ⟨_,_⟩⟩
   ·exact no hf fun _ _=>rfl
   ·by_cases ha:a=0
    ·subst ha
     by_cases hcc:(lT st.N sc st.S&&!gO iter)=true
     ·have e0:bL v st (.ListComp elt [⟨tg,iter,ifs,0⟩] sc p)=xb (oG v st tg iter) fun p=>fun δ h=>aG (v.G (st.blk sc) tg) (yR v (st.blk sc) ifs) (v.E (st.blk sc) elt) p.2 p.1 p.1 (aK (dO st.N sc) δ) h []:=by
       show kH v st elt tg iter ifs sc=_;unfold kH;rw [if_pos hcc]
      rw [Bool.and_eq_true] at hcc;have hset:gO iter=false:=by simpa using hcc.2
      have hloc:st.S.names.lookup x=some .local:=by
       unfold swB at hw;simp only [Bool.and_eq_true] at hw;have h1:=hw.1.1;unfold cS at h1;split at h1
       ·assumption
       ·cases h1
      intro κ M δ h s fl h' R F e';obtain ⟨⟨w,h2⟩,e1,e'⟩:=bind_some e';cases e';have run:∀ {xs:List PyData} {h1:aA},bL v st (.ListComp elt [⟨tg,iter,ifs,0⟩] sc p) δ h=some (xs,h1)->(∀ {κ:Kp} {M:Mp} {u:Value} {s:Shared},Pf X.S κ M h1 xs u s->Pw X.S κ M h2 w u s)->Wp X.S X.A (exec (.Assign [.Name x px] (.ListComp elt [⟨tg,iter,ifs,0⟩] sc p) pos) X.env) (Ps X κ M h2 (.nx (δ.set i (some w)))) NE s:=fun {xs h1} e2 cv=>by
       rw [e0] at e2;obtain ⟨⟨all,c⟩,h0,e3,e4⟩:=aF e2;exact bE6 G.rm.hd (by rw [G.S,G.N];exact jH hcc.1) (qJ S G tg iter) (fun cl C=>S.G (bR G cl C) tg) (fun cl C=>qD S (bR G cl C) ifs) (fun cl C=>S.E (bR G cl C) elt) (mI hset _) R F e3 (jG e4) (fun p=>cv (bR3 p)) (lB G hi) (by rw [G.S];exact hloc) (by rw [sK F G,hw])
      rcases hf with rfl | rfl
      ·obtain ⟨⟨xs,h1⟩,e2,e5⟩:=bind_some (show (bL v st _ δ h).bind _=_ from e1);cases e5;exact run e2 fun p=>aC8 p
      ·obtain ⟨⟨xs,h1⟩,e2,e5⟩:=bind_some (show (bL v st _ δ h).bind _=_ from e1);cases e5;exact run e2 fun p=>pT p
     ·exact no hf fun δ h=>by
       show kH v st elt tg iter ifs sc δ h=none;unfold kH;rw [if_neg hcc];rfl
    ·exact no hf fun δ h=>by
      show (if a=0 then kH v st elt tg iter ifs sc else xno) δ h=none;rw [if_neg ha];rfl
   ·exact no hf fun _ _=>rfl
  ·have hw':swB st (.ListComp elt gs sc p) x px=false:=by simpa using hw
   refine xP G ?_ hi hl fun κ M δ F=>by rw [sK F G,hw']
   rcases hf with rfl | rfl
   ·exact mJ (gU S G _)
   ·exact kJ (gU S G _)
 | SetComp elt gs sc p=>exact no hf fun _ _=>rfl
 | DictComp k w gs sc p=>exact no hf fun _ _=>rfl
 | _=>cases hc
def bU3 (S:Snd v) (G:Good X st d) (hc:iX e=false) (ht:aP2 e tg=false) (hn:aH tg=true):SS X (.Assign [tg] e pos) fun δ h=>((if cvS st tg e=true then aV (v.F st e) else v.E st e) δ h).bind fun p=>(v.G st tg p.1 δ p.2).bind fun q=>some (.nx q.1,q.2):=by
 have he:SE X e (if cvS st tg e=true then aV (v.F st e) else v.E st e):=by
  split
  ·exact mJ (S.F G e)
  ·exact S.E G e
 intro κ M δ h s fl h' R F e';obtain ⟨⟨w,h1⟩,e1,e'⟩:=bind_some e';obtain ⟨⟨δ2,h2⟩,e2,e'⟩:=bind_some e';cases e';refine wpAny_Assign_stores (thn (he R F e1) fun u s1 ⟨M1,l1,R1,r1⟩=>?_) (mT hc _ _ _) (vJ ht _);rw [aT3 hn];exact thn (S.G G tg R1 (F.go l1) r1 e2) fun _ s2 ⟨κ2,M2,o2,l2,R2,F2⟩=>⟨κ2,M2,o2,l1.trans l2,R2,F2⟩
def bI1 (S:Snd v) (G:Good X st d) (t:Stmt):SS X t (rW v st t):=by
 have one:∀ (tg e:Expr) (pos:Pos),SS X (.Assign [tg] e pos) (if (iX e||aP2 e tg||!(aH tg))=true then fun _ _=>none else fun δ h=>((if cvS st tg e=true then aV (v.F st e) else v.E st e) δ h).bind fun p=>(v.G st tg p.1 δ p.2).bind fun q=>some (.nx q.1,q.2)):=fun tg e pos=>by
  split
  ·exact kQ
  ·rename_i hc;simp only [Bool.or_eq_true,not_or,Bool.not_eq_true,Bool.not_eq_true',Bool.not_eq_false] at hc;exact bU3 S G hc.1.1 hc.1.2 (by simpa using hc.2)
 cases t with
 | Return o p =>
  cases o with
  | none=>exact kQ
  | some e =>
   refine bQ9 (f:=if st.cv.contains "return"=true then bO8 v st e else v.E st e) ?_;split
   ·exact mJ (S.F G e)
   ·exact S.E G e
 | If c a b p=>exact cG9 S G
 | Expr e p =>
  unfold rW;dsimp only;split
  ·exact kQ
  ·rename_i hc;exact bE2 S G (mT (by simpa using hc) _ _ _)
 | Pass p=>exact fun _ _ _ _ _ _ _ R F e=>by cases e;exact wpAny_Pass ⟨_,_,.refl,.refl,R,F⟩
 | Break p=>exact fun _ _ _ _ _ _ _ R F e=>by cases e;exact wpAny_Break ⟨_,_,.refl,.refl,R,F⟩
 | Continue p=>exact fun _ _ _ _ _ _ _ R F e=>by cases e;exact wpAny_Continue ⟨_,_,.refl,.refl,R,F⟩
 | For tg iter body els p =>
  rcases els with _ | ⟨_,_⟩
  ·unfold rW;dsimp only;split
   ·exact kQ
   ·rename_i hs;exact bR0 G.rm.hd (qJ S G tg iter) (S.G G tg) (sB S G body) (mI (by simpa using hs) _)
  ·exact kQ
 | Assign tgs e p =>
  rcases tgs with _ | ⟨tg,_ | ⟨_,_⟩⟩
  ·exact kQ
  ·cases tg with
   | Name x px =>
    unfold rW;dsimp only;split
    ·rename_i i hi;split
     ·rename_i hl;split
      ·rename_i hc;split
       ·rename_i hw;split
        ·exact aJ3 S G hi hl hc hw (.inl rfl)
        ·exact aJ3 S G hi hl hc hw (.inr rfl)
       ·exact kQ
      ·rename_i hc;have hsw:∀ ⦃κ M δ⦄,Fra X κ M δ->swapsWith e (some (.Name x px)) p.line X.env=pure false:=fun _ _ _ _=>mT (by simpa using hc) _ _ _;split
       ·rename_i hz;rw [Bool.and_eq_true] at hz;have hd:∃ pp,e=.Dict [] [] pp:=by
         have:=hz.2;cases e<;>first | (cases this;done) | skip
         rename_i ks vs pp;cases ks<;>cases vs<;>first | exact ⟨_,rfl⟩ | cases this
        obtain ⟨pp,rfl⟩:=hd;exact xP G bH3 hi hl hsw
       ·split
        ·exact xP G (mJ (S.F G e)) hi hl hsw
        ·exact xP G (S.E G e) hi hl hsw
     ·exact kQ
    ·exact kQ
   | Attribute o f pa=>exact bS1 S G (bS8 S G) (by cases e<;>rfl)
   | _=>exact one _ _ _
  ·cases tg<;>exact kQ
 | _=>exact kQ
end
def aJ4 {v:Evs} (S:Snd v):Snd (step v):=⟨fun G=>bH8 S G,fun G=>bH9 S G,fun G=>gU S G,fun G=>bI0 S G,fun G=>bI1 S G⟩
def bI2:Snd Evs.no:=⟨fun _ _=>bV,fun _ _ _ _ _ _ _ _ _ _ _ e=>(by cases e),fun _ _=>eO,fun _ _=>zO,fun _ _=>kQ⟩
theorem xQ:∀ n,Snd (evs n)
 | 0=>bI2
 | n+1=>aJ4 (xQ n)
end DL

namespace DL
open PySem PySem.Spec PyProof.Rows L2 CI
def zip_fst {α β:Type} {a:α} {b:β} {l:List α} {r:List β} (h:(a,b)∈l.zip r):a∈l:=(List.of_mem_zip h).1
section
variable {kd:Str->Option NameKind} {x:Str} {v:Value}
theorem jL:∀ {bs:List (Str×Value)} {m:Str->Option Value},(∀ v,(x,v)∉bs)->bindL kd bs m x=m x/\bindC kd bs m x=m x
 | [],_,_=>⟨rfl,rfl⟩
 | (n,v)::r,m,h=>by
  unfold bindL bindC;have ne:x≠n:=by rintro rfl;exact h v List.mem_cons_self
  rw [(jL fun w hw=>h w (List.mem_cons_of_mem _ hw)).1,(jL fun w hw=>h w (List.mem_cons_of_mem _ hw)).2];constructor<;>split<;>simp [ne]
theorem mU:∀ {P:List Str} {vs:List Value} {i:Nat} {m:Str->Option Value},P.Nodup->P[i]?=some x->vs[i]?=some v->(kd x=some .local->bindL kd (P.zip vs) m x=some v)/\(kd x≠some .local->bindC kd (P.zip vs) m x=some v)
 | [],_,_,_,_,h,_=>by simp at h
 | _::_,[],_,_,_,_,h=>by simp at h
 | p::P,w::vs,0,m,nd,h1,h2=>by
  simp at h1 h2;subst h1;subst h2;have no:∀ v,(p,v)∉P.zip vs:=fun v hv=>(List.nodup_cons.mp nd).1 (zip_fst hv);refine ⟨fun hk=>?_,fun hk=>?_⟩
  ·show bindL kd ((p,w)::P.zip vs) m p=_;unfold bindL;rw [(jL no).1,if_pos hk];simp
  ·show bindC kd ((p,w)::P.zip vs) m p=_;unfold bindC;rw [(jL no).2,if_neg hk];simp
 | p::P,w::vs,i+1,m,nd,h1,h2=>by
  have ih:=fun m=>mU (i:=i) (m:=m) (List.nodup_cons.mp nd).2 (by simpa using h1) (by simpa using h2);refine ⟨fun hk=>?_,fun hk=>?_⟩
  ·show bindL kd ((p,w)::P.zip vs) m x=_;unfold bindL;exact (ih _).1 hk
  ·show bindC kd ((p,w)::P.zip vs) m x=_;unfold bindC;exact (ih _).2 hk
end
def zP {N:List Str} {ws:List W} {i:Nat} {w:W} (h:(dK N ws)[i]?=some (some w)):ws[i]?=some w:=by
 unfold dK at h
 by_cases hi:i < ws.length
 ·rw [List.getElem?_append_left (by simpa using hi),List.getElem?_map] at h;cases e:ws[i]? with
  | none=>rw [e] at h;cases h
  | some a=>rw [e] at h;cases h;rfl
 ·rw [List.getElem?_append_right (by simpa using hi),List.getElem?_replicate] at h;split at h<;>cases h
structure FnSc (t:Stmt):Prop where
 kind:(defScope t).kind=.function
 co:(defScope t).isCoroutine=false
 gen:(defScope t).isGenerator=false
 nd:(bW t).Nodup
 par:∀ x∈parsOf t,Loc (defScope t) x
 nofree:∀ y∈(defScope t).names,y.2≠.free
def bU4 {t:Stmt} (h:fnB t=true):FnSc t:=by
 unfold fnB at h;simp only [Bool.and_eq_true,decide_eq_true_eq,List.all_eq_true,Bool.not_eq_true'] at h;obtain ⟨h1,h2,h3,h4,h5,h6⟩:=h;refine ⟨h1,h2,h3,h4,fun x hx=>?_,fun y hy e=>?_⟩
 ·have:=h5 x hx;unfold pQ at this;split at this
  ·rename_i q;exact .inl q
  ·rename_i q;exact .inr q
  ·cases this
 ·have:=h6 y hy;rw [e] at this;cases this
def aT4 {t:Stmt} {i:Nat} {y:Str} (e:(bW t)[i]?=some y) (hi:i < (parsOf t).length):(parsOf t)[i]?=some y:=by
 unfold bW at e
 rwa [List.getElem?_append_left hi] at e
abbrev cxF (S:Sx) (t:Stmt) (q:Str) (L f:Addr) (cd:Value) (A:Around):Cx:=⟨S,A.deeper (envOfC q (defScope t) L f cd),bW t,envOfC q (defScope t) L f cd,true⟩
section
variable {S:Sx} {κ:Kp} {M:Mp} {h h':aA} {s s1:Shared} {A:Around} {t:Stmt} {q:Str} {f:Addr} {cd:Value} {us:List Value} {ws:List W}
def zQ (FS:FnSc t) (md:Mod S) (hz:S.base.objs.size<=s.heap.objs.size) (hl:ws.length=(parsOf t).length) (fo:FrO κ A) (R:Mem S κ M h s) (r:RepWs S M ws us)
  (x:InCallC s s.heap.objs.size (bindL (envOfC q (defScope t) s.heap.objs.size f cd).kindOf ((parsOf t).zip us) fun _=>none) (cellsFrom (s.heap.objs.size+1) (defScope t).names []) (bindC (envOfC q (defScope t) s.heap.objs.size f cd).kindOf ((parsOf t).zip us) fun _=>none) s1) :
  ∃ κ1,Mem S κ1 M h s1/\Fra (cxF S t q s.heap.objs.size f cd A) κ1 M (dK (bW t) ws)/\∀ κ2,Own (cxF S t q s.heap.objs.size f cd A) κ1 κ2->∀ a y,κ a=some y->κ2 a=some y:=by
 obtain ⟨h1,tk,rfl,hk⟩:=x.done;have R1:Mem S κ M h { s with heap:=h1,toks:=tk }:=R.kept hk
 let fp:=(cellsFrom (s.heap.objs.size+1) (defScope t).names []).map (·.2)
 have up:∀ b∈fp,s.heap.objs.size < b:=fun b hb=>by
  obtain ⟨⟨n,c⟩,hm,rfl⟩:=List.mem_map.mp hb;exact x.above n c hm
 have fr:∀ b∈fp,bA κ M b:=fun b hb=>R.new (Heap.get?_none_of_le (Nat.le_of_lt (up b hb)));have R2:=R1.pin fr;obtain ⟨o,es,ep,ho,hd,hs,hf⟩:=x.toInCall.ns;have f0:=R.size;have R3:=R2.more (b:=false) ⟨f0.1,f0.2.2⟩ ho;have mem:∀ y c,(cellsFrom (s.heap.objs.size+1) (defScope t).names []).lookup y=some c->c∈fp:=fun y c e=>List.mem_map.mpr ⟨_,PySem.mem_of_lookup e,rfl⟩;have kc:∀ y c,(cellsFrom (s.heap.objs.size+1) (defScope t).names []).lookup y=some c->∃ oc,((eM κ fp h1).up s.heap.objs.size (false,o)) c=some (true,oc)/\oc.data=.cell (bindC (envOfC q (defScope t) s.heap.objs.size f cd).kindOf ((parsOf t).zip us) (fun _=>none) y):=fun y c e=>by
  obtain ⟨oc,h2,h3⟩:=x.cell y c e;have h2:h1.get? c=some oc:=h2;refine ⟨oc,?_,h3⟩;rw [bJ (Nat.ne_of_gt (up c (mem y c e)))];unfold eM;rw [if_pos (mem y c e),h2];rfl
 have has:∀ {y:Str},(defScope t).names.lookup y=some .cell->∃ c,(cellsFrom (s.heap.objs.size+1) (defScope t).names []).lookup y=some c:=fun hy=>Option.isSome_iff_exists.mp (PySem.W.cellsFrom_some _ _ _ (.inl hy));have ndP:(parsOf t).Nodup:=(List.sublist_append_left _ _).nodup FS.nd;refine ⟨_,R3,⟨⟨md,FS.kind,rfl,rfl,fun y z c a b=>name_of_addr x.apart (PySem.mem_of_lookup a) (PySem.mem_of_lookup b),fun y hy=>?_,hz,FS.nd⟩,?_,⟨o,_,eK,⟨es,ep,hd,hs,hf⟩,fun i y w e1 e2 e3=>?_⟩,fun y c e=>?_,?_⟩,fun κ2 own a y ea=>?_⟩
 ·have hy:(defScope t).names.lookup y=some .cell\/(defScope t).names.lookup y=some .free:=hy;rcases hy with hy | hy
  ·exact has hy
  ·exact absurd rfl (FS.nofree _ (PySem.mem_of_lookup hy))
 ·show (dK (bW t) ws).length=(bW t).length;unfold dK;rw [List.length_append,List.length_map,List.length_replicate,hl];have:(parsOf t).length<=(bW t).length:=by unfold bW;rw [List.length_append];omega
  omega
 ·have ew:=zP e2;obtain ⟨u,eu,ru⟩:=jR r ew;have hi:i < (parsOf t).length:=by rw [<- hl];exact (List.getElem?_eq_some_iff.mp ew).1
  have ep:=aT4 e1 hi;refine ⟨u,ru,?_⟩;rcases FS.par y (List.mem_of_getElem? ep) with k | k
  ·exact .inl ⟨k,(mU ndP ep eu).1 k⟩
  ·obtain ⟨c,e⟩:=has k;obtain ⟨oc,h2,h3⟩:=kc y c e;rw [(mU ndP ep eu).2 (by show (defScope t).names.lookup y≠_;rw [k];decide)] at h3;exact .inr ⟨.inl k,c,oc,e,h2,h3⟩
 ·obtain ⟨oc,h2,h3⟩:=kc y c e;exact ⟨oc,_,h2,h3⟩
 ·obtain ⟨l,e1,e2⟩:=fo;refine ⟨envOfC q (defScope t) s.heap.objs.size f cd::l,by simp [Around.deeper,e1],fun env he=>?_⟩;rcases List.mem_cons.mp he with rfl | he
  ·exact ⟨by show (defScope t).kind≠_;rw [FS.kind];decide,_,o,rfl,eK,fun vs z=>by rw [hd] at z;cases z⟩
  ·obtain ⟨k1,L,o',k2,k3,k4⟩:=e2 env he;refine ⟨k1,L,o',k2,?_,k4⟩;rw [bJ fun z=>by rw [z,f0.2.1] at k3;cases k3];unfold eM;rw [if_neg fun z=>by rw [(fr L z).2.1] at k3;cases k3];exact k3
 ·have nL:a≠s.heap.objs.size:=fun z=>by rw [z,f0.2.1] at ea;cases ea
  have nf:a∉fp:=fun z=>by rw [(fr a z).2.1] at ea;cases ea
  have e1:((eM κ fp h1).up s.heap.objs.size (false,o)) a=κ a:=by
   rw [bJ nL];unfold eM;rw [if_neg nf]
  by_cases e2:κ2 a=((eM κ fp h1).up s.heap.objs.size (false,o)) a
  ·rw [e2,e1,ea]
  ·rcases own a e2 with z | ⟨_,y',z⟩
   ·exact (nL z).elim
   ·exact (nf (mem y' a z)).elim
end
end DL

namespace DL
open PySem PySem.Spec PyProof.Rows L2 CI
section
variable {S:Sx} {κ κ2:Kp} {M M2:Mp} {h h1:aA} {s s':Shared} {n:Nat}
noncomputable def Low (n:Nat):Cell->Prop
 | .r is=>∀ j,W.c j∈is->j < n
 | .o _ fs=>∀ f j,fs.lookup f=some (.c j)->j < n
 | _=>True
def aJ5 {c:Cell} (hc:∀ j∈cRefs c,j < n):Low n c:=by
 cases c with
 | r is=>exact fun j hj=>hc j (List.mem_flatten.mpr ⟨[j],List.mem_map.mpr ⟨_,hj,rfl⟩,List.mem_singleton.mpr rfl⟩)
 | o C fs =>
  intro f j e;refine hc j ?_;unfold cRefs;exact List.mem_flatten.mpr ⟨[j],List.mem_map.mpr ⟨_,PySem.mem_of_lookup e,rfl⟩,List.mem_singleton.mpr rfl⟩
 | _=>exact True.intro
def bI3 {H:Heap} {p:Addr×Addr} {c:Cell} (x:CellOk S M H p c):Low M.m.length c:=by
 cases c with
 | r is =>
  obtain ⟨us,k,_,_,r⟩:=x;intro j hj;obtain ⟨i,hi⟩:=List.getElem?_of_mem hj;obtain ⟨u,_,p,ep,_⟩:=jR r hi;exact (List.getElem?_eq_some_iff.mp ep).1
 | o C fs =>
  obtain ⟨_,_,_,mA,_,r,_⟩:=x;intro f j e;obtain ⟨u,_,p,ep,_⟩:=RelO.some_of (by rw [<- e];exact r f);exact (List.getElem?_eq_some_iff.mp ep).1
 | _=>exact True.intro
def sL {w:W} {u:Value} (r:RepW S M w u) (hl:∀ j,w=.c j->j < n):RepW S ⟨M.Z,M.m.take n⟩ w u:=by
 cases w with
 | d x=>exact r
 | c j =>
  obtain ⟨p,ep,e⟩:=r;exact ⟨p,by show (M.m.take n)[j]?=_;rw [List.getElem?_take_of_lt (hl j rfl)];exact ep,e⟩
theorem oW:∀ {is:List W} {us:List Value},RepWs S M is us->(∀ j,W.c j∈is->j < n)->RepWs S ⟨M.Z,M.m.take n⟩ is us
 | [],_,r,_=>by cases r;exact .nil
 | i::is,_,r,l=>by
  cases r with
  | cons a b=>exact .cons (sL a fun j ej=>l j (by rw [ej];exact List.mem_cons_self)) (oW b fun j hj=>l j (List.mem_cons_of_mem _ hj))
def aJ6 {H:Heap} {p:Addr×Addr} {c:Cell} (x:CellOk S M H p c) (l:Low n c):CellOk S ⟨M.Z,M.m.take n⟩ H p c:=by
 cases c with
 | r is =>
  obtain ⟨us,k,e,z,r⟩:=x;exact ⟨us,k,e,z,oW r l⟩
 | o C fs =>
  obtain ⟨a,b,c,mA,d,r,e⟩:=x;refine ⟨a,b,c,mA,d,fun f=>?_,e⟩;have rf:=r f;cases q:fs.lookup f with
  | none=>rw [q] at rf;cases q2:mA f with
   | none=>exact True.intro
   | some u=>rw [q2] at rf;exact rf.elim
  | some w =>
   rw [q] at rf;obtain ⟨u,eu,ru⟩:=RelO.some_of rf;rw [eu];exact sL ru fun j ej=>l f j (by rw [q,ej])
 | l xs=>exact x
 | k xs=>exact x
 | n xs=>exact x
 | t xs=>exact x
def Mem.cut (R0:Mem S κ M h s) (l:Le M M2) (R:Mem S κ M2 h1 s') (ok:okP h h1):Mem S κ ⟨M2.Z,M.m⟩ (h1.take h.length) s':=by
 obtain ⟨k,ek⟩:=l.m;have em:M.m=M2.m.take h.length:=by rw [ek,<- R0.len];simp
 have lt:h.length<=h1.length:=by rw [<- R.len,ek,<- R0.len];simp
 have at_:∀ {i:Nat} {p:Addr×Addr},M.m[i]?=some p->M2.m[i]?=some p:=fun e=>l.at e;have sub:∀ p∈M.m,p∈M2.m:=fun p hp=>by rw [ek];exact List.mem_append_left _ hp
 refine ⟨R.z,R.k,by rw [List.length_take];show M.m.length=_;rw [R0.len];omega,fun i j p q a b=>R.ap i j p q (at_ a) (at_ b),fun p hp=>R.off p (sub p hp),fun i p c a b=>?_,R.base,R.bare,R.os⟩;have a:M.m[i]?=some p:=a;have hi:i < h.length:=by rw [<- R0.len];exact (List.getElem?_eq_some_iff.mp a).1
 rw [List.getElem?_take_of_lt hi] at b;have lo:Low h.length c:=by
  rcases ok i c hi b with z | z
  ·exact aJ5 z
  ·have:=bI3 (R0.cel i p c a z)
   rwa [R0.len] at this
 have:=aJ6 (R.cel i p c (at_ a) b) lo
 rwa [<- em] at this
def aT5 {p:Fl×aA} {z:PyData} {h2:aA} {u:Value} (R0:Mem S κ M h s) (l:Le M M2) (R:Mem S κ M2 p.2 s') (e:aM h p=some (z,h2)) (hr:(∃ δ,p.1=.nx δ/\u=.none)\/∃ w,p.1=.rt w/\RepW S M2 w u):Pw S κ M h2 (.d z) u s':=by
 unfold aM at e
 classical
 obtain ⟨ok,e⟩:=aE e;have R3:=R0.cut l R ok;have l3:Le M ⟨M2.Z,M.m⟩:=⟨l.z,[],by simp⟩;rcases hr with ⟨δ,hp,rfl⟩ | ⟨w,hp,r⟩
 ·rw [hp] at e;cases e;exact R3.pn.go l3
 ·rw [hp] at e;cases w with
  | d y=>cases e;exact ⟨_,l3,R3,r⟩
  | c i =>
   dsimp only at e;obtain ⟨q,eq,rfl⟩:=r;obtain ⟨z1,k1,_⟩:=R.off q (List.mem_of_getElem? eq) q.1 (.inl rfl);have fr:h.length<=i->bA κ ⟨M2.Z,M.m⟩ q.1:=fun hi=>⟨z1,k1,fun r hr=>by
    obtain ⟨j,hj⟩:=List.getElem?_of_mem hr;have hj:M.m[j]?=some r:=hj;have hlt:j < h.length:=by rw [<- R0.len];exact (List.getElem?_eq_some_iff.mp hj).1
    obtain ⟨a,_,b,_⟩:=R.ap j i r q (l.at hj) eq (by omega);exact ⟨a,b⟩⟩
   split at e
   ·rename_i xs ei;obtain ⟨hi,e⟩:=aE e;cases e;obtain ⟨us,n,ho,hz,rr⟩:=R.cel i q _ eq ei;exact ⟨_,l3.trans (Le.add (fr hi).1),R3.frz (fr hi) ho,rep_l.mpr ⟨_,_,us,rfl,jB,⟨⟨n,rfl⟩,hz⟩,Reps'.go (Le.add (fr hi).1) rr⟩⟩
   ·rename_i xs ei;obtain ⟨hi,e⟩:=aE e;cases e;obtain ⟨vs,hd,rr,hs,hz⟩:=R.cel i q _ eq ei;obtain ⟨o,es,ep,ho,hr⟩:=hd;exact ⟨_,l3.trans (Le.add (fr hi).1),R3.frz (fr hi) ho,(wL (wK rr)).mpr ⟨_,o,vs,rfl,jB,⟨hs,hz,fun h2 e2=>⟨o,es,ep,e2,hr⟩⟩,RepK.go (M:=⟨M2.Z,M.m⟩) (Le.add (fr hi).1) rr⟩⟩
   ·cases e
end
structure Fun (K:PySem.W.Frag) (x qual:Str) (st:Stmt) (f:Addr) (fd:FuncData):Prop where
 ex:∃ (oc:Value) (od:Option Addr) (kV doc pm:Value) (an:Option Addr) (cdv ct:Value) (osl:Array (Option Value)),
  fd=PySem.W.fnOf x qual (cB st) (bG st) (defScope st) .none kV doc pm an cdv ct/\K.lookup f=some ⟨oc,od,.func fd,osl⟩/\PySem.W.codeIn K cdv qual=true
 kp:PySem.W.keepIn K (.ref f)=true
structure TopOk (t:Top) (S:Sx):Prop where
 bl:∀ x,t.bl.contains x=true->S.mg x=none
 gc:∀ x z,t.gc x=some z->∃ u,S.mg x=some u/\Rep S S.base.get? z u
 tk:∀ x f,t.tk x=some f->∃ p,S.mg x=some (.ref p)/\TabK S p f
 defs:∀ x s,t.defs x=some s->∃ f fd,Fun S.K x x s f fd/\S.mg x=some (.ref f)/\eZ S.K fd (parsOf s)
 ini:∀ x C s,t.ini x=some (C,s)->∃ n q f fd,Fun S.K n q s f fd/\Mk S.K C f/\S.mg x=some (.ref C)/\eZ S.K fd (parsOf s)
 mt:∀ x C s,t.mt x=some (C,s)->Cls S.K C/\∃ n q f fd,Fun S.K n q s f fd/\Meth S.K C x f/\eZ S.K fd (parsOf s)
 fo:∀ C f,t.fo C f=true->Cls S.K C/\NoAttr S.K C f
 qn:∀ x q,t.qn x=some q->t.mt x=none/\t.ini x=none/\∀ s f fd,Fun S.K x x s f fd->S.mg x=some (.ref f)->x++".<locals>."=q.1/\∃ c0,fd.code=.ref c0/\TbS S c0 q.2
structure TabOk (S:Sx) (d:Nat) (fn:Str->Option XF) (ob:ObS):Prop where
 fn:∀ x m,fn x=some m->FnG S d x (toW m)
 fnW:∀ x m,ob.fnW x=some m->FnG S d x m
 cls:∀ x C m,ob.cls x=some (C,m)->(∀ ws h,m ws h=none)\/∃ k f fd ps,k+1<=d/\Mk S.K C f/\FnS S k f fd ps m/\S.mg x=some (.ref C)/\eZ S.K fd ps
 om:∀ x C m,ob.om x=some (C,m)->(∀ ws h,m ws h=none)\/(Cls S.K C/\∃ f fd ps,Meth S.K C x f/\FnS S d f fd ps m/\eZ S.K fd ps)
 fo:∀ C f,ob.fo C f=true->Cls S.K C/\NoAttr S.K C f
section
variable {S:Sx} {t:Top} {fn:Str->Option XF} {ob:ObS} {x n q:Str} {st:Stmt} {f:Addr} {fd:FuncData} {k:Nat}
def aT6 {A:Around} {L:Addr} {cd:Value} (T:TopOk t S) (B:TabOk S k fn ob) (hr:Room (k+1) A) (hq:∀ q',t.qn x=some q'->q++".<locals>."=q'.1/\∃ c0,cd=.ref c0/\TbS S c0 q'.2):Good (cxF S st q L f cd A) (t.sta fn ob x st) k :=
 ⟨T.bl,T.gc,T.tk,B.fn,B.fnW,B.cls,B.om,B.fo,rfl,rfl,fun _=>rfl,hr.deeper _,fun q' e=>⟨(hq q' e).1,(hq q' e).2,by have:=hr.dp;show A.depth+1+3*k+7 < _;omega,by have:=hr.un;show A.units+3+16*k+212 < _;omega⟩⟩
def aJ7 {m:XFW} (hq:∀ q',t.qn x=some q'->q++".<locals>."=q'.1/\∃ c0,fd.code=.ref c0/\TbS S c0 q'.2) (T:TopOk t S) (F:Fun S.K n q st f fd) (B:TabOk S k fn ob) (hb:fnB st=true) (len:∀ ws h r,m ws h=some r->ws.length=(parsOf st).length)
  (he:∀ ws h r,m ws h=some r->∃ p,xSs (evs t.deep) (t.sta fn ob x st) (bG st) (dK (bW st) ws) h=some p/\∀ {κ M M2 s s' u},Mem S κ M h s->Le M M2->Mem S κ M2 p.2 s'->((∃ δ,p.1=.nx δ/\u=.none)\/∃ w,p.1=.rt w/\RepW S M2 w u)->Pw S κ M r.2 r.1 u s') (hnb:∀ ws h r p,m ws h=some r->xSs (evs t.deep) (t.sta fn ob x st) (bG st) (dK (bW st) ws) h=some p->(∃ δ,p.1=.nx δ)\/∃ w,p.1=.rt w) :
  FnS S (k+1) f fd (parsOf st) m:=by
 refine ⟨len,fun {A κ M h h' s args us ws w} hr fo md hz R hbd r e=>?_⟩;obtain ⟨oc,od,kV,doc,pm,an,cdv,ct,osl,rfl,lk,hcd⟩:=F.ex;have FS:=bU4 hb;have KX:S.K.In s.heap:=md.kin.keeps R.bk;have lim:s.heap.NoLimit:=md.nolimit.keeps R.bk;have hkind:∀ y∈(parsOf st).zip us,(defScope st).names.lookup y.1=some .local\/((defScope st).names.lookup y.1=some .cell/\((cellsFrom (s.heap.objs.size+1) (defScope st).names []).lookup y.1).isSome=true):=fun ⟨n,v⟩ hy=>by
  rcases FS.par n (zip_fst hy) with q | q
  ·exact .inl q
  ·exact .inr ⟨q,PySem.W.cellsFrom_some _ _ _ (.inl q)⟩
 have hdep:A.depth < recursionLimit:=by have:=hr.dp;omega
 refine codeAny_call_function hdep (KX _ _ lk) rfl FS.co FS.gen rfl (PySem.W.codeRec_of KX hcd) (hbd _ _ _ _ ?_);refine wpAny_newFunctionEnv_cells FS.kind hkind fun env he' s1 ic=>?_;subst he';refine ⟨lim.keeps ic.toInCall.keep,codeAny_func ?_⟩;obtain ⟨⟨fl,h1⟩,ep,fin⟩:=he ws h _ e;obtain ⟨κ1,R1,F1,back⟩:=zQ (A:=A) FS md hz (len _ _ _ e) fo R r ic;refine wpAny_mono (sB (xQ t.deep) (aT6 (x:=x) T B hr hq) _ R1 F1 ep) (fun fl2 s2 ⟨κ2,M2,o2,l2,R2,fw⟩=>?_) fun _ _ z=>z.elim;have R3:Mem S κ M2 h1 s2:=R2.less (back κ2 o2);rcases hnb ws h _ _ e ep with ⟨δ,hp⟩ | ⟨w',hp⟩
 ·cases hp;cases fl2 with
  | next=>exact ⟨.none,rfl,fin R l2 R3 (.inl ⟨δ,rfl,rfl⟩)⟩
  | _=>exact fw.elim
 ·cases hp;cases fl2 with
  | ret u=>exact ⟨u,rfl,fin R l2 R3 (.inr ⟨w',rfl,fw⟩)⟩
  | _=>exact fw.elim
def xR {d:Nat} {ps:List Str} {m:XFW} (hm:∀ ws h,m ws h=none):FnS S d f fd ps m:=⟨fun ws h r e=>(by rw [hm] at e;cases e),fun _ _ _ _ _ _ _ e=>(by rw [hm] at e;cases e)⟩
def aJ8 (hq:∀ q',t.qn x=some q'->q++".<locals>."=q'.1/\∃ c0,fd.code=.ref c0/\TbS S c0 q'.2) (T:TopOk t S) (F:Fun S.K n q st f fd) (B:TabOk S k fn ob):FnS S (k+1) f fd (parsOf st) (iP t fn ob x st):=by
 by_cases hb:fnB st=true
 ·have op:∀ {ws h r},iP t fn ob x st ws h=some r->ws.length=(parsOf st).length/\∃ p,xSs (evs t.deep) (t.sta fn ob x st) (bG st) (dK (bW st) ws) h=some p/\iO p=some r:=fun {ws h r} e=>by
   unfold iP at e;obtain ⟨hc,e⟩:=aE e;obtain ⟨p,e1,e2⟩:=bind_some e;exact ⟨hc.2,p,e1,e2⟩
  refine aJ7 (x:=x) hq T F B hb (fun ws h r e=>(op e).1) (fun ws h r e=>?_) fun ws h r p e e1=>?_
  ·obtain ⟨_,⟨fl,h1⟩,e1,e2⟩:=op e;refine ⟨_,e1,fun {κ M M2 s s' u} R0 l R hr=>?_⟩;rcases hr with ⟨δ,hp,rfl⟩ | ⟨w,hp,r⟩
   ·cases hp;cases e2;exact (R.pn.go l)
   ·cases hp;cases e2;exact ⟨M2,l,R,r⟩
  ·obtain ⟨_,p',e1',e2⟩:=op e;rw [e1] at e1';cases e1';obtain ⟨fl,h1⟩:=p;cases fl with
   | nx δ=>exact .inl ⟨δ,rfl⟩
   | rt w=>exact .inr ⟨w,rfl⟩
   | _=>cases e2
 ·exact xR fun ws h=>by unfold iP;rw [if_neg fun z=>hb z.1]
def aZ3 (hq:∀ q',t.qn x=some q'->q++".<locals>."=q'.1/\∃ c0,fd.code=.ref c0/\TbS S c0 q'.2) (T:TopOk t S) (F:Fun S.K n q st f fd) (B:TabOk S k fn ob):FnS S (k+1) f fd (parsOf st) (toW (lW t fn ob x st)):=by
 by_cases hb:fnB st=true
 ·have op:∀ {ws h r},toW (lW t fn ob x st) ws h=some r->ws.length=(parsOf st).length/\∃ p z,xSs (evs t.deep) (t.sta fn ob x st) (bG st) (dK (bW st) ws) h=some p/\aM h p=some (z,r.2)/\r.1=.d z:=fun {ws h r} e=>by
   obtain ⟨⟨z,h2⟩,e0,e⟩:=bind_some e;cases e;unfold lW at e0;obtain ⟨hc,e0⟩:=aE e0;obtain ⟨p,e1,e2⟩:=bind_some e0;exact ⟨hc.2,p,z,e1,e2,rfl⟩
  refine aJ7 (x:=x) hq T F B hb (fun ws h r e=>(op e).1) (fun ws h r e=>?_) fun ws h r p e e1=>?_
  ·obtain ⟨_,p,z,e1,e2,ez⟩:=op e;refine ⟨_,e1,fun {κ M M2 s s' u} R0 l R hr=>?_⟩;rw [ez];exact aT5 R0 l R e2 hr
  ·obtain ⟨_,p',z,e1',e2,_⟩:=op e;rw [e1] at e1';cases e1';unfold aM at e2
   classical
   obtain ⟨_,e2⟩:=aE e2;obtain ⟨fl,h1⟩:=p;cases fl with
   | nx δ=>exact .inl ⟨δ,rfl⟩
   | rt w=>exact .inr ⟨w,rfl⟩
   | _=>cases e2
 ·exact xR fun ws h=>by unfold toW lW;rw [if_neg fun z=>hb z.1];rfl
abbrev xS (t:Top) (S:Sx) (d:Nat):Prop:=TabOk S d (fnT t fun y=>aD t d y) (obT t (fun y=>callW t d y) (fun y=>callI t d y) fun y=>callM t d y)
def sM (T:TopOk t S):xS t S 0:=by
 refine ⟨fun x m e=>?_,fun x m e=>?_,fun x C m e=>?_,fun x C m e=>?_,T.fo⟩
 ·obtain ⟨s,hs,rfl⟩:=map_some e;exact .inl fun _ _=>rfl
 ·dsimp only at e;split at e
  ·obtain ⟨s,hs,rfl⟩:=map_some e;exact .inl fun _ _=>rfl
  ·cases e
 ·obtain ⟨p,hs,e2⟩:=map_some e;cases e2;exact .inl fun _ _=>rfl
 ·obtain ⟨p,hs,e2⟩:=map_some e;cases e2;exact .inl fun _ _=>rfl
def sN (T:TopOk t S) {d:Nat} (B:xS t S d) (hI:∀ x C s,t.ini x=some (C,s)->(∀ ws h,callI t (d+1) x ws h=none)\/∃ k f fd ps,k+1<=d+1/\Mk S.K C f/\FnS S k f fd ps (callI t (d+1) x)/\S.mg x=some (.ref C)/\eZ S.K fd ps):xS t S (d+1):=by
 refine ⟨fun x m e=>?_,fun x m e=>?_,fun x C m e=>?_,fun x C m e=>?_,T.fo⟩
 ·obtain ⟨s,hs,rfl⟩:=map_some e;obtain ⟨f,fd,F,hm,hb⟩:=T.defs x s hs;have e:aD t (d+1) x=lW t (fnT t fun y=>aD t d y) (obT t (fun y=>callW t d y) (fun y=>callI t d y) fun y=>callM t d y) x s:=by
   rw [aD,hs]
  dsimp only;rw [e];exact .inr ⟨f,fd,parsOf s,hm,F.kp,hb,aZ3 (fun q' e=>(T.qn x q' e).2.2 _ _ _ F hm) T F B⟩
 ·dsimp only at e;split at e
  ·obtain ⟨s,hs,rfl⟩:=map_some e;obtain ⟨f,fd,F,hm,hb⟩:=T.defs x s hs;have e:callW t (d+1) x=iP t (fnT t fun y=>aD t d y) (obT t (fun y=>callW t d y) (fun y=>callI t d y) fun y=>callM t d y) x s:=by
    rw [callW,hs]
   try dsimp only
   rw [e];exact .inr ⟨f,fd,parsOf s,hm,F.kp,hb,aJ8 (fun q' e=>(T.qn x q' e).2.2 _ _ _ F hm) T F B⟩
  ·cases e
 ·obtain ⟨⟨C',s⟩,hs,e2⟩:=map_some e;cases e2;exact hI x _ s hs
 ·obtain ⟨⟨C',s⟩,hs,e2⟩:=map_some e;cases e2;obtain ⟨hc,n,q,f,fd,F,hM,hb⟩:=T.mt x _ s hs;have e:callM t (d+1) x=iP t (fnT t fun y=>aD t d y) (obT t (fun y=>callW t d y) (fun y=>callI t d y) fun y=>callM t d y) x s:=by
   rw [callM,hs]
  dsimp only;rw [e];exact .inr ⟨hc,f,fd,parsOf s,hM,aJ8 (fun q' e=>by rw [(T.qn x q' e).1] at hs;cases hs) T F B,hb⟩
theorem vK (T:TopOk t S):∀ d,xS t S d
 | 0=>sM T
 | 1=>sN T (sM T) fun x C s _=>.inl fun _ _=>rfl
 | d+2=>sN T (vK T (d+1)) fun x C s hs=>by
  obtain ⟨n,q,f,fd,F,hM,hm,hb⟩:=T.ini x C s hs;have e:callI t (d+2) x=iP t (fnT t fun y=>aD t d y) (obT t (fun y=>callW t d y) (fun y=>callI t d y) fun y=>callM t d y) x s:=by
   rw [callI,hs]
  refine .inr ⟨d+1,f,fd,parsOf s,Nat.le_refl _,hM,?_,hm,hb⟩;show FnS S (d+1) f fd (parsOf s) (callI t (d+2) x);rw [e];exact aJ8 (fun q' e=>by rw [(T.qn x q' e).2.1] at hs;cases hs) T F (vK T d)
end
end DL

namespace Att
open PySem PySem.W PySem.Calls PyProof.Rows

def kT {P:Params} {h:Heap}:∀ (ns:List Int) (vs:List Value),WellAll P h vs (ns.map WData.int)->IntsAre vs ns:=by
 intro ns;induction ns with
 | nil =>
  intro vs w;rw [List.map_nil] at w;cases w;exact .nil
 | cons n ns ih =>
  intro vs w;rw [List.map_cons] at w;cases w with
  | cons a b =>
   cases a;exact .cons _ _ (ih _ b)

def zR {l:OpenLaw} {n:Nat} (hn:l.most=some n) {P:Params} {h:Heap} {args:List WData} {vals:List Value}
  (hpre:l.row.toRowW.claim.pre args=true) (hwl:WellAll P h vals args) :
  ∃ a vs ns,vals=[Value.ref a]/\args=[WData.list (ns.map WData.int)]/\h.get? a=some { cls:=.type "list",data:=.seq vs.toArray }/\IntsAre vs ns/\ns.length<=n:=by
 have hsh:WShape.hasAll [] args [.list .int]=true:=(pre_splitW hpre).1;have hc:l.pre.holds [] { args:=args }=true:=(pre_splitW hpre).2;obtain ⟨d,r,rfl,h1,h2⟩:=hasAllW_cons hsh;obtain rfl:=hasAllW_nil h2;obtain ⟨xs,rfl,h3⟩:=hasW_list h1;obtain ⟨ns,rfl⟩:=items_int h3;have hlen:ns.length<=n:=by
  unfold OpenLaw.pre at hc;have h4:(WTm.not (.lt (.lit (.int (n:Int))) (.len (.arg 0)))).holds [] { args:=[.list (ns.map .int)] }=true:=by
   have h4:=(holds_andW hc).1;rw [hn] at h4;exact h4
  have h5:=condW_of h4 (w_not (w_lt w_lit (w_len_list (w_arg rfl))));rw [List.length_map] at h5;refine Nat.le_of_not_lt fun q=>?_;have q':(n:Int) < ((ns.length:Nat):Int):=by omega
  first
   | (rw [decide_eq_true q'] at h5;exact absurd h5 (by decide))
   | (simp at h5;omega)
 cases hwl with
 | cons w1 w2 =>
  cases w2;cases w1 with
  | list ho hall=>exact ⟨_,_,ns,rfl,rfl,ho,kT ns _ hall,hlen⟩

def zS (l:OpenLaw) (args:List WData):l.row.toRowW.claim.post args (.bool true) args=true :=
 postW_of (r:=l.row.toRowW) (X:=(true==true))
  (show WShape.has [] (.bool true) .bool=true by first | rfl | decide | simp [WShape.has,WShape.arms,WShape.armsAll])
  (show (WTm.eq .res (.lit (.bool true))).value [] { args:=args,res:=some (.bool true),after:=args }=some (.bool (true==true)) from w_eq_bool (w_res rfl) w_lit) rfl

def attach_call {l:OpenLaw} {n:Nat} {q:Program} {loose:List Str} {XP:(Str->Option Value)->Heap->Prop} {YP:World->Heap->Prop} {d:DefRec}
  (hn:l.most=some n) (hdf:d.params.defaults=[])
  (call:∀ (w:World) (s₀ s₁:Shared) (mg mb:Str->Option Value) (fa:Addr) (o:Obj) (pm cd doc:Value) (a:Addr) (vs:List Value) (ns:List Int),
   Ground q loose [] XP w s₀ mg mb s₁.heap->YP w s₁.heap ->
   s₁.heap.get? fa=some o->o.data=.func (docDef d.name d.params d.body d.scope pm cd doc)->s₁.heap.CodeRec cd d.name->mg d.name=some (.ref fa) ->
   s₁.heap.get? a=some { cls:=.type "list",data:=.seq vs.toArray }->IntsAre vs ns->ns.length<=n->s₁.gens=#[] ->
   codeAny (model l.prog w) callerA (.call (.ref fa) ⟨[.ref a],[]⟩) (fun r s'=>r=.ok (.ret (.bool true))/\OldK s₁.heap s'.heap/\s'.os=s₁.os/\AllBare s'.gens) s₁) :
  WalkO q loose XP YP l.row.toRowW d [] (fun f vs=>PySem.call f vs):=by
 intro w s₀ s₁ mg mb G Y fa o pm cd doc dV kV ho hd hcd hD hmg hg args vals as hpre hlay hrd hwl hlo;obtain rfl:dV=.none:=Dflts.none hD hdf;obtain rfl:kV=.none:=Dflts.noKw hD;obtain ⟨a,vs,ns,rfl,rfl,hobj,hints,hlen⟩:=zR hn hpre hwl;refine enter_call (codeAny_mono (call w s₀ s₁ mg mb fa o pm cd doc a vs ns G Y ho (fd_plain hd) hcd hmg hobj hints hlen hg) fun r s' hq=>?_);obtain ⟨rfl,h2,h3,h4⟩:=hq;exact ⟨.inl ⟨.bool true,.bool true,[],rfl,fun _=>rfl,.bool true,zS l _,fun _=>⟨List.Pairwise.nil,fun _ hm=>(nomatch hm)⟩⟩,h2,h3,h4⟩

end Att

namespace CI
open PySem PySem.Spec PyProof.Rows L2 DL
noncomputable def aJ9 (x:Str):Stmt->Bool
 | .FunctionDef n _ _ _ _ _ _ _ _ _=>n==x
 | _=>false
def vL (b:List Stmt) (x:Str):Option Stmt:=b.find? (aJ9 x)
noncomputable def xT:Nat->Expr->Option PyData
 | _,.Constant (.int i) _ _=>some (.int i)
 | _,.Constant (.str x) _ _=>some (.str x)
 | _,.Constant (.bool x) _ _=>some (.bool x)
 | _,.Constant .none _ _=>some .none
 | n+1,.Tuple es _ _=>(es.mapM (xT n)).map .tuple
 | _,_=>none
def bI4 (b:List Stmt) (x:Str):Option PyData:=b.findSome? fun s=>match s with
 | .Assign [.Name y _] e _=>if y==x&&!(x==("__name__":Str)) then xT 4 e else none
 | _=>none
def bI5:List (Option Expr)->List Expr->Option (List (Str×PyData))
 | [],[]=>some []
 | some (.Constant (.str x) _ _)::ks,e::vs=>(xT 4 e).bind fun i=>(bI5 ks vs).map ((x,i)::·)
 | _,_=>none
noncomputable def tkS:(s:Stmt)->Option (Str×List (Option Expr)×List Expr)
 | .Assign [.Name y _] (.Dict ks vs _) _=>some (y,ks,vs)
 | _=>none
def bI6 (b:List Stmt) (x:Str):Option (Str->Option PyData):=b.findSome? fun s=>(tkS s).bind fun y=>if y.1==x then (bI5 y.2.1 y.2.2).map fun t z=>t.lookup z else none
noncomputable def blAll:List Str:=["len","tuple","all","any","isinstance","int","bool","str","list","range","sorted","set","zip","enumerate","dict","max","min","sum","reversed","abs"]
def aZ4 (b:List Stmt) (ac:Str->List Nat) (cv:Str->List Str) (fuel deep:Nat) (wf:Str->Bool:=fun _=>false) (ini mt:Str->Option (Addr×Stmt):=fun _=>none) (fo:Addr->Str->Bool:=fun _ _=>false) (qn:Str->Option (Str×Pos):=fun _=>none):Top:=⟨blAll,bI4 b,bI6 b,vL b,ac,cv,fuel,deep,wf,ini,mt,fo,qn⟩
def gcl (b:List Stmt):List (Str×PyData):=b.filterMap fun s=>match s with
 | .Assign [.Name y _] e _=>if !(y==("__name__":Str)) then (xT 4 e).map (y,·) else none
 | _=>none
def bI7 {b:List Stmt} {x:Str} {z:PyData} (h:bI4 b x=some z):(x,z)∈gcl b:=by
 obtain ⟨s,hs,e⟩:=List.exists_of_findSome?_eq_some h;refine List.mem_filterMap.mpr ⟨s,hs,?_⟩;split at e
 ·rename_i y p e0 q;split at e
  ·rename_i hc;rw [Bool.and_eq_true] at hc;have:y=x:=eq_of_beq hc.1;subst this;try simp only []
   rw [if_pos hc.2,e];rfl
  ·cases e
 ·cases e
def tkl (b:List Stmt):List (Str×List (Str×PyData)):=b.filterMap fun s=>(tkS s).bind fun y=>(bI5 y.2.1 y.2.2).map (y.1,·)
def bI8 {b:List Stmt} {x:Str} {f:Str->Option PyData} (h:bI6 b x=some f):∃ t,(x,t)∈tkl b/\f=fun z=>t.lookup z:=by
 obtain ⟨s,hs,e⟩:=List.exists_of_findSome?_eq_some h;obtain ⟨y,ey,e1⟩:=Option.bind_eq_some_iff.mp e;obtain ⟨hc,e2⟩:=aE e1;have:y.1=x:=eq_of_beq hc;subst this;obtain ⟨t,et,rfl⟩:=Option.map_eq_some_iff.mp e2;refine ⟨t,List.mem_filterMap.mpr ⟨_,hs,?_⟩,rfl⟩;rw [ey,Option.bind_some,et];rfl
noncomputable def dfl (b:List Stmt):List (Str×Stmt):=b.filterMap fun s=>match s with
 | .FunctionDef n _ _ _ _ _ _ _ _ _=>some (n,s)
 | _=>none
def bI9 {b:List Stmt} {x:Str} {s:Stmt} (h:vL b x=some s):(x,s)∈dfl b:=by
 have h1:=List.find?_some h;have h2:=List.mem_of_find?_eq_some h;refine List.mem_filterMap.mpr ⟨s,h2,?_⟩;unfold aJ9 at h1;split at h1
 ·simp only [eq_of_beq h1]
 ·cases h1
def sO {x k:Str} {hh:Int} {t:Tok} {v:Value} {es:List DictEntry}:findBy Value.isStrOf (⟨hh,.str k t,v⟩::es).toArray x=if k=x then some v else findBy Value.isStrOf es.toArray x:=by
 unfold findBy;simp only [List.find?_toArray,List.find?_cons,Value.isStrOf]
 by_cases e:k=x
 ·simp [e]
 ·have:(k==x)=false:=beq_eq_false_iff_ne.mpr e;simp [e,this]
section
variable {K:PySem.W.Frag} {S:Sx}
def aK0 {x qual:Str} {st:Stmt} {f:Addr} {oc:Value} {od an:Option Addr} {osl:Array (Option Value)} {kV doc pm cdv ct:Value} (l:K.lookup f=some ⟨oc,od,.func (PySem.W.fnOf x qual (cB st) (bG st) (defScope st) .none kV doc pm an cdv ct),osl⟩)
  (c:PySem.W.codeIn K cdv qual=true) (k:PySem.W.keepIn K (.ref f)=true):Fun K x qual st f (PySem.W.fnOf x qual (cB st) (bG st) (defScope st) .none kV doc pm an cdv ct):=⟨⟨oc,od,kV,doc,pm,an,cdv,ct,osl,rfl,l,c⟩,k⟩
abbrev BA (n q:Str) (s:Stmt) (us:List Value):Prop:=∀ (kV doc pm:Value) (an:Option Addr) (cdv ct:Value),bindArgs (PySem.W.fnOf n q (cB s) (bG s) (defScope s) .none kV doc pm an cdv ct) ⟨us,[]⟩=pure ((parsOf s).zip us)
def _root_.DL.Fun.binds {x q:Str} {st:Stmt} {f:Addr} {fd:FuncData} (F:Fun K x q st f fd) (h:∀ us:List Value,us.length=(parsOf st).length->BA x q st us):eZ K fd (parsOf st):=by
 obtain ⟨oc,od,kV,doc,pm,an,cdv,ct,osl,rfl,lk,hcd⟩:=F.ex;exact fun s us _ hl=>.of_eq (h us hl kV doc pm an cdv ct)
def FI (K:PySem.W.Frag) (n:Str) (s:Stmt):Prop:=∃ (f:Addr) (od an:Option Addr) (sl:Array (Option Value)) (oc kV dc pm cd ct:Value),PySem.W.nsIn K mainGlobals n=some (some (.ref f))/\K.lookup f=some ⟨oc,od,.func (PySem.W.fnOf n n (cB s) (bG s) (defScope s) .none kV dc pm an cd ct),sl⟩/\PySem.W.codeIn K cd n=true/\PySem.W.keepIn K (.ref f)=true
def fi_mk {n:Str} {s:Stmt} {f:Addr} {od an:Option Addr} {sl:Array (Option Value)} {oc kV dc pm cd ct:Value} (a:PySem.W.nsIn K mainGlobals n=some (some (.ref f))) (l:K.lookup f=some ⟨oc,od,.func (PySem.W.fnOf n n (cB s) (bG s) (defScope s) .none kV dc pm an cd ct),sl⟩) (c:PySem.W.codeIn K cd n=true) (k:PySem.W.keepIn K (.ref f)=true):FI K n s:=⟨_,_,_,_,_,_,_,_,_,_,a,l,c,k⟩
abbrev FR (K:PySem.W.Frag) (mg:Str->Option Value) (n:Str) (s:Stmt):Prop:=∃ f fd,Fun K n n s f fd/\mg n=some (.ref f)/\eZ K fd (parsOf s)
variable {n q:Str} {s:Stmt} {h:Heap} {mg:Str->Option Value}
def FI.ok (a:FI K n s) (X:K.In h) (G:h.Ns mainGlobals mg) (hb:∀ us:List Value,us.length=(parsOf s).length->BA n n s us):FR K mg n s:=by
 obtain ⟨f,od,an,sl,oc,kV,dc,pm,cd,ct,a,l,c,k⟩:=a;have F:=aK0 (st:=s) l c k;exact ⟨f,_,F,PySem.W.mg_of X G a,F.binds hb⟩
def cH5 {P:Str->Stmt->Prop}:∀ p∈([]:List (Str×Stmt)),P p.1 p.2:=fun _ z=>nomatch z
def cH6 {P:Str->Stmt->Prop} {x:Str} {s:Stmt} {l:List (Str×Stmt)} (a:P x s) (b:∀ p∈l,P p.1 p.2):∀ p∈(x,s)::l,P p.1 p.2:=List.forall_mem_cons.mpr ⟨a,b⟩
def FI.ok1 (a:FI K n s) (X:K.In h) (G:h.Ns mainGlobals mg) (hn:(parsOf s).length=1) (hb:∀ u,BA n n s [u]):FR K mg n s:=a.ok X G fun us hl=>by
 rw [hn] at hl
 match us,hl with
 | [u],_=>exact hb u
def FI.ok2 (a:FI K n s) (X:K.In h) (G:h.Ns mainGlobals mg) (hn:(parsOf s).length=2) (hb:∀ u v,BA n n s [u,v]):FR K mg n s:=a.ok X G fun us hl=>by
 rw [hn] at hl
 match us,hl with
 | [u,v],_=>exact hb u v
def FI.ok3 (a:FI K n s) (X:K.In h) (G:h.Ns mainGlobals mg) (hn:(parsOf s).length=3) (hb:∀ u v x,BA n n s [u,v,x]):FR K mg n s:=a.ok X G fun us hl=>by
 rw [hn] at hl
 match us,hl with
 | [u,v,x],_=>exact hb u v x
def FI.ok4 (a:FI K n s) (X:K.In h) (G:h.Ns mainGlobals mg) (hn:(parsOf s).length=4) (hb:∀ u v x y,BA n n s [u,v,x,y]):FR K mg n s:=a.ok X G fun us hl=>by
 rw [hn] at hl
 match us,hl with
 | [u,v,x,y],_=>exact hb u v x y
def FI.ok5 (a:FI K n s) (X:K.In h) (G:h.Ns mainGlobals mg) (hn:(parsOf s).length=5) (hb:∀ u v x y z,BA n n s [u,v,x,y,z]):FR K mg n s:=a.ok X G fun us hl=>by
 rw [hn] at hl
 match us,hl with
 | [u,v,x,y,z],_=>exact hb u v x y z
def bJ0 {a:Addr} {n:Nat} {ws:List Int} {its:Array Value} (X:K.In h) (l:K.lookup a=some ⟨.type "tuple",none,.seq its n,#[]⟩) (hv:Paired (fun (i:Int) v=>∃ t,v=.int i t) ws its.toList) (hs:its.size<=sizeLine):Rep S h.get? (.tuple (ws.map .int)) (.ref a) :=
 rep_t.mpr ⟨a,_,its.toList,rfl,X a _ l,⟨⟨n,by rw [Array.toArray_toList]⟩,by rw [Array.length_toList];exact hs⟩,rP (pM (fun _ _ x=>rep_i.mpr x) hv)⟩
def qQ {a:Addr} {n:Nat} {ws:List Str} {its:Array Value} (X:K.In h) (l:K.lookup a=some ⟨.type "tuple",none,.seq its n,#[]⟩) (hv:Paired (fun (i:Str) v=>(∃ t,v=.str i t)/\PyData.strOk i=true) ws its.toList) (hs:its.size<=sizeLine):Rep S h.get? (.tuple (ws.map .str)) (.ref a) :=
 rep_t.mpr ⟨a,_,its.toList,rfl,X a _ l,⟨⟨n,by rw [Array.toArray_toList]⟩,by rw [Array.length_toList];exact hs⟩,rP (pM (fun _ _ x=>rep_s.mpr x) hv)⟩
def bJ1 {t:Top} {x:Str} {f:Addr} {fd:FuncData} {k:Nat} (T:TopOk t S) (hs:t.defs x=some s) (F:Fun S.K x x s f fd) (hq:autoParam (t.qn x=none) ZR):FnS S (k+1) f fd (parsOf s) (toW (aD t (k+1) x)):=by
 have e:aD t (k+1) x=lW t (fnT t fun y=>aD t k y) (obT t (fun y=>callW t k y) (fun y=>callI t k y) fun y=>callM t k y) x s:=by
  rw [aD,hs]
 rw [e];exact aZ3 (fun q' e=>by rw [hq] at e;cases e) T F (vK T k)
theorem sP {Z:Zm}:∀ {ns:List Int} {vs:List Value},IntsAre vs ns->Paired (Rep S Z) (ns.map .int) vs
 | _,_,.nil=>.nil
 | _,_,.cons n t h=>.cons (rep_i.mpr ⟨t,rfl⟩) (sP h)
end
def Top.fv (t:Top) (l:List Str):Top:={ t with gc:=fun x=>if l.contains x=true then some (fkD x) else t.gc x }
def TopOk.fv {S:Sx} {t:Top} (T:TopOk t S) {l:List Str} (hl:∀ x,l.contains x=true->∃ s,t.defs x=some s):TopOk (t.fv l) S where
 bl:=T.bl
 gc:=fun x z e=>by
  have e:(if l.contains x=true then some (fkD x) else t.gc x)=some z:=e
  by_cases h:l.contains x=true
  ·rw [if_pos h] at e;cases e;obtain ⟨s,hs⟩:=hl x h;obtain ⟨f,fd,_,mg,_⟩:=T.defs x s hs;exact ⟨_,mg,(uC rfl).mpr ⟨⟨f,rfl⟩,mg⟩⟩
  ·rw [if_neg h] at e;exact T.gc x z e
 tk:=T.tk
 defs:=T.defs
 ini:=T.ini
 mt:=T.mt
 fo:=T.fo
 qn:=T.qn
end CI

namespace CI
open PySem PySem.Spec PyProof.Rows L2 DL
section
variable {K:PySem.W.Frag} {mg:Str->Option Value}
def zT {P:Program} {w:World} {mb:Str->Option Value} {k:Nat} {fa a Pt c0:Addr} {fd:FuncData} {x:Str} {m:XF} {s₁:Shared} {vs:List Value} {ns:List Int} {qs:List (Pos×Str)}
  (KX:K.In s₁.heap) (hns:s₁.heap.Ns mainGlobals mg) (hb:s₁.heap.Ns builtinsNs mb) (hbb:∀ x:Str,x≠"__name__"->mb x=bootBuiltins x) (hlim:s₁.heap.NoLimit) (hg:s₁.gens=#[])
  (ha:s₁.heap.get? a=some { cls:=.type "list",data:=.seq vs.toArray }) (hi:IntsAre vs ns) (hl:ns.length<=sizeLine) (hr:Room k callerA)
  (hPt:s₁.heap.get? Pt=some (PySem.W.tabObj #[])) (hKP:K.lookup Pt=none) (hcd:PySem.W.codeHdIn K c0 Pt=true)
  (hbm:∃ bm ob,mg "__builtins__"=some (.ref bm)/\bm≠builtinsNs/\s₁.heap.get? bm=some ob/\ob.cls=.type "module"/\ob.dict=some builtinsNs/\ob.data=.plain)
  (F:∀ base:Heap,K.In base->base.Ns mainGlobals mg->base.BuiltinsAt mg Pt->FnS ⟨P,w,K,mg,base,s₁.os,#[],Pt⟩ k fa fd [x] (toW m)) (hbind:BindsTo s₁ fd ⟨[.ref a],[]⟩ [(x,.ref a)]) (e:m [.d (.list (ns.map .int))] [.t []]=some (.bool true,[.t qs])) :
  codeAny (model P w) callerA (.call (.ref fa) ⟨[.ref a],[]⟩) (fun r s'=>r=.ok (.ret (.bool true))/\OldK s₁.heap s'.heap/\s'.os=s₁.os/\AllBare s'.gens) s₁:=by
 have haP:a≠Pt:=fun z=>by rw [z,hPt] at ha;cases ha
 have get:∀ {b:Addr} {o:Obj},s₁.heap.get? b=some o->b≠Pt->(PySem.W.hideAll s₁.heap [Pt]).get? b=some o:=fun e n=>PySem.W.hideAll_get [Pt] e (by simpa using n);have back:∀ {b:Addr} {o:Obj},(PySem.W.hideAll s₁.heap [Pt]).get? b=some o->s₁.heap.get? b=some o:=fun e=>PySem.W.of_hideAll [Pt] e;have non:(PySem.W.hideAll s₁.heap [Pt]).get? Pt=none:=PySem.W.hideAll_none [Pt] (by simp);have hsz:(PySem.W.hideAll s₁.heap [Pt]).objs.size=s₁.heap.objs.size:=PySem.W.hideAll_size _ _;generalize PySem.W.hideAll s₁.heap [Pt]=base at get back non hsz;have nsK:∀ {b:Addr} {m:Str->Option Value},s₁.heap.Ns b m->base.Ns b m:=fun {b m} ⟨o,es,ep,e,d,r⟩=>⟨o,es,ep,get e (fun z=>by
  rw [z,hPt] at e;cases e;exact Data.noConfusion (show Data.fields #[]=Data.dict es ep from d)),d,r⟩
 have hKb:K.In base:=fun b o e=>get (KX b o e) fun z=>by rw [z,hKP] at e;cases e
 have hB:base.BuiltinsAt mg Pt:=by
  obtain ⟨bm,ob,b1,b2,b3,b4,b5,b6⟩:=hbm;have bP:bm≠Pt:=fun z=>by rw [z,hPt] at b3;cases b3;cases b6
  have bg:bm≠mainGlobals:=fun z=>by
   obtain ⟨o,es,ep,e,d,_⟩:=hns;rw [<- z,b3] at e;cases e;rw [b6] at d;cases d
  exact ⟨bm,ob,b1,b2,bg,bP,get b3 bP,b4,b5,b6⟩
 have R:Mem ⟨P,w,K,mg,base,s₁.os,#[],Pt⟩ (fun _=>none) ⟨base.get?,[(Pt,Pt)]⟩ [.t []] s₁:=by
  refine ⟨fun _ _ e=>back e,fun _ _ _ e=>(by cases e),rfl,fun i j p q e1 e2 ne=>?_,fun p hp b hb=>?_,fun i p c e1 e2=>?_,fun _ _ e=>e,.of_eq hg,rfl⟩
  ·have h1:=(List.getElem?_eq_some_iff.mp e1).1;have h2:=(List.getElem?_eq_some_iff.mp e2).1;simp at h1 h2;omega
  ·cases List.mem_singleton.mp hp;have:b=Pt:=hb.elim id id;subst this;exact ⟨non,rfl,_,hPt⟩
  ·cases i with
   | zero =>
    simp at e1 e2;subst e1 e2;exact ⟨[],hPt,.nil,rfl⟩
   | succ i=>simp at e1
 have md:Mod ⟨P,w,K,mg,base,s₁.os,#[],Pt⟩:=⟨hKb,nsK hns,⟨mb,nsK hb,hbb⟩,hlim.imp fun _ z=>z.imp nsK id⟩;have e':toW m [.d (.list (ns.map .int))] [.t []]=some (.d (.bool true),[.t qs]):=by unfold toW;rw [e];rfl
 have hv:=sP (S:=⟨P,w,K,mg,base,s₁.os,#[],Pt⟩) (Z:=base.get?) hi;have hlen:=hv.length;rw [List.length_map] at hlen;refine codeAny_mono ((F base hKb (nsK hns) hB).run (us:=[.ref a]) hr ⟨[],rfl,fun _ z=>nomatch z⟩ md (Nat.le_of_eq hsz) R hbind (ws:=[.d (.list (ns.map .int))]) (.cons (rep_l.mpr ⟨a,_,vs,rfl,get ha haP,⟨⟨0,rfl⟩,by omega⟩,hv⟩) .nil) e') fun r s' ⟨u,hq,M',l,R',ru⟩=>?_;subst hq;cases wb.mp ru;obtain ⟨cs,hP',_,_⟩:=R'.cel 0 (Pt,Pt) (.t qs) (l.at rfl) rfl;have hP':s'.heap.get? Pt=some (PySem.W.tabObj (#[]++(dB qs cs).toArray)):=hP';have keep:∀ b o,b≠Pt->s₁.heap.get? b=some o->s'.heap.get? b=some o:=fun b o hb e=>R'.bk b o (get e hb);refine ⟨rfl,⟨fun b o e=>?_,fun b o e=>?_⟩,R'.os,R'.bare⟩
 ·by_cases hb:b=Pt
  ·subst hb;rw [hPt] at e;cases e;have C:=PySem.W.codeHd_of_K KX hcd;exact .inr (.inl ⟨(C.tab hPt).isCodeTable,rfl,#[],_,rfl,hP'⟩)
  ·exact .inl (keep b o hb e)
 ·by_cases hb:b=Pt
  ·subst hb;exact ⟨_,hP'⟩
  ·exact ⟨o,keep b o hb e⟩
def aK1 {l:PySem.W.OpenLaw} {n k:Nat} {q:Program} {loose:List Str} {XP:(Str->Option Value)->Heap->Prop} {YP:World->Heap->Prop} {d:DefRec} {K:Params->PySem.W.Frag} {m:XF} {x:Str} {Pt c0:Addr}
  (hn:l.most=some n) (hn2:n<=sizeLine) (hdf:d.params.defaults=[]) (hr:Room k callerA)
  (hY:∀ (w:World) (h:Heap),YP w h->(K w.params).In h/\h.get? Pt=some (PySem.W.tabObj #[])) (hKP:∀ w:World,(K w.params).lookup Pt=none) (hcd:∀ w:World,PySem.W.codeHdIn (K w.params) c0 Pt=true)
  (F:∀ (w:World) (mg:Str->Option Value) (fa:Addr) (h:Heap) (os:OsState),(K w.params).In h->h.Ns mainGlobals mg->mg d.name=some (.ref fa) ->
   ∃ fd:FuncData,(∀ (s:Shared) (u:Value),BindsTo s fd ⟨[u],[]⟩ [(x,u)])/\∀ base:Heap,(K w.params).In base->base.Ns mainGlobals mg->base.BuiltinsAt mg Pt->FnS ⟨l.prog,w,K w.params,mg,base,os,#[],Pt⟩ k fa fd [x] (toW m))
  (hm:∀ ns:List Int,ns.length<=n->∃ qs,m [.d (.list (ns.map .int))] [.t []]=some (.bool true,[.t qs])) :
  PySem.W.WalkO q loose XP YP l.row.toRowW d [] (fun f vs=>PySem.call f vs):=by
 refine Att.attach_call hn hdf fun w s₀ s₁ mg mb fa o pm cd doc a vs ns G Y ho hd hcd' hmg hobj hints hlen hg=>?_;obtain ⟨KX,hP⟩:=hY w _ Y;obtain ⟨fd,hb,hF⟩:=F w mg fa s₁.heap s₁.os KX G.T.g hmg;obtain ⟨qs,e⟩:=hm ns hlen;exact zT KX G.T.g G.T.b G.T.builtins G.T.nolimit hg hobj hints (Nat.le_trans hlen hn2) hr hP (hKP w) (hcd w) G.T.bmain hF (hb _ _) e
def FIT (K:PySem.W.Frag) (n:Str) (s:Stmt) (Pt:Addr):Prop:=∃ (f c0:Addr) (od an:Option Addr) (sl:Array (Option Value)) (oc kV dc pm ct:Value),PySem.W.nsIn K mainGlobals n=some (some (.ref f))/\K.lookup f=some ⟨oc,od,.func (PySem.W.fnOf n n (cB s) (bG s) (defScope s) .none kV dc pm an (.ref c0) ct),sl⟩/\PySem.W.codeIn K (.ref c0) n=true/\PySem.W.keepIn K (.ref f)=true/\PySem.W.codeHdIn K c0 Pt=true
def fit_mk {n:Str} {s:Stmt} {Pt f c0:Addr} {od an:Option Addr} {sl:Array (Option Value)} {oc kV dc pm ct:Value} (a:PySem.W.nsIn K mainGlobals n=some (some (.ref f))) (l:K.lookup f=some ⟨oc,od,.func (PySem.W.fnOf n n (cB s) (bG s) (defScope s) .none kV dc pm an (.ref c0) ct),sl⟩) (c:PySem.W.codeIn K (.ref c0) n=true) (k:PySem.W.keepIn K (.ref f)=true) (hd:PySem.W.codeHdIn K c0 Pt=true):FIT K n s Pt:=⟨_,_,_,_,_,_,_,_,_,_,a,l,c,k,hd⟩
def FIT.fi {n:Str} {s:Stmt} {Pt:Addr} (a:FIT K n s Pt):FI K n s:=by
 obtain ⟨f,c0,od,an,sl,oc,kV,dc,pm,ct,a,l,c,k,_⟩:=a;exact ⟨f,od,an,sl,oc,kV,dc,pm,.ref c0,ct,a,l,c,k⟩
def FIT.code {S:Sx} {h:Heap} {n:Str} {s s':Stmt} {f:Addr} {fd:FuncData} (a:FIT S.K n s S.tp) (X:S.K.In h) (G:h.Ns mainGlobals S.mg) (F:Fun S.K n n s' f fd) (hf:S.mg n=some (.ref f)) (htb:S.tb=#[]) (hbm:S.base.BuiltinsAt S.mg S.tp) (pos:Pos):∃ c0,fd.code=.ref c0/\TbS S c0 pos:=by
 obtain ⟨f',c0,od,an,sl,oc,kV,dc,pm,ct,a,l,c,k,hd⟩:=a;have e:=hf.symm.trans (PySem.W.mg_of X G a);cases e;obtain ⟨oc',od',kV',doc',pm',an',cdv',ct',osl',rfl,lk,_⟩:=F.ex;rw [l] at lk;have e2:=congrArg (fun o:Option Obj=>(o.map (·.data))) lk;have e3:Data.func (PySem.W.fnOf n n (cB s) (bG s) (defScope s) .none kV dc pm an (.ref c0) ct)=Data.func (PySem.W.fnOf n n (cB s') (bG s') (defScope s') .none kV' doc' pm' an' cdv' ct'):=Option.some.inj e2;have e4:=congrArg (fun d:Data=>match d with | .func fd=>fd.code | _=>.none) e3;have e5:Value.ref c0=cdv':=e4;exact ⟨c0,e5.symm,hd,by rw [htb];exact True.intro,by rw [htb];rfl,hbm⟩
end
end CI

namespace CI
open PySem PySem.Spec PyProof.Rows L2 DL
@[simp] theorem qR (j:Nat) (y x:PyData) (δ:DSt) (h:aA):fL j y x δ h=match h[j]?,y with
   | some (.l xs),.int k=>(ixN xs.length k).map fun n=>(δ,h.set j (.l (xs.set n x)))
   | some (.k kvs),_=>if (cP y).isSome=true/\kvs.length < sizeLine then some (δ,h.set j (.k (uD kvs y x))) else none
   | some (.r ws),.int k=>(ixN ws.length k).map fun n=>(δ,h.set j (.r (ws.set n (.d x))))
   | some (.n kvs),_=>if (gL y&&hkB 4 y)=true/\kvs.length < sizeLine then some (δ,h.set j (.n (uE kvs y x))) else none
   | _,_=>none:=rfl
@[simp] theorem cK5 (j:Nat) (x:PyData) (h:aA):uH (.c j) [.d x] h=match h[j]? with
 | some (.l xs)=>if xs.length < sizeLine then some (.d .none,h.set j (.l (xs++[x]))) else none
 | _=>none:=rfl
@[simp] theorem cK6 (j k:Nat) (h:aA):uH (.c j) [.c k] h=match h[j]? with
 | some (.r is)=>if is.length < sizeLine then some (.d .none,h.set j (.r (is++[.c k]))) else none
 | _=>none:=rfl
def bJ2 {a b:String} (h:Str.ofString a=Str.ofString b):a=b:=by
 simp only [Str.ofString_eq_byList] at h;unfold Str.ofStringByList at h;have h1:=congrArg Str.cps h;have h2:(a.toList.map Char.toNat)=(b.toList.map Char.toNat):=by
  have:=congrArg Array.toList h1
  simpa using this
 have h3:a.toList=b.toList:=by
  refine (List.map_inj_right ?_).mp h2;intro x y e;exact Char.toNat_inj.mp e
 exact String.toList_inj.mp h3
@[simp] theorem bU5 (a b:String):(Str.ofString a=Str.ofString b)=(a=b):=propext ⟨bJ2,fun e=>by rw [e]⟩
@[simp] theorem cH7 (a b:String):(Str.ofString a==Str.ofString b)=(a==b):=by
 rw [Bool.eq_iff_iff,beq_iff_eq,beq_iff_eq,bU5]
end CI
namespace DL
open PySem PySem.Spec PyProof.Rows L2
@[simp] theorem cH8 (i j:Int):PyData.eqv (.int i) (.int j)=decide (i=j):=by rw [PyData.eqv];exact Bool.beq_eq_decide_eq i j
@[simp] theorem cH9 (i j:Str):PyData.eqv (.str i) (.str j)=(i==j):=by rw [PyData.eqv]
@[simp] theorem at0 {a:PyData} {r:List PyData}:atI (a::r) 0=some a:=by simp [atI,ixN]
@[simp] theorem at1 {a b:PyData} {r:List PyData}:atI (a::b::r) 1=some b:=by
 have:(1:Int) < (r.length:Int)+1+1:=by omega
 simp [atI,ixN,this]
@[simp] theorem at2 {a b c:PyData} {r:List PyData}:atI (a::b::c::r) 2=some c:=by
 have:(2:Int) < (r.length:Int)+1+1+1:=by omega
 simp [atI,ixN,this]
@[simp] theorem at3 {a b c d:PyData} {r:List PyData}:atI (a::b::c::d::r) 3=some d:=by
 have:(3:Int) < (r.length:Int)+1+1+1+1:=by omega
 simp [atI,ixN,this]
@[simp] theorem ix0 (n:Nat):ixN (n+1) 0=some 0:=by
 have:(0:Int) < ((n+1:Nat):Int):=by omega
 simp only [ixN,this,Int.le_refl,if_true];rfl
def ix_nat {n i:Nat} (h:i < n):ixN n (i:Int)=some i:=by
 have h1:(i:Int) < (n:Int):=by omega
 have h2:(0:Int)<=(i:Int):=by omega
 simp [ixN,h1,h2]
@[simp] theorem bU6 (h:aA) (i:Nat) (a:Cell):(h.set i a).take h.length=h.set i a:=by
 rw [List.take_of_length_le (by simp)]
@[simp] theorem cM1:ixN 3 2=some 2:=rfl
@[simp] theorem cM2:ixN 3 0=some 0:=rfl
end DL
namespace L2
def eH {α:Type} {xs:List α} {j:Nat} {v:α} (h:xs[j]?=some v):atI xs (j:Int)=some v:=by
 unfold atI;rw [DL.ix_nat (List.getElem?_eq_some_iff.mp h).1];exact h
end L2
namespace DL
open PySem
def szl:sizeLine=16777216:=rfl
end DL

namespace CI
open PySem DL
@[simp] theorem bU7 {α β:Type} (x:XR α) (f:α->XR β) (δ:DSt) (h:aA):xb x f δ h=(x δ h).bind fun p=>f p.1 δ p.2:=rfl
@[simp] theorem sQ {α:Type} (a:α) (δ:DSt) (h:aA):aC a δ h=some (a,h):=rfl
@[simp] theorem cI0 {α:Type} (δ:DSt) (h:aA):(xno:XR α) δ h=none:=rfl
@[simp] theorem cE9 (i:Nat) (δ:DSt) (h:aA):aB i δ h=match δ[i]? with
 | some (some w)=>some (w,h)
 | _=>none:=rfl
def cY (h:aA):okP h h:=fun i c _ e=>.inr e
def kD {h h1:aA} (L:aA) (hl:h1.length=h.length) (k:okP h h1):okP h (h1++L):=fun i c hi e=>k i c hi (by rwa [List.getElem?_append_left (by omega)] at e)
def aK2 {h h1:aA} (i:Nat) (xs:List PyData) (k:okP h h1):okP h (h1.set i (.l xs)):=fun j c hj e=>by
 by_cases q:i=j
 ·subst q
  by_cases hi:i < h1.length
  ·rw [List.getElem?_set_self hi] at e;cases e;exact .inl fun m hm=>by cases hm
  ·rw [List.set_eq_of_length_le (by omega)] at e;exact k i c hj e
 ·rw [List.getElem?_set_ne q] at e;exact k j c hj e
@[simp] theorem cM3 (h:aA):okP h h=True:=eq_true (cY h)
@[simp] theorem cM4 (h L:aA):okP h (h++L)=True:=eq_true (kD L rfl (cY h))
def aK3 (h0:aA) (z:PyData) (h:aA) (ok:okP h0 h):aM h0 (.rt (.d z),h)=some (z,h.take h0.length):=by
 unfold aM;rw [if_pos ok]
def aK4 (h0:aA) (δ:DSt) (h:aA) (ok:okP h0 h):aM h0 (.nx δ,h)=some (.none,h.take h0.length):=by
 unfold aM;rw [if_pos ok]
@[simp] theorem aT7 (h:aA) (z:PyData):aM h (.rt (.d z),h)=some (z,h):=by rw [aK3 _ _ _ (cY h),List.take_length]
@[simp] theorem cF0 (h:aA) (δ:DSt):aM h (.nx δ,h)=some (.none,h):=by rw [aK4 _ _ _ (cY h),List.take_length]
@[simp] theorem cF1 (h L:aA) (z:PyData):aM h (.rt (.d z),h++L)=some (z,h):=by rw [aK3 _ _ _ (kD L rfl (cY h)),List.take_left'];rfl
@[simp] theorem cF2 (h L:aA) (δ:DSt):aM h (.nx δ,h++L)=some (.none,h):=by rw [aK4 _ _ _ (kD L rfl (cY h)),List.take_left'];rfl
@[simp] theorem cF3 (δ:DSt) (h:aA):iO (.nx δ,h)=some (.d .none,h):=rfl
@[simp] theorem cF4 (w:W) (h:aA):iO (.rt w,h)=some (w,h):=rfl
@[simp] theorem bM4 (δ:DSt):aK [] δ=[]:=rfl
@[simp] theorem bJ3 (r:List (Option Nat)) (δ:DSt):aK (none::r) δ=none::aK r δ:=rfl
@[simp] theorem bJ4 (i:Nat) (r:List (Option Nat)) (δ:DSt):aK (some i::r) δ=(δ[i]?).bind id::aK r δ:=rfl
@[simp] theorem bU8 (gs:List XG) (xs:List PyData) (δ:DSt) (h:aA):aP gs (.d (.tuple xs)) δ h=cT gs xs δ h:=rfl
@[simp] theorem bU9 (δ:DSt) (h:aA):cT [] [] δ h=some (δ,h):=rfl
@[simp] theorem bM5 (g:XG) (gs:List XG) (x:PyData) (xs:List PyData) (δ:DSt) (h:aA):cT (g::gs) (x::xs) δ h=(g (.d x) δ h).bind fun p=>cT gs xs p.1 p.2:=rfl
@[simp] theorem cK7 (h:aA) (x:PyData):ref h (.d x)=some x:=rfl
end CI

namespace CI
open PySem PySem.Spec PyProof.Rows L2 DL
section
variable {δ:DSt} {h:aA}
@[simp] theorem bV0 (x:XR Bool):bC x δ h=(x δ h).map asW:=rfl
@[simp] theorem cI1 (b:Bool):asW (b,h)=(.d (.bool b),h):=rfl
@[simp] theorem cI2 (op:CmpOp) (x y:XR W):xC1 op x y δ h=(x δ h).bind fun u=>(y δ u.2).bind fun w=>dC op u.1 w.1 w.2:=rfl
@[simp] theorem cI3 (op op':CmpOp) (x y z:XR W):xC2 op op' x y z δ h=(x δ h).bind fun u=>(y δ u.2).bind fun w=>(dC op u.1 w.1 w.2).bind fun p=>if p.1=true then (z δ p.2).bind fun q=>dC op' w.1 q.1 q.2 else some (false,p.2):=rfl
@[simp] theorem cI4 (op op' op'':CmpOp) (x y z t:XR W):xC3 op op' op'' x y z t δ h=(x δ h).bind fun u=>(y δ u.2).bind fun w=>(dC op u.1 w.1 w.2).bind fun p =>
 if p.1=true then (z δ p.2).bind fun q=>(dC op' w.1 q.1 q.2).bind fun p'=>if p'.1=true then (t δ p'.2).bind fun q'=>dC op'' q.1 q'.1 q'.2 else some (false,p'.2) else some (false,p.2):=rfl
@[simp] theorem bV1 (f:Str->Option PyData) (x:XR W):kG f x δ h=(x δ h).bind fun p=>(match p.1 with
 | .d (.str s)=>some (!(f s).isSome,p.2)
 | .d .none=>some (true,p.2)
 | _=>none):=by
 unfold kG;rw [bU7]
 congr 1
 funext p
 obtain ⟨w,h'⟩:=p;cases w with
 | d x=>cases x<;>rfl
 | c i=>rfl
@[simp] theorem cF5 (x:XR (List PyData)):aN x δ h=(x δ h).bind fun p=>some (.d (.list p.1),p.2):=rfl
@[simp] theorem bV2 (x:XR (List PyData)):aV x δ h=(x δ h).bind fun p=>some (.c p.2.length,p.2++[.l p.1]):=rfl
@[simp] theorem cI5 (x:XR (List W)):xPl x δ h=(x δ h).bind fun p=>(match gM p.1 with
 | some xs=>if xs.length<=sizeLine then some (xs,p.2) else none
 | none=>none):=rfl
@[simp] theorem cF6 (i:Nat) (x:XR W):aO i x δ h=(x δ h).bind fun p=>some (.nx (δ.set i (some p.1)),p.2):=rfl
@[simp] theorem bV3 (x:XR W):aS x δ h=(x δ h).bind fun p=>(match p.1 with
 | .d (.list xs)=>some ((xs,none),p.2)
 | .d (.tuple xs)=>some ((xs,none),p.2)
 | .c i=>(match p.2[i]? with
  | some (.l xs)=>some ((xs,some (i,false)),p.2)
  | _=>none)
 | _=>none):=rfl
@[simp] theorem bJ5:gM []=some []:=rfl
@[simp] theorem bV4 (x:PyData) (r:List W):gM (.d x::r)=(gM r).map (x::·):=rfl
@[simp] theorem cI6 (i j:Int):dC .Lt (.d (.int i)) (.d (.int j)) h=some (decide (i < j),h):=rfl
@[simp] theorem cI7 (i j:Int):dC .LtE (.d (.int i)) (.d (.int j)) h=some (decide (i<=j),h):=rfl
@[simp] theorem cI8 (i j:Int):dC .Gt (.d (.int i)) (.d (.int j)) h=some (decide (j < i),h):=rfl
@[simp] theorem cI9 (i j:Int):dC .GtE (.d (.int i)) (.d (.int j)) h=some (decide (j<=i),h):=rfl
@[simp] theorem cJ0 (u w:W):dC .Eq u w h=(xEq u w h).map fun b=>(b,h):=rfl
@[simp] theorem cJ1 (u w:W):dC .NotEq u w h=(xEq u w h).map fun b=>(!b,h):=rfl
@[simp] theorem cJ2 (u w:W):dC .Is u w h=(xIs u w).map fun b=>(b,h):=rfl
@[simp] theorem bM6 (u w:W):dC .IsNot u w h=(xIs u w).map fun b=>(!b,h):=rfl
@[simp] theorem cJ3 (u w:W):dC .In u w h=(xIn u w h).map fun b=>(b,h):=rfl
@[simp] theorem bM7 (u w:W):dC .NotIn u w h=(xIn u w h).map fun b=>(!b,h):=rfl
def xU (a b:PyData):xEq (.d a) (.d b) h=if (aJ 64 a&&aJ 64 b)=true then some (PyData.eqv a b) else none:=rfl
@[simp] theorem cF7 (n:Nat):aJ n .none=true:=by rw [aJ]
@[simp] theorem cF8 (n:Nat) (b:Bool):aJ n (.bool b)=true:=by rw [aJ]
@[simp] theorem bJ6 (n:Nat) (i:Int):aJ n (.int i)=true:=by rw [aJ]
@[simp] theorem cJ4 (n:Nat) (x:Str):aJ n (.str x)=true:=by rw [aJ]
@[simp] theorem aT8 (n:Nat) (xs:List PyData):aJ (n+1) (.list xs)=plainsB n xs:=by rw [aJ]
@[simp] theorem aK5 (n:Nat) (xs:List PyData):aJ (n+1) (.tuple xs)=plainsB n xs:=by rw [aJ]
@[simp] theorem aT9 (n:Nat):plainsB n []=true:=by rw [plainsB]
@[simp] theorem sR (n:Nat) (x:PyData) (xs:List PyData):plainsB n (x::xs)=(aJ n x&&plainsB n xs):=by rw [plainsB]
@[simp] theorem cF9 (i j:Int):xEq (.d (.int i)) (.d (.int j)) h=some (decide (i=j)):=by rw [xU];simp [PyData.eqv];exact Bool.beq_eq_decide_eq i j
@[simp] theorem cG0 (x y:Str):xEq (.d (.str x)) (.d (.str y)) h=some (x==y):=by simp [xU,PyData.eqv]
@[simp] theorem bV5 (x y:Bool):xEq (.d (.bool x)) (.d (.bool y)) h=some (x==y):=by cases x<;>cases y<;>simp [xU,PyData.eqv]
@[simp] theorem aZ5 (y:Str):xEq (.d .none) (.d (.str y)) h=some false:=by simp [xU,PyData.eqv]
@[simp] theorem cK8 (x:PyData):aY [.d x] h=(match x with
  | .list xs=>some (.d (.int xs.length),h)
  | .tuple xs=>some (.d (.int xs.length),h)
  | _=>none):=by cases x<;>rfl
@[simp] theorem cG1 (xs:List PyData):aZ [.d (.list xs)] h=some (.d (.tuple xs),h):=rfl
@[simp] theorem cG2 (xs:List PyData):aZ [.d (.tuple xs)] h=some (.d (.tuple xs),h):=rfl
@[simp] theorem bV6 (xs:List PyData):iL [.d (.list xs)] h=(cZ xs).map fun bs=>(.d (.bool (bs.all id)),h):=rfl
@[simp] theorem ix_t (xs:List PyData) (i:Int):xIx (.d (.tuple xs)) (.d (.int i)) h=(atI xs i).map fun v=>(.d v,h):=rfl
@[simp] theorem cM5 (xs:List PyData) (i:Int):xIx (.d (.list xs)) (.d (.int i)) h=(atI xs i).map fun v=>(.d v,h):=rfl
@[simp] theorem sl_t (xs:List PyData) (lo hi:Option Int):xSl (.d (.tuple xs)) lo hi h=some (.d (.tuple (cut xs lo hi)),h):=rfl
@[simp] theorem sl_l (xs:List PyData) (lo hi:Option Int):xSl (.d (.list xs)) lo hi h=some (.d (.list (cut xs lo hi)),h):=rfl
@[simp] theorem bM8 (i j:Int):gN .Add (.d (.int i)) (.d (.int j)) h=some (.d (.int (i+j)),h):=rfl
@[simp] theorem bM9 (i j:Int):gN .Sub (.d (.int i)) (.d (.int j)) h=some (.d (.int (i - j)),h):=rfl
@[simp] theorem bN0 (i j:Int):gN .Mult (.d (.int i)) (.d (.int j)) h=if gE i j=true then some (.d (.int (i*j)),h) else none:=rfl
@[simp] theorem bN1 (i j:Int):gN .FloorDiv (.d (.int i)) (.d (.int j)) h=if cG j=true then some (.d (.int (i / j)),h) else none:=rfl
@[simp] theorem bN2 (i j:Int):gN .Mod (.d (.int i)) (.d (.int j)) h=if 0 < j then some (.d (.int (i%j)),h) else none:=rfl
@[simp] theorem bN3 (i j:Int):gN .Pow (.d (.int i)) (.d (.int j)) h=if lR i j=true then some (.d (.int (i^j.toNat)),h) else none:=rfl
@[simp] theorem bN4 (xs ys:List PyData):gN .Add (.d (.tuple xs)) (.d (.tuple ys)) h=if xs.length+ys.length<=sizeLine then some (.d (.tuple (xs++ys)),h) else none:=rfl
@[simp] theorem bN5 (xs ys:List PyData):gN .Add (.d (.list xs)) (.d (.list ys)) h=if xs.length+ys.length<=sizeLine then some (.d (.list (xs++ys)),h) else none:=rfl
@[simp] theorem cJ (xs:List PyData):condB none xs h=true:=rfl
theorem dI {g:XG} {te:XR W} {all:List PyData} (f:PyData->PyData) (k:Nat) (hg:∀ w δ h,g w δ h=some (δ.set k (some w),h)) :
  ∀ (rest:List PyData) (δ:DSt) (ac:List PyData),(∀ x∈rest,∀ u,te ((δ.set k u).set k (some (.d x))) h=some (.d (f x),h))->aG g (aC true) te none all rest δ h ac=some (ac++rest.map f,h)
 | [],δ,ac,_=>by simp [aG]
 | x::r,δ,ac,hf=>by
  have e:=hf x List.mem_cons_self none;rw [List.set_set] at e;rw [aG,cJ,if_pos rfl,hg];simp only [Option.bind_some,sQ,if_true,e];rw [dI f k hg r _ _ fun y hy u=>by
   have:=hf y (List.mem_cons_of_mem _ hy) u;rw [List.set_set] at this ⊢;rw [List.set_set];exact this]
  simp
theorem iD {f:PyData->Bool}:∀ xs:List PyData,cZ (xs.map fun x=>.bool (f x))=some (xs.map f)
 | []=>rfl
 | x::r=>by rw [List.map_cons,cZ,iD r];rfl
theorem all_map {f:PyData->Bool} {h:aA} (xs:List PyData):iL [.d (.list (xs.map fun x=>.bool (f x)))] h=some (.d (.bool (xs.all f)),h):=by
 rw [bV6,iD,Option.map_some,List.all_map];rfl
end
end CI

namespace CI
open PySem PySem.Spec PyProof.Rows L2 DL
abbrev S3:=Int×Int×Int
noncomputable def stL (s:S3):Cell:=.l [.int s.1,.int s.2.1,.int s.2.2]
def iE {i:Int} (h1:-(2^64) < i) (h2:i < 2^64) (j:Int):gE i j=true:=by
 unfold gE;rw [decide_eq_true h1,decide_eq_true h2];rfl
def aU0 {j:Int} (h1:-(2^64) < j) (h2:j < 2^64) (i:Int):gE i j=true:=by
 unfold gE;rw [decide_eq_true h1,decide_eq_true h2,Bool.and_self,Bool.or_true]
def oX {h L:aA} {i:Nat} {c:Cell} (hi:i < h.length):h.set i c++L=(h++L).set i c:=(List.set_append_left _ _ hi).symm
def aU1 {h:aA} {i:Nat} {xs:List PyData} (hi:i < h.length):ref (h.set i (.l xs)) (.c i)=some (.list xs):=by
 simp [ref,hi]
@[simp] theorem cM6 {h:aA} {i:Nat} {xs:List PyData} (hi:i < h.length) (k:Int):xIx (.c i) (.d (.int k)) (h.set i (.l xs))=(atI xs k).map fun v=>(.d v,h.set i (.l xs)):=by
 unfold xIx;rw [aU1 hi]
end CI

namespace CI
open PySem PySem.Spec PyProof.Rows L2 DL
variable (h:aA)
@[simp] theorem cJ5 (L:aA) (i:Nat) (c:Cell):(h.set i c++L).take h.length=h.set i c:=by
 rw [List.take_append_of_le_length (by simp)];simp
end CI

namespace CI
open PySem PySem.Spec PyProof.Rows L2 DL
theorem mV {g:XG} {te:XR W} {all:List PyData} {h:aA} (J:DSt->Prop) :
  ∀ (ps:List (PyData×PyData)) (δ:DSt) (ac:List PyData),J δ->(∀ p∈ps,∀ δ,J δ->∃ δ1,g (.d p.1) δ h=some (δ1,h)/\J δ1/\te δ1 h=some (.d p.2,h))->aG g (aC true) te none all (ps.map (·.1)) δ h ac=some (ac++ps.map (·.2),h)
 | [],δ,ac,_,_=>by simp [aG]
 | x::r,δ,ac,j,hf=>by
  obtain ⟨δ1,e1,j1,e2⟩:=hf x List.mem_cons_self δ j;rw [List.map_cons,aG];simp [e1,e2,aC];rw [mV J r δ1 (ac++[x.2]) j1 fun y hy=>hf y (List.mem_cons_of_mem _ hy)];simp
@[simp] theorem cJ6 (xs:List PyData) (h:aA):jT (.d (.list xs)) h=some ((cR xs,none),h):=rfl
@[simp] theorem vM (xs:List PyData) (h:aA):jT (.d (.tuple xs)) h=some ((cR xs,none),h):=rfl
@[simp] theorem cJ7 (xs:List PyData):lQ (.d (.tuple xs))=some xs:=rfl
@[simp] theorem cJ8 (xs:List PyData):lQ (.d (.list xs))=some xs:=rfl
def bJ7 (a:PyData) (xs:List PyData) (h:aA):xIn (.d a) (.d (.tuple xs)) h=if (aJ 64 (.tuple xs)&&aJ 64 a)=true then some (xs.any fun z=>PyData.eqv z a) else none:=rfl
@[simp] theorem bV7 (x a b:Str) (h:aA):xIn (.d (.str x)) (.d (.tuple [.str a,.str b])) h=some (a==x||b==x):=by
 rw [bJ7];simp [PyData.eqv]
end CI

namespace CI
open PySem PySem.Spec PyProof.Rows L2 DL ST
theorem sS {g:XG} {tb:XS} {all:List PyData} (I:DSt->aA->Prop):∀ (rest:List PyData),(∀ x∈rest,∀ δ h,I δ h->∃ δ1 h1 δ2 h2,g (.d x) δ h=some (δ1,h1)/\tb δ1 h1=some (.nx δ2,h2)/\I δ2 h2) ->
  ∀ (δ:DSt) (h:aA),I δ h->∃ δ' h',bB g tb none all rest δ h=some (.nx δ',h')/\I δ' h'
 | [],_,δ,h,i=>⟨δ,h,by simp [bB],i⟩
 | x::r,ht,δ,h,i=>by
  obtain ⟨δ1,h1,δ2,h2,e1,e2,i2⟩:=ht x List.mem_cons_self δ h i;obtain ⟨δ3,h3,e3,i3⟩:=sS I r (fun y hy=>ht y (List.mem_cons_of_mem _ hy)) δ2 h2 i2;refine ⟨δ3,h3,?_,i3⟩;rw [bB,cJ,if_pos rfl,e1];simp only [Option.bind_some,e2];exact e3
def oY {g:XG} {tb:XS} {all:List PyData} (I:DSt->aA->Prop) (rest:List PyData) (ht:∀ x∈rest,∀ δ h,I δ h->∃ δ1 h1,g (.d x) δ h=some (δ1,h1)/\∃ δ2 h2,tb δ1 h1=some (.nx δ2,h2)/\I δ2 h2) (δ:DSt) (h:aA) (i:I δ h) :
  ∃ δ' h',bB g tb none all rest δ h=some (.nx δ',h')/\I δ' h':=sS I rest (fun x hx δ h i=>let ⟨δ1,h1,e1,δ2,h2,e2,i2⟩:=ht x hx δ h i;⟨δ1,h1,δ2,h2,e1,e2,i2⟩) δ h i
section
variable (h:aA)
@[simp] theorem bV8:cA []=some []:=rfl
@[simp] theorem bN6 (i:Int) (r:List PyData):cA (.int i::r)=(cA r).map (i::·):=rfl
@[simp] theorem cK9:xIs (.d .none) (.d .none)=some true:=rfl
@[simp] theorem cL0 (i:Int):xIs (.d (.int i)) (.d .none)=some false:=rfl
@[simp] theorem cL1 (xs:List PyData):xIs (.d (.tuple xs)) (.d .none)=some false:=rfl
def get_last (c:Cell):(h++[c])[h.length]?=some c:=by simp
def set_last (c c':Cell):(h++[c]).set h.length c'=h++[c']:=by simp
def mpre_last (xs:List PyData):iV "append" (.c h.length) (h++[.l xs])=true:=by
 unfold iV;rw [if_pos rfl];simp
def aU2 {lo:Int} {n:Nat} {x:PyData} (hx:x∈rng lo n):∃ k:Nat,k < n/\x=.int (lo+k):=by
 unfold rng at hx;obtain ⟨k,hk,rfl⟩:=List.mem_map.mp hx;exact ⟨k,by simpa using hk,rfl⟩
end
end CI

namespace CI
open PySem PySem.Spec PyProof.Rows L2 DL ST
@[simp high] theorem bs {α β:Type} (a:α) (f:α->Option β):(some a).bind f=f a:=id rfl
@[simp high] theorem xv0 (w:W) (l:DSt) (h:aA):aB 0 (some w::l) h=some (w,h):=id rfl
@[simp high] theorem xv1 {x0:Option W} (w:W) (l:DSt) (h:aA):aB 1 (x0::some w::l) h=some (w,h):=id rfl
@[simp high] theorem xv2 {x0 x1:Option W} (w:W) (l:DSt) (h:aA):aB 2 (x0::x1::some w::l) h=some (w,h):=id rfl
@[simp high] theorem xv3 {x0 x1 x2:Option W} (w:W) (l:DSt) (h:aA):aB 3 (x0::x1::x2::some w::l) h=some (w,h):=id rfl
@[simp high] theorem xv4 {x0 x1 x2 x3:Option W} (w:W) (l:DSt) (h:aA):aB 4 (x0::x1::x2::x3::some w::l) h=some (w,h):=id rfl
@[simp high] theorem xv5 {x0 x1 x2 x3 x4:Option W} (w:W) (l:DSt) (h:aA):aB 5 (x0::x1::x2::x3::x4::some w::l) h=some (w,h):=id rfl
@[simp high] theorem xv6 {x0 x1 x2 x3 x4 x5:Option W} (w:W) (l:DSt) (h:aA):aB 6 (x0::x1::x2::x3::x4::x5::some w::l) h=some (w,h):=id rfl
@[simp high] theorem xv7 {x0 x1 x2 x3 x4 x5 x6:Option W} (w:W) (l:DSt) (h:aA):aB 7 (x0::x1::x2::x3::x4::x5::x6::some w::l) h=some (w,h):=id rfl
@[simp high] theorem xv8 {x0 x1 x2 x3 x4 x5 x6 x7:Option W} (w:W) (l:DSt) (h:aA):aB 8 (x0::x1::x2::x3::x4::x5::x6::x7::some w::l) h=some (w,h):=id rfl
@[simp high] theorem xv9 {x0 x1 x2 x3 x4 x5 x6 x7 x8:Option W} (w:W) (l:DSt) (h:aA):aB 9 (x0::x1::x2::x3::x4::x5::x6::x7::x8::some w::l) h=some (w,h):=id rfl
@[simp high] theorem cM7 {x0 x1 x2 x3 x4 x5 x6 x7 x8 x9 x10:Option W} (w:W) (l:DSt) (h:aA):aB 11 (x0::x1::x2::x3::x4::x5::x6::x7::x8::x9::x10::some w::l) h=some (w,h):=id rfl
@[simp high] theorem cM8 {x0 x1 x2 x3 x4 x5 x6 x7 x8 x9 x10 x11:Option W} (w:W) (l:DSt) (h:aA):aB 12 (x0::x1::x2::x3::x4::x5::x6::x7::x8::x9::x10::x11::some w::l) h=some (w,h):=id rfl
@[simp high] theorem cM9 {x0 x1 x2 x3 x4 x5 x6 x7 x8 x9 x10 x11 x12:Option W} (w:W) (l:DSt) (h:aA):aB 13 (x0::x1::x2::x3::x4::x5::x6::x7::x8::x9::x10::x11::x12::some w::l) h=some (w,h):=id rfl
theorem xV {g:XG} {tt:XR Bool} {te:XR W} {all:List PyData} {h:aA} (p:PyData->Bool) (f:PyData->PyData) (I:DSt->Prop):∀ (xs:List PyData) (δ:DSt) (ac:List PyData),I δ ->
  (∀ x∈xs,∀ δ,I δ->∃ δ',g (.d x) δ h=some (δ',h)/\I δ'/\tt δ' h=some (p x,h)/\(p x=true->te δ' h=some (.d (f x),h)))->aG g tt te none all xs δ h ac=some (ac++(xs.filter p).map f,h)
 | [],δ,ac,_,_=>by simp [aG]
 | x::r,δ,ac,i,hx=>by
  obtain ⟨δ',e1,i',e2,e3⟩:=hx x List.mem_cons_self δ i;have ih:=fun ac=>xV (all:=all) p f I r δ' ac i' fun y hy=>hx y (List.mem_cons_of_mem _ hy);rw [aG,cJ,if_pos rfl,e1];simp only [bs,e2];cases hp:p x with
  | true=>rw [if_pos rfl,e3 hp];simp only [bs];rw [ih];simp [hp]
  | false=>rw [if_neg (by simp)];rw [ih];simp [hp]
def aK6 {g:XG} {te:XR W} {all:List PyData} {h:aA} (f:PyData->PyData) (I:DSt->Prop) (xs:List PyData) (δ:DSt) (i:I δ)
  (hx:∀ x∈xs,∀ δ,I δ->∃ δ',g (.d x) δ h=some (δ',h)/\I δ'/\te δ' h=some (.d (f x),h)):aG g (aC true) te none all xs δ h []=some (xs.map f,h):=by
 have:=xV (g:=g) (tt:=aC true) (te:=te) (all:=all) (h:=h) (fun _=>true) f I xs δ [] i fun x m δ i=>by
  obtain ⟨δ',a,b,c⟩:=hx x m δ i;exact ⟨δ',a,b,rfl,fun _=>c⟩
 rw [this,List.filter_eq_self.mpr (fun _ _=>rfl),List.nil_append]
def forX_find {α β:Type} {g:XG} {tb:XS} {all:List PyData} {h:aA} (F:α->PyData) (fd:α->Option β) (wd:β->W) (I:DSt->Prop) (qs:List α) {δ:DSt} (hi:I δ)
  (ht:∀ q∈qs,∀ δ,I δ->∃ δ1,g (.d (F q)) δ h=some (δ1,h)/\((∃ b,fd q=some b/\tb δ1 h=some (.rt (wd b),h))\/(fd q=none/\∃ δ2,tb δ1 h=some (.nx δ2,h)/\I δ2))) :
  (∃ b,qs.findSome? fd=some b/\bB g tb none all (qs.map F) δ h=some (.rt (wd b),h))\/(qs.findSome? fd=none/\∃ δ',I δ'/\bB g tb none all (qs.map F) δ h=some (.nx δ',h)):=by
 induction qs generalizing δ with
 | nil=>exact .inr ⟨rfl,δ,hi,by simp [bB]⟩
 | cons q r ih =>
  obtain ⟨δ1,e1,hh⟩:=ht q List.mem_cons_self δ hi;rw [List.map_cons,bB,cJ,if_pos rfl,e1];rcases hh with ⟨b,e2,e3⟩ | ⟨e2,δ2,e3,i2⟩
  ·refine .inl ⟨b,by rw [List.findSome?_cons,e2],?_⟩;simp only [bs,e3]
  ·rw [List.findSome?_cons,e2];simp only [bs,e3];exact ih i2 fun y hy=>ht y (List.mem_cons_of_mem _ hy)
def dJ {g:XG} {tb:XS} {all:List PyData} {P:DSt->aA->Prop} (I:Nat->DSt->aA->Prop) {rest:List PyData} {δ:DSt} {h:aA} (hi:I 0 δ h) (hP:∀ δ h,I rest.length δ h->P δ h)
  (ht:∀ n (hn:n < rest.length) δ h,I n δ h->∃ δ1 h1,g (.d rest[n]) δ h=some (δ1,h1)/\∃ δ2 h2,tb δ1 h1=some (.nx δ2,h2)/\I (n+1) δ2 h2):∃ δ' h',bB g tb none all rest δ h=some (.nx δ',h')/\P δ' h':=by
 suffices H:∀ (r:List PyData) (n:Nat) (δ:DSt) (h:aA),(∃ p,rest=p++r/\p.length=n)->I n δ h->∃ δ' h',bB g tb none all r δ h=some (.nx δ',h')/\I rest.length δ' h' by
  obtain ⟨δ',h',e,i⟩:=H rest 0 δ h ⟨[],rfl,rfl⟩ hi;exact ⟨δ',h',e,hP δ' h' i⟩
 intro r;induction r with
 | nil =>
  rintro n δ h ⟨p,e1,e2⟩ i;subst e2;simp at e1;subst e1;exact ⟨δ,h,by simp [bB],i⟩
 | cons x r ih =>
  rintro n δ h ⟨p,e1,e2⟩ i;have hn:n < rest.length:=by rw [e1];simp;omega
  have hx:rest[n]=x:=by subst e2;subst e1;simp
  obtain ⟨δ1,h1,e1',δ2,h2,e2',i2⟩:=ht n hn δ h i;rw [hx] at e1';obtain ⟨δ3,h3,e3,i3⟩:=ih (n+1) δ2 h2 ⟨p++[x],by simp [e1],by simp [e2]⟩ i2;refine ⟨δ3,h3,?_,i3⟩;rw [bB,cJ,if_pos rfl,e1'];simp only [bs,e2'];exact e3
def rng_len (lo:Int) (n:Nat):(rng lo n).length=n:=by simp [rng]
def jM {i j:Nat} (hi:i<=100) (hj:j<=100):cU i j=true:=by
 unfold cU;simp only [Bool.and_eq_true,decide_eq_true_eq];omega
@[simp] theorem at4 (a b c e f:PyData) (r:List PyData):atI (a::b::c::e::f::r) 4=some f:=eH (j:=4) (by simp)
@[simp] theorem at5 (a b c e f g:PyData) (r:List PyData):atI (a::b::c::e::f::g::r) 5=some g:=eH (j:=5) (by simp)
end CI

namespace CI
open PySem DL
variable {h L:aA} {i:Nat} {c c':Cell}
open Classical in
@[simp] theorem qS (h0:aA) (z:PyData) (h1:aA):aM h0 (.rt (.d z),h1)=if okP h0 h1 then some (z,h1.take h0.length) else none:=rfl
open Classical in
@[simp] theorem aK7 (h0:aA) (δ:DSt) (h1:aA):aM h0 (.nx δ,h1)=if okP h0 h1 then some (PyData.none,h1.take h0.length) else none:=rfl
def xW (xs:List PyData):okP (h.set i c) (h.set i (.l xs)):=by
 have:=aK2 i xs (cY (h.set i c))
 rwa [List.set_set] at this
@[simp] theorem cL2 (xs:List PyData):okP (h.set i c) (h.set i (.l xs))=True:=eq_true (xW xs)
@[simp] theorem cL3 (s:S3):okP (h.set i c) (h.set i (stL s))=True:=eq_true (xW _)
@[simp] theorem cL4 (xs:List PyData):okP (h.set i c) (h.set i (.l xs)++L)=True:=eq_true (kD L (by simp) (xW xs))
@[simp] theorem bJ8 (s:S3):okP (h.set i c) (h.set i (stL s)++L)=True:=eq_true (kD L (by simp) (xW _))
@[simp] theorem cL5 (s:S3) (hi:i < h.length):okP (h.set i c) ((h++L).set i (stL s))=True:=by rw [<- oX hi,bJ8]
@[simp] theorem cJ9:(h.set i c).take h.length=h.set i c:=List.take_of_length_le (by simp)
@[simp] theorem bV9:(h.set i c++L).take h.length=h.set i c:=by rw [List.take_append_of_le_length (by simp),cJ9]
@[simp] theorem cL6 (hi:i < h.length):((h++L).set i c).take h.length=h.set i c:=by rw [<- oX hi,bV9]
end CI

namespace SJ
open PySem
set_option genInjectivity true in
inductive One where
 | read (k:Nat) | write (k:Nat) (v:Int) | add (k:Nat) (n:Int) | swap (k:Nat) (o n:Int)
set_option genInjectivity true in
inductive Call where
 | one (c:One) | span (lo hi:Nat) | deal (cs:List One)
set_option genInjectivity true in
inductive Stp where
 | call (c:Call) | look (c:Call) | lay (ps:List (Nat×Int))
def One.dat:One->PyData
 | .read k=>.tuple [.str "read",.int k]
 | .write k v=>.tuple [.str "write",.int k,.int v]
 | .add k n=>.tuple [.str "add",.int k,.int n]
 | .swap k o n=>.tuple [.str "swap",.int k,.int o,.int n]
def One.key:One->Nat
 | .read k=>k | .write k _=>k | .add k _=>k | .swap k _ _=>k
def Call.dat:Call->PyData
 | .one c=>c.dat
 | .span lo hi=>.tuple [.str "span",.int lo,.int hi]
 | .deal cs=>.tuple [.str "deal",.tuple (cs.map One.dat)]
def One.ok (c:One):Prop:=c.key < 8
noncomputable def Call.ok:Call->Prop
 | .one c=>c.ok
 | .span lo hi=>lo < hi/\hi<=8
 | .deal cs=>cs.length<=4/\1<=cs.length/\∀ c∈cs,c.ok
noncomputable def nums (st:List Int):List PyData:=st.map .int
noncomputable def got (v:Int):PyData:=.tuple [.str "got",.int v]
noncomputable def dn:PyData:=.tuple [.str "done"]
noncomputable def yes:PyData:=.tuple [.str "yes"]
def no:PyData:=.tuple [.str "no"]
end SJ

namespace SJ
open PySem
mutual
noncomputable def sok:PyData->Bool
 | .str x=>PyData.strOk x
 | .list xs=>decide (xs.length<=1000)&&soks xs
 | .tuple xs=>decide (xs.length<=1000)&&soks xs
 | _=>true
noncomputable def soks:List PyData->Bool
 | []=>true
 | x::r=>sok x&&soks r
end
def zU {x:PyData} {xs:List PyData}:soks (x::xs)=true ↔ sok x=true/\soks xs=true:=by rw [soks,Bool.and_eq_true]
noncomputable def fP:PyData->Bool
 | .int _=>true
 | _=>false
noncomputable def dF (x:PyData) (lo hi:Int):Bool:=match x with
 | .int i=>decide (lo<=i)&&decide (i<=hi)
 | _=>false
def jN (x:PyData):Bool:=dF x 0 7
noncomputable def fB:PyData->Int->Bool
 | .tuple xs,n=>decide ((xs.length:Int)=n)
 | _,_=>false
noncomputable def eQ:PyData->PyData
 | .tuple (.str s::_)=>.str s
 | _=>.none
noncomputable def aR (x:PyData) (s:Str) (n:Int):Bool:=match x with
 | .tuple (.str t::r)=>(t==s)&&decide ((r.length:Int)+1=n)
 | _=>false
def nb (s:Str):Option Int:=if s=Str.ofString "read" then some 0 else if s=Str.ofString "write" then some 1 else if s=Str.ofString "add" then some 1 else if s=Str.ofString "swap" then some 2 else none
def bX:PyData->Bool
 | .tuple (.str s::r)=>match nb s with
  | some n=>(decide ((r.length:Int)+1=2+n))&&(match r with
   | k::vs=>jN k&&vs.all fP
   | []=>false)
  | none=>false
 | _=>false
noncomputable def fQ:PyData->Bool
 | .tuple [.str s,.int a,.int b]=>(s==Str.ofString "span")&&decide (0<=a)&&decide (a < b)&&decide (b<=8)
 | _=>false
def gV:PyData->Bool
 | .tuple [.str s,.tuple ps]=>(s==Str.ofString "deal")&&decide (1<=ps.length)&&decide (ps.length<=4)&&ps.all bX
 | _=>false
def eU (x:PyData):Bool:=bX x||fQ x||gV x
def kE:PyData->Bool
 | .tuple [.str s,c]=>(s==Str.ofString "look")&&eU c
 | _=>false
def eV:PyData->Bool
 | .tuple [k,v]=>jN k&&fP v
 | _=>false
noncomputable def kU:PyData->Int
 | .int i=>i
 | _=>0
noncomputable def oZ:PyData->PyData
 | .tuple (k::_)=>k
 | _=>.none
noncomputable def bW0 (ns:List Int):Bool:=(List.range (ns.length - 1)).all fun k=>decide (ns.getD k 0 < ns.getD (k+1) 0)
def pA:PyData->Bool
 | .tuple [.str s,.tuple ps]=>(s==Str.ofString "lay")&&!ps.isEmpty&&ps.all eV&&bW0 (ps.map fun p=>kU (oZ p))
 | _=>false
def qT (x:PyData):Bool:=eU x||kE x||pA x
end SJ

namespace SJ
open PySem PySem.Spec PyProof.Rows L2 DL
def aU3:nb "read"=some 0:=by decide +kernel
def aK8:nb "write"=some 1:=by decide +kernel
def bJ9:nb "add"=some 1:=by decide +kernel
def aU4:nb "swap"=some 2:=by decide +kernel
def aU5:PyData.strOk "read"=true:=by decide +kernel
def aK9:PyData.strOk "write"=true:=by decide +kernel
def bK0:PyData.strOk "add"=true:=by decide +kernel
def aU6:PyData.strOk "swap"=true:=by decide +kernel
end SJ

namespace SJ
open PySem PySem.Spec PyProof.Rows L2 DL
def aU7:PyData.strOk "span"=true:=by decide +kernel
def aU8:PyData.strOk "deal"=true:=by decide +kernel
def bK1 {k:Nat} (h:k < 8):jN (.int k)=true:=by
 simp [jN,dF];omega
def mW {o:One} (h:o.ok):bX o.dat=true/\sok o.dat=true:=by
 have h':o.key < 8:=h;cases o<;>simp [One.key] at h'<;>simp [One.dat,bX,aU3,aK8,bJ9,aU4,bK1 h',fP,sok,soks,aU5,aK9,bK0,aU6]
theorem sT:∀ {cs:List One},(∀ c∈cs,c.ok)->(cs.map One.dat).all bX=true/\soks (cs.map One.dat)=true
 | [],_=>⟨rfl,rfl⟩
 | c::r,h=>by
  obtain ⟨h1,h2⟩:=mW (h c List.mem_cons_self);obtain ⟨h3,h4⟩:=sT fun z hz=>h z (List.mem_cons_of_mem _ hz);rw [List.map_cons,List.all_cons,h1,h3,zU];exact ⟨rfl,h2,h4⟩
def fE {o:SJ.Call} (h:o.ok):eU o.dat=true/\qT o.dat=true/\sok o.dat=true:=by
 have hc:eU o.dat=true/\sok o.dat=true:=by
  cases o with
  | one c =>
   obtain ⟨h1,h2⟩:=mW (o:=c) h;exact ⟨by simp [eU,Call.dat,h1],h2⟩
  | span lo hi =>
   obtain ⟨h1,h2⟩:=h;refine ⟨?_,by simp [Call.dat,sok,soks,aU7]⟩;have e1:(0:Int)<=lo:=by omega
   have e2:(lo:Int) < hi:=by omega
   have e3:(hi:Int)<=8:=by omega
   simp [eU,Call.dat,fQ,e2,e3]
  | deal cs =>
   obtain ⟨h1,h2,h3⟩:=h;obtain ⟨h4,h5⟩:=sT h3;refine ⟨?_,by simp [Call.dat,sok,soks,aU8,h5];omega⟩;simp only [eU,Call.dat,gV,h4,List.length_map];simp [h1,h2]
 exact ⟨hc.1,by simp [qT,hc.1],hc.2⟩
end SJ

namespace SJ
open PySem
set_option genInjectivity true in
inductive An1 where
 | got (v:Int) | dn | yes | no
def An1.dat:An1->PyData
 | .got v=>.tuple [.str "got",.int v]
 | .dn=>.tuple [.str "done"]
 | .yes=>.tuple [.str "yes"]
 | .no=>.tuple [.str "no"]
def An1.fits:One->An1->Prop
 | .read _,.got _=>True
 | .add _ _,.got _=>True
 | .write _ _,.dn=>True
 | .swap _ _ _,.yes=>True
 | .swap _ _ _,.no=>True
 | _,_=>False
set_option genInjectivity true in
inductive Ans where
 | one (a:An1) | all (ns:List Int) | each (as:List An1)
def Ans.dat:Ans->PyData
 | .one a=>a.dat
 | .all ns=>.tuple [.str "all",.tuple (ns.map .int)]
 | .each as=>.tuple [.str "each",.tuple (as.map An1.dat)]
set_option genInjectivity true in
inductive Fit2:List One->List An1->Prop
 | nil:Fit2 [] []
 | cons {o:One} {a:An1} {os:List One} {as:List An1} (h:An1.fits o a) (t:Fit2 os as):Fit2 (o::os) (a::as)
def Ans.fits:Call->Ans->Prop
 | .one o,.one a=>An1.fits o a
 | .span lo hi,.all ns=>ns.length=hi - lo
 | .deal cs,.each as=>Fit2 cs as
 | _,_=>False
def cO (o:One) (t:PyData):Bool:=match o with
 | .read _=>(match t with
  | .tuple [.str s,v]=>(s==Str.ofString "got")&&fP v
  | _=>false)
 | .add _ _=>(match t with
  | .tuple [.str s,v]=>(s==Str.ofString "got")&&fP v
  | _=>false)
 | .write _ _=>aR t "done" 1
 | .swap _ _ _=>aR t "yes" 1||aR t "no" 1
def eI:List One->List PyData->Bool
 | o::os,t::ts=>cO o t&&eI os ts
 | _,_=>true
def bN (c:Call) (t:PyData):Bool:=match c with
 | .one o=>cO o t
 | .span lo hi=>(match t with
  | .tuple [.str s,.tuple xs]=>(s==Str.ofString "all")&&decide ((xs.length:Int)=(hi:Int) - lo)&&xs.all fP
  | _=>false)
 | .deal cs=>(match t with
  | .tuple [.str s,.tuple xs]=>(s==Str.ofString "each")&&decide (xs.length=cs.length)&&eI cs xs
  | _=>false)
theorem Fit2.length:∀ {os:List One} {as:List An1},Fit2 os as->as.length=os.length
 | _,_,.nil=>rfl
 | _,_,.cons _ t=>by simp [t.length]
def sU {o:One} {a:An1} (h:An1.fits o a):cO o a.dat=true:=by
 cases o<;>cases a<;>first | exact False.elim h | rfl
theorem pB:∀ {os:List One} {as:List An1},Fit2 os as->eI os (as.map An1.dat)=true
 | _,_,.nil=>rfl
 | _,_,.cons h t=>by simp [eI,sU h,pB t]
def zV {c:Call} {a:Ans} (h:Ans.fits c a) (hc:c.ok):bN c a.dat=true:=by
 cases c<;>cases a<;>first | exact False.elim h | skip
 ·exact sU h
 ·rename_i lo hi ns;have:=hc.1
  replace h:ns.length=hi - lo:=h
  simp [bN,Ans.dat,h,fP];omega
 ·rename_i cs as
  replace h:Fit2 cs as:=h
  simp [bN,Ans.dat,pB h,h.length]
end SJ

noncomputable section
namespace K46
open PySem PySem.Spec PyProof.Rows L2 DL CI SJ
def body:List Stmt:=PySem.Challenge.pw_storejudge_k46_what_each_hand_sees.main.body.filter fun s=>!aJ9 "_law_answers" s
noncomputable def cv (x:Str):List Str:=if x="left_by" then ["left"] else if x="look_entries" then ["entries"] else if x="hand_entries" then ["entries"] else if x="key_entries" then ["entries"] else if x="pairs_where" then ["pairs"] else if x="triples_of" then ["triples"] else if x="_law_moved" then ["_law_rows[]"] else if x="_law_history" then ["_law_deeds","_law_rows","_law_stand","_law_rows[]"] else if x="_law_hand" then ["_law_items","_law_numbers","_law_pairs"] else if x="_law_dense" then ["_law_deeds","_law_free_here","_law_stand","_law_free_here"] else if x="_law_far" then ["_law_deeds"] else if x="law" then ["_law_owners","_law_told"] else if x="problems_of" then ["return"] else if x="deeds_of" then ["return"] else []
noncomputable def wf (x:Str):Bool:=decide (x="problems_of")||decide (x="deeds_of")||decide (x="_law_moved")
noncomputable def qn (x:Str):Option (Str×Pos):=if x="taking_part" then some ("taking_part.<locals>.",⟨200,31,200,64⟩) else none
def T:Top:=(aZ4 body (fun _=>[]) cv 100000 60 wf (qn:=qn)).fv ["really_ahead","ahead_by_hand"]
end K46

namespace K46
open PySem PySem.Spec PyProof.Rows L2 DL CI
noncomputable def YE:Fl×aA->Option (Fl×aA):=fun p=>match p.1 with
  | Fl.nx δ'=>some (Fl.nx δ',p.2)
  | f=>some (f,p.2)
theorem cK0 :YE=fun p=>match p.1 with
 | Fl.nx δ'=>some (Fl.nx δ',p.2)
 | f=>some (f,p.2):=rfl
def YN:W->XR (List W):=fun w=>xb (aC []) fun ws=>aC (w::ws)
@[simp] theorem fR :YN=fun w=>xb (aC []) fun ws=>aC (w::ws):=rfl
def YC (w:W):List W->XR (List W):=fun ws=>aC (w::ws)
@[simp] theorem fS (w:W):YC w=fun ws=>aC (w::ws):=rfl
def YF (d:Nat) (s:String):List W->XR W:=fun ws x h=>Option.bind (aD T d (Str.ofString s) ws h) fun p=>some (W.d p.1,p.2)
@[simp] theorem fF (d:Nat) (s:String):YF d s=fun ws x h=>Option.bind (aD T d (Str.ofString s) ws h) fun p=>some (W.d p.1,p.2):=rfl
def YI (n:Int):W->XR W:=fun x=>xb (aC (W.d (PyData.int n))) fun y x_1 h=>xIx x y h
@[simp] theorem gX (n:Int):YI n=fun x=>xb (aC (W.d (PyData.int n))) fun y x_1 h=>xIx x y h:=rfl
def YB (o:Operator) (n:Int):W->XR W:=fun u=>xb (aC (W.d (PyData.int n))) fun w x h=>gN o u w h
@[simp] theorem gY (o:Operator) (n:Int):YB o n=fun u=>xb (aC (W.d (PyData.int n))) fun w x h=>gN o u w h:=rfl
def YO (o:Operator) (u:W):W->XR W:=fun w x h=>gN o u w h
@[simp] theorem gZ (o:Operator) (u:W):YO o u=fun w x h=>gN o u w h:=rfl
def YT:List PyData->XR W:=fun xs=>aC (W.d (PyData.tuple xs))
@[simp] theorem fT :YT=fun xs=>aC (W.d (PyData.tuple xs)):=rfl
noncomputable def YW:W×aA->Option (Fl×aA):=fun p=>some (Fl.rt p.1,p.2)
@[simp] theorem cN0 :YW=fun p=>some (Fl.rt p.1,p.2):=rfl
def YS (s:String):XR W:=aC (W.d (PyData.str (Str.ofString s)))
@[simp] theorem hH (s:String):YS s=aC (W.d (PyData.str (Str.ofString s))):=rfl
def YJ (n:Int):XR W:=aC (W.d (PyData.int n))
@[simp] theorem fU (n:Int):YJ n=aC (W.d (PyData.int n)):=rfl
noncomputable def YK (f:List W->aA->Option (W×aA)):List W->XR W:=fun ws x h=>f ws h
@[simp] theorem cN1 (f:List W->aA->Option (W×aA)):YK f=fun ws x h=>f ws h:=rfl
noncomputable def YQ (k:DSt->Fl×aA->Option (Fl×aA)):Fl×aA->Option (Fl×aA):=fun p=>match p.1 with
  | Fl.nx δ'=>k δ' p
  | f=>some (f,p.2)
noncomputable def YP {α β:Type} (x:Option α) (f:α->Option β):Option β:=Option.bind x f
@[simp] theorem cN2 {α β:Type} (x:Option α) (f:α->Option β):YP x f=Option.bind x f:=rfl
noncomputable def YG (i:Nat):XG:=fun w δ h=>some (List.set δ i (some w),h)
@[simp] theorem dR (i:Nat):YG i=fun w δ h=>some (List.set δ i (some w),h):=rfl
def YZ:XR W:=aC (W.d PyData.none)
@[simp] theorem gH:YZ=aC (W.d PyData.none):=rfl
def YV (i:Nat) (n:Int):XR W:=xb (aB i) (YI n)
@[simp] theorem hJ (i:Nat) (n:Int):YV i n=xb (aB i) (YI n):=rfl
def YA (e:XR (List W)):W->XR W:=fun w δ h=>if iV (Str.ofString "append") w h=true then Option.bind (e δ h) fun p=>uH w p.1 p.2 else none
@[simp] theorem cN3 (e:XR (List W)):YA e=fun w δ h=>if iV (Str.ofString "append") w h=true then Option.bind (e δ h) fun p=>uH w p.1 p.2 else none:=rfl
def YR :W->XR (List PyData×Cw):=fun w x h=>match w with
  | W.d (PyData.int j)=>if cU 0 j=true then some ((rng 0 (Int.toNat j),none),h) else none
  | x=>none
@[simp] theorem cN4 :YR =fun w x h=>match w with
  | W.d (PyData.int j)=>if cU 0 j=true then some ((rng 0 (Int.toNat j),none),h) else none
  | x=>none:=rfl
def YD :W->XR Bool:=fun w=>match w with
  | W.d (PyData.bool b)=>aC b
  | x=>xno
@[simp] theorem cK1 :YD =fun w=>match w with
  | W.d (PyData.bool b)=>aC b
  | x=>xno:=rfl
def YU :W->XR (Option Int):=fun w=>match w with
  | W.d (PyData.int i)=>aC (some i)
  | x=>xno
@[simp] theorem cN5 :YU =fun w=>match w with
  | W.d (PyData.int i)=>aC (some i)
  | x=>xno:=rfl
def YX (x:W):W->XR W:=fun y _ h=>xIx x y h
@[simp] theorem fV (x:W):YX x=fun y _ h=>xIx x y h:=rfl
def YS3 (x:W) (l:Option Int):Option Int->XR W:=fun u _ h=>xSl x l u h
@[simp] theorem cL7 (x:W) (l:Option Int):YS3 x l=fun u _ h=>xSl x l u h:=rfl
def YT2 (b:Bool) (δ:DSt):Bool×aA->Option (Fl×aA):=fun p=>if p.1=true then YP (YP (aC (W.d (PyData.bool b)) δ p.2) YW) YE else some (Fl.nx δ,p.2)
@[simp] theorem cL8 (b:Bool) (δ:DSt):YT2 b δ=fun p=>if p.1=true then YP (YP (aC (W.d (PyData.bool b)) δ p.2) YW) YE else some (Fl.nx δ,p.2):=rfl
def YNg :W->XR W:=fun w=>match w with
  | W.d (PyData.int i)=>aC (W.d (PyData.int (-i)))
  | x=>xno
@[simp] theorem cL9 :YNg =fun w=>match w with
  | W.d (PyData.int i)=>aC (W.d (PyData.int (-i)))
  | x=>xno:=rfl
def Y1 (a:XR W):XR (List W):=xb a YN
@[simp] theorem fW (a:XR W):Y1 a=xb a YN:=rfl
def Y2 (a b:XR W):XR (List W):=xb a fun w=>xb (Y1 b) (YC w)
@[simp] theorem fX (a b:XR W):Y2 a b=xb a fun w=>xb (Y1 b) (YC w):=rfl
def Y3 (a b c:XR W):XR (List W):=xb a fun w=>xb (Y2 b c) (YC w)
@[simp] theorem hO (a b c:XR W):Y3 a b c=xb a fun w=>xb (Y2 b c) (YC w):=rfl
def Y4 (a b c e:XR W):XR (List W):=xb a fun w=>xb (Y3 b c e) (YC w)
@[simp] theorem hU (a b c e:XR W):Y4 a b c e=xb a fun w=>xb (Y3 b c e) (YC w):=rfl
def Y5 (a b c e f:XR W):XR (List W):=xb a fun w=>xb (Y4 b c e f) (YC w)
@[simp] theorem hV (a b c e f:XR W):Y5 a b c e f=xb a fun w=>xb (Y4 b c e f) (YC w):=rfl
def Y6 (a b c e f g:XR W):XR (List W):=xb a fun w=>xb (Y5 b c e f g) (YC w)
@[simp] theorem cN6 (a b c e f g:XR W):Y6 a b c e f g=xb a fun w=>xb (Y5 b c e f g) (YC w):=rfl
def Y7 (a b c e f g i:XR W):XR (List W):=xb a fun w=>xb (Y6 b c e f g i) (YC w)
@[simp] theorem cN7 (a b c e f g i:XR W):Y7 a b c e f g i=xb a fun w=>xb (Y6 b c e f g i) (YC w):=rfl
def vN (d:Nat) (w0:W) (h:aA):aD T (d+1) "is_whole" [w0] h =
 YP
 (YP
 (YP
 (xb (xb (aB 0) fun (w:W) (x:DSt) (h:aA)=>YP (ref h w) fun (d:PyData)=>if noD d=true then some (W.d (PyData.bool (isi d "int")),h) else none)
 (fun (w:W) =>
 match w with
     | W.d (PyData.bool true) =>
      xb (xb (aB 0) fun (w:W) (x:DSt) (h:aA)=>YP (ref h w) fun (d:PyData)=>if noD d=true then some (W.d (PyData.bool (isi d "bool")),h) else none) fun (w:W) =>
 match w with
       | W.d (PyData.bool b)=>aC (W.d (PyData.bool !b))
       | x=>xno
     | W.d (PyData.bool false)=>aC (W.d (PyData.bool false))
     | x=>xno)
 [some w0] h)
 YW)
 YE)
 (aM h):=by kernel_rfl
def qU (d:Nat) (w0 w1 w2:W) (h:aA):aD T (d+1) "is_between" [w0,w1,w2] h =
 YP
 (YP
 (YP
 (xb (xb (Y1 (aB 0)) (YF d "is_whole"))
 (fun (w:W) =>
 match w with
     | W.d (PyData.bool true)=>bC (xC2 CmpOp.LtE CmpOp.LtE (aB 1) (aB 0) (aB 2))
     | W.d (PyData.bool false)=>aC (W.d (PyData.bool false))
     | x=>xno)
 [some w0,some w1,some w2] h)
 YW)
 YE)
 (aM h):=by kernel_rfl
def nS (d:Nat) (w0 w1:W) (h:aA):aD T (d+1) "is_tuple_of" [w0,w1] h =
 YP
 (YP
 (YP
 (xb (xb (aB 0) fun (w:W) (x:DSt) (h:aA)=>YP (ref h w) fun (d:PyData)=>if noD d=true then some (W.d (PyData.bool (isi d "tuple")),h) else none)
 (fun (w:W) =>
 match w with
     | W.d (PyData.bool true)=>bC (xC1 CmpOp.Eq (xb (Y1 (aB 0)) (YK aY)) (aB 1))
     | W.d (PyData.bool false)=>aC (W.d (PyData.bool false))
     | x=>xno)
 [some w0,some w1] h)
 YW)
 YE)
 (aM h):=by kernel_rfl
def sV (d:Nat) (w0:W) (h:aA):aD T (d+1) "are_whole" [w0] h =
 YP
 (YP (YP (xb (Y1 (aN (xb (aS (aB 0)) fun (p:List PyData×Cw) (δ:DSt) (h:aA)=>aG (YG 0) (aC true) (xb (Y1 (aB 0)) (YF d "is_whole")) p.2 p.1 p.1 (aK [none] δ) h []))) (YK iL) [some w0] h) YW) YE)
 (aM h):=by kernel_rfl
def qV (d:Nat) (w0:W) (h:aA):aD T (d+1) "are_rising" [w0] h =
 YP
 (YP
 (YP
 (xb
 (Y1 (aN
 (xb
 (xb (xb (xb (Y1 (aB 0)) (YK aY)) (YB .Sub 1)) YR)
 fun (p:List PyData×Cw) (δ:DSt) (h:aA)=>aG (YG 0) (aC true) (bC (xC1 CmpOp.Lt (xb (aB 1) fun x=>xb (aB 0) (YX x)) (xb (aB 1) fun x=>xb (xb (aB 0) (YB .Add 1)) (YX x)))) p.2 p.1 p.1 (aK [none,some 0] δ) h [])))
 (YK iL) [some w0] h)
 YW)
 YE)
 (aM h):=by kernel_rfl
def aL0 (d:Nat) (w0:W) (h:aA):aD T (d+1) "is_key" [w0] h =
 YP
 (YP (YP (xb (Y3 (aB 0) (YJ 0) (YJ 7)) ((YF d "is_between")) [some w0] h) YW) YE)
 (aM h):=by kernel_rfl
def iF (d:Nat) (w0:W) (h:aA):aD T (d+1) "word_of" [w0] h =
 YP
 (YP
 (YP
 (xb
 (xb (xb (aB 0) fun (w:W) (x:DSt) (h:aA)=>YP (ref h w) fun (d:PyData)=>if noD d=true then some (W.d (PyData.bool (isi d "tuple")),h) else none) YD)
 (fun c =>
 if c=true then
 xb (xC1 CmpOp.Gt (xb (Y1 (aB 0)) (YK aY)) (YJ 0)) fun c =>
 if c=true then
 xb (xb (YV 0 0) fun (w:W) (x:DSt) (h:aA)=>YP (ref h w) fun (d:PyData)=>if noD d=true then some (W.d (PyData.bool (isi d "str")),h) else none) YD
 else aC false
 else aC false)
 [some w0] h)
 fun p =>
 if p.1=true then
 YP (YP (xb (aB 0) (YI 0) [some w0] p.2) YW) YE
 else some (Fl.nx [some w0],p.2))
 (YQ fun δ' p =>
 YP (YP (YZ δ' p.2) YW) YE))
 (aM h):=by kernel_rfl
def sW (d:Nat) (w0 w1 w2:W) (h:aA):aD T (d+1) "is_worded" [w0,w1,w2] h =
 YP
 (YP
 (YP
 (xb (bC (xC1 CmpOp.Eq (xb (Y1 (aB 0)) (YF d "word_of")) (aB 1)))
 (fun (w:W) =>
 match w with
     | W.d (PyData.bool true)=>bC (xC1 CmpOp.Eq (xb (Y1 (aB 0)) (YK aY)) (aB 2))
     | W.d (PyData.bool false)=>aC (W.d (PyData.bool false))
     | x=>xno)
 [some w0,some w1,some w2] h)
 YW)
 YE)
 (aM h):=by kernel_rfl
def sX (d:Nat) (w0:W) (h:aA):aD T (d+1) "is_single" [w0] h =
 YP
 (YP (aO 1 (xb (Y1 (aB 0)) (YF d "word_of")) [some w0,none] h) (YQ fun δ' p =>
   YP
    (YP
     (xb (kG (fun (z:Str)=>List.lookup z [(Str.ofString "read",PyData.int 0),(Str.ofString "write",PyData.int 1),(Str.ofString "add",PyData.int 1),(Str.ofString "swap",PyData.int 2)]) (aB 1))
      (fun c =>
       if c=true then aC true
       else
        xC1 CmpOp.NotEq (xb (Y1 (aB 0)) (YK aY))
         (xb (YJ 2) fun (u:W) =>
          xb
           (xb (aB 1) fun (w:W) =>
            match w with
            | W.d (PyData.str z) =>
             match List.lookup z [(Str.ofString "read",PyData.int 0),(Str.ofString "write",PyData.int 1),(Str.ofString "add",PyData.int 1),(Str.ofString "swap",PyData.int 2)] with
             | some i=>aC (W.d i)
             | none=>xno
            | x=>xno)
           (YO .Add u)))
      δ' p.2)
     (YT2 false δ'))
    (YQ fun δ' p =>
     YP
      (YP
       (xb (xb (Y1 (YV 0 1)) (YF d "is_key"))
        (fun (w:W) =>
         match w with
         | W.d (PyData.bool true) =>
          xb
           (Y1 (xb (aB 0) fun (x:W) =>
             xb
              (xb (YJ 2) YU)
              fun (l:Option Int)=>xb (aC none) (YS3 x l)))
           (YF d "are_whole")
         | W.d (PyData.bool false)=>aC (W.d (PyData.bool false))
         | x=>xno)
        δ' p.2)
       YW)
      YE)))
 (aM h):=by kernel_rfl
def zW (d:Nat) (w0:W) (h:aA):aD T (d+1) "is_span" [w0] h =
 YP
 (YP
 (YP
 (xb
 (xb
 (xb (xb (Y3 (aB 0) (YS "span") (YJ 3)) (YF d "is_worded")) YD)
 fun (b:Bool)=>aC !b)
 (fun c =>
 if c=true then aC true
 else
 xb
 (xb
 (xb
 (Y1 (xb (aB 0) fun (x:W) =>
 xb
 (xb (YJ 1) YU)
 fun (l:Option Int)=>xb (aC none) (YS3 x l)))
 (YF d "are_whole"))
 YD)
 fun (b:Bool)=>aC !b)
 [some w0] h)
 (YT2 false [some w0]))
 (YQ fun δ' p =>
 YP (YP (bC (xC3 CmpOp.LtE CmpOp.Lt CmpOp.LtE (YJ 0) (YV 0 1) (YV 0 2) (xb (YJ 7) (YB .Add 1))) δ' p.2) YW) YE))
 (aM h):=by kernel_rfl
def zX (d:Nat) (w0:W) (h:aA):aD T (d+1) "is_deal" [w0] h =
 YP
 (YP
 (YP
 (xb
 (xb
 (xb (xb (Y3 (aB 0) (YS "deal") (YJ 2)) (YF d "is_worded")) YD)
 fun (b:Bool)=>aC !b)
 (fun c =>
 if c=true then aC true
 else
 xb
 (xb (xb (YV 0 1) fun (w:W) (x:DSt) (h:aA)=>YP (ref h w) fun (d:PyData)=>if noD d=true then some (W.d (PyData.bool (isi d "tuple")),h) else none) YD)
 fun (b:Bool)=>aC !b)
 [some w0] h)
 (YT2 false [some w0]))
 (YQ fun δ' p =>
 YP
 (YP
 (xb (bC (xC2 CmpOp.LtE CmpOp.LtE (YJ 1) (xb (Y1 (YV 0 1)) (YK aY)) (YJ 4)))
 (fun (w:W) =>
 match w with
       | W.d (PyData.bool true)=>xb (Y1 (aN (xb (aS (YV 0 1)) fun (p:List PyData×Cw) (δ:DSt) (h:aA)=>aG (YG 0) (aC true) (xb (Y1 (aB 0)) (YF d "is_single")) p.2 p.1 p.1 (aK [none] δ) h []))) (YK iL)
       | W.d (PyData.bool false)=>aC (W.d (PyData.bool false))
       | x=>xno)
 δ' p.2)
 YW)
 YE))
 (aM h):=by kernel_rfl
def zY (d:Nat) (w0:W) (h:aA):aD T (d+1) "is_call" [w0] h =
 YP
 (YP
 (YP
 (xb (xb (Y1 (aB 0)) (YF d "is_single"))
 (fun (w:W) =>
 match w with
     | W.d (PyData.bool true)=>aC (W.d (PyData.bool true))
     | W.d (PyData.bool false) =>
      xb (xb (Y1 (aB 0)) (YF d "is_span")) fun (w:W) =>
 match w with
       | W.d (PyData.bool true)=>aC (W.d (PyData.bool true))
       | W.d (PyData.bool false)=>xb (Y1 (aB 0)) (YF d "is_deal")
       | x=>xno
     | x=>xno)
 [some w0] h)
 YW)
 YE)
 (aM h):=by kernel_rfl
def zZ (d:Nat) (w0:W) (h:aA):aD T (d+1) "is_look" [w0] h =
 YP
 (YP
 (YP
 (xb (xb (Y3 (aB 0) (YS "look") (YJ 2)) (YF d "is_worded"))
 (fun (w:W) =>
 match w with
     | W.d (PyData.bool true)=>xb (Y1 (YV 0 1)) (YF d "is_call")
     | W.d (PyData.bool false)=>aC (W.d (PyData.bool false))
     | x=>xno)
 [some w0] h)
 YW)
 YE)
 (aM h):=by kernel_rfl
def kW (d:Nat) (w0:W) (h:aA):aD T (d+1) "is_value_pair" [w0] h =
 YP
 (YP
 (YP
 (xb (xb (Y2 (aB 0) (YJ 2)) (YF d "is_tuple_of"))
 (fun (w:W) =>
 match w with
     | W.d (PyData.bool true) =>
      xb (xb (Y1 (YV 0 0)) (YF d "is_key")) fun (w:W) =>
 match w with
       | W.d (PyData.bool true)=>xb (Y1 (YV 0 1)) (YF d "is_whole")
       | W.d (PyData.bool false)=>aC (W.d (PyData.bool false))
       | x=>xno
     | W.d (PyData.bool false)=>aC (W.d (PyData.bool false))
     | x=>xno)
 [some w0] h)
 YW)
 YE)
 (aM h):=by kernel_rfl
def aL1 (d:Nat) (w0:W) (h:aA):aD T (d+1) "is_lay" [w0] h =
 YP
 (YP
 (YP
 (xb
 (xb
 (xb (xb (Y3 (aB 0) (YS "lay") (YJ 2)) (YF d "is_worded")) YD)
 fun (b:Bool)=>aC !b)
 (fun c =>
 if c=true then aC true
 else
 xb
 (xb
 (xb (xb (YV 0 1) fun (w:W) (x:DSt) (h:aA)=>YP (ref h w) fun (d:PyData)=>if noD d=true then some (W.d (PyData.bool (isi d "tuple")),h) else none) YD)
 fun (b:Bool)=>aC !b)
 fun c=>if c=true then aC true else xC1 CmpOp.Eq (xb (Y1 (YV 0 1)) (YK aY)) (YJ 0))
 [some w0] h)
 (YT2 false [some w0]))
 (YQ fun δ' p =>
 YP
 (YP
 (xb
 (xb (xb (Y1 (aN (xb (aS (YV 0 1)) fun (p:List PyData×Cw) (δ:DSt) (h:aA)=>aG (YG 0) (aC true) (xb (Y1 (aB 0)) (YF d "is_value_pair")) p.2 p.1 p.1 (aK [none] δ) h []))) (YK iL)) YD)
 (fun (b:Bool)=>aC !b) δ' p.2)
 (YT2 false δ'))
 (YQ fun δ' p =>
 YP (YP (xb (Y1 (aN (xb (aS (YV 0 1)) fun (p:List PyData×Cw) (δ:DSt) (h:aA)=>aG (YG 0) (aC true) (YV 0 0) p.2 p.1 p.1 (aK [none] δ) h []))) ((YF d "are_rising")) δ' p.2) YW) YE)))
 (aM h):=by kernel_rfl
def aA0 (d:Nat) (w0:W) (h:aA):aD T (d+1) "is_step" [w0] h =
 YP
 (YP
 (YP
 (xb (xb (Y1 (aB 0)) (YF d "is_call"))
 (fun (w:W) =>
 match w with
     | W.d (PyData.bool true)=>aC (W.d (PyData.bool true))
     | W.d (PyData.bool false) =>
      xb (xb (Y1 (aB 0)) (YF d "is_look")) fun (w:W) =>
 match w with
       | W.d (PyData.bool true)=>aC (W.d (PyData.bool true))
       | W.d (PyData.bool false)=>xb (Y1 (aB 0)) (YF d "is_lay")
       | x=>xno
     | x=>xno)
 [some w0] h)
 YW)
 YE)
 (aM h):=by kernel_rfl
def sY (d:Nat) (w0 w1:W) (h:aA):aD T (d+1) "is_answer" [w0,w1] h =
 YP
 (YP
 (YP
 (xb
 (xb (xb (Y1 (aB 0)) (YF d "is_step")) YD)
 (fun (b:Bool)=>aC !b) [some w0,some w1] h)
 (YT2 false [some w0,some w1]))
 (YQ fun δ' p =>
 YP
 (YP
 (xb (xb (Y3 (aB 1) (YS "refused") (YJ 1)) (YF d "is_worded"))
 (YD)
 δ' p.2)
 fun p =>
 if p.1=true then
 YP (YP (xb (Y1 (aB 0)) ((YF d "is_call")) δ' p.2) YW) YE
 else some (Fl.nx δ',p.2))
 (YQ fun δ' p =>
 YP (YP (xb (Y2 (aB 0) (aB 1)) ((YF d "is_own_answer")) δ' p.2) YW) YE)))
 (aM h):=by kernel_rfl
def bF (d:Nat) (w0 w1:W) (h:aA):aD T (d+1) "is_own_answer" [w0,w1] h =
 YP
 (YP (aO 2 (YV 0 0) [some w0,some w1,none] h) (YQ fun δ' p =>
 YP
 (YP (xC1 CmpOp.In (aB 2) (xb (xPl (Y2 (YS "read") (YS "add"))) YT) δ' p.2) fun p =>
 if p.1=true then
 YP
 (YP
 (xb (xb (Y3 (aB 1) (YS "got") (YJ 2)) (YF d "is_worded"))
 (fun (w:W) =>
 match w with
          | W.d (PyData.bool true)=>xb (Y1 (YV 1 1)) (YF d "is_whole")
          | W.d (PyData.bool false)=>aC (W.d (PyData.bool false))
          | x=>xno)
 δ' p.2)
 YW)
 YE
 else some (Fl.nx δ',p.2))
 (YQ fun δ' p =>
 YP
 (YP (xC1 CmpOp.In (aB 2) (xb (xPl (Y2 (YS "write") (YS "lay"))) YT) δ' p.2) fun p =>
 if p.1=true then
 YP (YP (xb (Y3 (aB 1) (YS "done") (YJ 1)) ((YF d "is_worded")) δ' p.2) YW) YE
 else some (Fl.nx δ',p.2))
 (YQ fun δ' p =>
 YP
 (YP (xC1 CmpOp.Eq (aB 2) (YS "swap") δ' p.2) fun p =>
 if p.1=true then
 YP
 (YP
 (xb (xb (Y3 (aB 1) (YS "yes") (YJ 1)) (YF d "is_worded"))
 (fun (w:W) =>
 match w with
              | W.d (PyData.bool true)=>aC (W.d (PyData.bool true))
              | W.d (PyData.bool false)=>xb (Y3 (aB 1) (YS "no") (YJ 1)) (YF d "is_worded")
              | x=>xno)
 δ' p.2)
 YW)
 YE
 else some (Fl.nx δ',p.2))
 (YQ fun δ' p =>
 YP
 (YP (xC1 CmpOp.Eq (aB 2) (YS "span") δ' p.2) fun p =>
 if p.1=true then
 YP
 (YP
 (xb (xb (Y3 (aB 1) (YS "all") (YJ 2)) (YF d "is_worded"))
 (fun (w:W) =>
 match w with
                | W.d (PyData.bool true) =>
                 xb (xb (Y2 (YV 1 1) (xb (YV 0 2) fun u=>xb (YV 0 1) (YO .Sub u))) (YF d "is_tuple_of")) fun (w:W) =>
 match w with
                  | W.d (PyData.bool true)=>xb (Y1 (YV 1 1)) (YF d "are_whole")
                  | W.d (PyData.bool false)=>aC (W.d (PyData.bool false))
                  | x=>xno
                | W.d (PyData.bool false)=>aC (W.d (PyData.bool false))
                | x=>xno)
 δ' p.2)
 YW)
 YE
 else some (Fl.nx δ',p.2))
 (YQ fun δ' p =>
 YP
 (YP (xC1 CmpOp.Eq (aB 2) (YS "look") δ' p.2) fun p =>
 if p.1=true then
 YP (YP (xb (Y2 (YV 0 1) (aB 1)) ((YF d "is_own_answer")) δ' p.2) YW) YE
 else some (Fl.nx δ',p.2))
 (YQ fun δ' p =>
 YP
 (YP
 (xb
 (xb
 (xb (xb (Y3 (aB 1) (YS "each") (YJ 2)) (YF d "is_worded")) YD)
 fun (b:Bool)=>aC !b)
 (fun c =>
 if c=true then aC true
 else
 xb
 (xb (xb (Y2 (YV 1 1) (xb (Y1 (YV 0 1)) (YK aY))) (YF d "is_tuple_of")) YD)
 fun (b:Bool)=>aC !b)
 δ' p.2)
 (YT2 false δ'))
 (YQ fun δ' p =>
 YP
 (YP
 (xb
 (Y1 (aN
 (xb
 (xb (YV 0 1) fun (u:W) =>
 xb (YV 1 1) fun (w:W) (x:DSt) (h:aA) =>
 match lQ u,lQ w with
                       | some xs,some ys=>some ((jS xs ys,none),h)
                       | x,x_1=>none)
 fun (p:List PyData×Cw) (δ:DSt) (h:aA)=>aG (aP [YG 0,YG 1]) (aC true) (xb (Y2 (aB 0) (aB 1)) (YF d "is_own_answer")) p.2 p.1 p.1 (aK [none,none] δ) h [])))
 (YK iL) δ' p.2)
 YW)
 YE))))))))
 (aM h):=by kernel_rfl
def fY (d:Nat) (w0:W) (h:aA):aD T (d+1) "may_change" [w0] h =
 YP
 (YP
 (YP (xC1 CmpOp.Eq (YV 0 0) (YS "deal") [some w0] h) fun p =>
 if p.1=true then
 YP (YP (xb (Y1 (aN (xb (aS (YV 0 1)) fun (p:List PyData×Cw) (δ:DSt) (h:aA)=>aG (YG 0) (aC true) (xb (Y1 (aB 0)) (YF d "may_change")) p.2 p.1 p.1 (aK [none] δ) h []))) (YK rQ) [some w0] p.2) YW) YE
 else some (Fl.nx [some w0],p.2))
 (YQ fun δ' p =>
 YP (YP (bC (xC1 CmpOp.In (YV 0 0) (aC (W.d (PyData.tuple (List.reverse [PyData.str (Str.ofString "swap"),PyData.str (Str.ofString "add"),PyData.str (Str.ofString "write")]))))) δ' p.2) YW) YE))
 (aM h):=by kernel_rfl
def aA1 (d:Nat) (w0:W) (h:aA):aD T (d+1) "is_time" [w0] h =
 YP
 (YP
 (YP
 (xb (xb (Y1 (aB 0)) (YF d "is_whole"))
 (fun (w:W) =>
 match w with
     | W.d (PyData.bool true)=>bC (xC1 CmpOp.GtE (aB 0) (YJ 0))
     | W.d (PyData.bool false)=>aC (W.d (PyData.bool false))
     | x=>xno)
 [some w0] h)
 YW)
 YE)
 (aM h):=by kernel_rfl
def pC (d:Nat) (w0:W) (h:aA):aD T (d+1) "is_deed" [w0] h =
 YP
 (YP
 (YP
 (xb
 (xb
 (xb (xb (Y2 (aB 0) (YJ 5)) (YF d "is_tuple_of")) YD)
 fun (b:Bool)=>aC !b)
 (fun c =>
 if c=true then aC true
 else
 xb
 (xb (xb (Y3 (YV 0 0) (YJ 0) (YJ 5)) (YF d "is_between")) YD)
 fun (b:Bool)=>aC !b)
 [some w0] h)
 (YT2 false [some w0]))
 (YQ fun δ' p =>
 YP
 (YP
 (xb
 (xb
 (xb (xb (Y1 (YV 0 1)) (YF d "is_time")) YD)
 fun (b:Bool)=>aC !b)
 (fun c =>
 if c=true then aC true
 else
 xb
 (xb (xb (Y1 (YV 0 3)) (YF d "is_call")) YD)
 fun (b:Bool)=>aC !b)
 δ' p.2)
 (YT2 false δ'))
 (YQ fun δ' p =>
 YP
 (YP (xC1 CmpOp.Is (YV 0 2) (YZ) δ' p.2) fun p =>
 if p.1=true then
 YP (YP (bC (xC1 CmpOp.Is (YV 0 4) (YZ)) δ' p.2) YW) YE
 else some (Fl.nx δ',p.2))
 (YQ fun δ' p =>
 YP
 (YP
 (xb (xb (Y1 (YV 0 2)) (YF d "is_time"))
 (fun (w:W) =>
 match w with
           | W.d (PyData.bool true) =>
            xb (bC (xC1 CmpOp.Lt (YV 0 1) (YV 0 2))) fun (w:W) =>
 match w with
             | W.d (PyData.bool true)=>xb (Y2 (YV 0 3) (YV 0 4)) (YF d "is_answer")
             | W.d (PyData.bool false)=>aC (W.d (PyData.bool false))
             | x=>xno
           | W.d (PyData.bool false)=>aC (W.d (PyData.bool false))
           | x=>xno)
 δ' p.2)
 YW)
 YE))))
 (aM h):=by kernel_rfl
def vO (d:Nat) (w0:W) (h:aA):aD T (d+1) "times_of" [w0] h =
 YP
 (YP (YP (xb (xC1 CmpOp.Is (YV 0 2) (YZ)) (fun (t:Bool)=>if t=true then aN (xPl (Y1 (YV 0 1))) else aN (xPl (Y2 (YV 0 1) (YV 0 2)))) [some w0] h) YW) YE)
 (aM h):=by kernel_rfl
def nU (d:Nat) (w0 w1:W) (h:aA):aD T (d+1) "ended_below" [w0,w1] h =
 YP
 (YP
 (YP
 (xb (bC (xC1 CmpOp.IsNot (YV 0 2) (YZ)))
 (fun (w:W) =>
 match w with
     | W.d (PyData.bool true)=>bC (xC1 CmpOp.Lt (YV 0 2) (aB 1))
     | W.d (PyData.bool false)=>aC (W.d (PyData.bool false))
     | x=>xno)
 [some w0,some w1] h)
 YW)
 YE)
 (aM h):=by kernel_rfl
def nV (d:Nat) (w0 w1:W) (h:aA):aD T (d+1) "go_together" [w0,w1] h =
 YP
 (YP
 (YP
 (xb (xb (Y1 (aN (xb (aS (xb (Y1 (aB 0)) (YF d "times_of"))) fun (p:List PyData×Cw) (δ:DSt) (h:aA)=>aG (YG 0) (aC true) (bC (xC1 CmpOp.In (aB 0) (xb (Y1 (aB 1)) (YF d "times_of")))) p.2 p.1 p.1 (aK [none,some 1] δ) h []))) (YK rQ))
 (YD)
 [some w0,some w1] h)
 (YT2 false [some w0,some w1]))
 (YQ fun δ' p =>
 YP
 (YP
 (xb (bC (xC1 CmpOp.NotEq (YV 0 0) (YV 1 0)))
 (fun (w:W) =>
 match w with
       | W.d (PyData.bool true)=>aC (W.d (PyData.bool true))
       | W.d (PyData.bool false) =>
        xb (xb (Y2 (aB 0) (YV 1 1)) (YF d "ended_below")) fun (w:W) =>
 match w with
         | W.d (PyData.bool true)=>aC (W.d (PyData.bool true))
         | W.d (PyData.bool false)=>xb (Y2 (aB 1) (YV 0 1)) (YF d "ended_below")
         | x=>xno
       | x=>xno)
 δ' p.2)
 YW)
 YE))
 (aM h):=by kernel_rfl
@[simp] def fG (d:Nat) (x:DSt) (x_1:aA):Option (Fl×aA) :=
 YP
 (YP
 (xb
 (xb
 (xb
 (Y1 (aN
 (xb
 (aS
 (xb (aB 0) fun (x:W) =>
 xb (aC none) fun (l:Option Int) =>
 xb
 (xb (aB 1) YU)
 (YS3 x l)))
 fun (p:List PyData×Cw) (δ:DSt) (h:aA)=>aG (YG 0) (aC true) (xb (Y2 (aB 1) (aB 0)) (YF d "go_together")) p.2 p.1 p.1 (aK [none,some 3] δ) h [])))
 (YK iL))
 YD)
 (fun (b:Bool)=>aC !b) x x_1)
 fun p =>
 if p.1=true then
 YP none YE
 else some (Fl.nx x,p.2))
 YE
@[simp] def fH (d:Nat) (x:DSt) (x_1:aA):Option (Fl×aA) :=
 YP
 (YP
 (xb
 (xb (xb (Y1 (aB 2)) (YF d "is_deed")) YD)
 (fun (b:Bool)=>aC !b) x x_1)
 fun p =>
 if p.1=true then
 YP none YE
 else some (Fl.nx x,p.2))
 YE
def sZ (d:Nat) (w0:W) (h:aA):aD T (d+1) "look_over" [w0] h =
 YP
 (YP
 (YP
 (xb
 (xb
 (xb (xb (aB 0) fun (w:W) (x:DSt) (h:aA)=>YP (ref h w) fun (d:PyData)=>if noD d=true then some (W.d (PyData.bool (isi d "tuple")),h) else none) YD)
 fun (b:Bool)=>aC !b)
 (fun c=>if c=true then aC true else xC1 CmpOp.Gt (xb (Y1 (aB 0)) (YK aY)) (YJ 60)) [some w0,none,none,none] h)
 fun p =>
 if p.1=true then
 YP none YE
 else some (Fl.nx [some w0,none,none,none],p.2))
 (YQ fun δ' p =>
 YP
 (YP (xb (aB 0) (fun (u:W) (x:DSt) (h:aA)=>jT u h) δ' p.2) fun (p:(List PyData×Cw)×aA) =>
 bB (aP [YG 1,YG 2])
 (fH d)
 (Prod.snd p.1) (Prod.fst p.1) (Prod.fst p.1) δ' p.2)
 (YQ fun δ' p =>
 YP
 (YP (xb (aB 0) (fun (u:W) (x:DSt) (h:aA)=>jT u h) δ' p.2) fun (p:(List PyData×Cw)×aA) =>
 bB (aP [YG 1,YG 3])
 (fG d)
 (Prod.snd p.1) (Prod.fst p.1) (Prod.fst p.1) δ' p.2)
 YE)))
 (aM h):=by kernel_rfl
def vP (d:Nat) (w0:W) (h:aA):aD T (d+1) "is_stand" [w0] h =
 YP
 (YP
 (YP
 (xb (xb (Y2 (aB 0) (xb (Y1 (aC (W.d (PyData.tuple (List.reverse [PyData.int 0,PyData.int 0,PyData.int 0,PyData.int 0,PyData.int 0,PyData.int 0,PyData.int 0,PyData.int 0]))))) (YK aY))) (YF d "is_tuple_of"))
 (fun (w:W) =>
 match w with
     | W.d (PyData.bool true)=>xb (Y1 (aB 0)) (YF d "are_whole")
     | W.d (PyData.bool false)=>aC (W.d (PyData.bool false))
     | x=>xno)
 [some w0] h)
 YW)
 YE)
 (aM h):=by kernel_rfl
def kX (d:Nat) (w0:W) (h:aA):aD T (d+1) "check_promise" [w0] h =
 YP
 (YP
 (YP
 (xb
 (xb
 (xb (xb (aB 0) fun (w:W) (x:DSt) (h:aA)=>YP (ref h w) fun (d:PyData)=>if noD d=true then some (W.d (PyData.bool (isi d "str")),h) else none) YD)
 fun (b:Bool)=>aC !b)
 (fun c=>if c=true then aC true else xC1 CmpOp.NotIn (aB 0) (aC (W.d (PyData.tuple (List.reverse [PyData.str (Str.ofString "kept"),PyData.str (Str.ofString "thing"),PyData.str (Str.ofString "hand"),PyData.str (Str.ofString "stand"),PyData.str (Str.ofString "snap"),PyData.str (Str.ofString "any"),PyData.str (Str.ofString "row"),PyData.str (Str.ofString "real")]))))) [some w0] h)
 fun p =>
 if p.1=true then
 YP none YE
 else some (Fl.nx [some w0],p.2))
 YE)
 (aM h):=by kernel_rfl
def tA (d:Nat) (w0 w1:W) (h:aA):aD T (d+1) "frames_of" [w0,w1] h =
 YP
 (YP (YP (xb (Y1 (aB 0)) ((YF d "look_over")) [some w0,some w1] h) fun p=>some (Fl.nx [some w0,some w1],p.2)) (YQ fun δ' p =>
 YP (YP (xb (Y1 (aB 1)) ((YF d "check_promise")) δ' p.2) fun p=>some (Fl.nx δ',p.2)) (YQ fun δ' p =>
 YP (YP (xb (Y2 (aB 0) (aB 1)) ((YF d "framed")) δ' p.2) YW) YE)))
 (aM h):=by kernel_rfl
def aL2 (d:Nat) (w0 w1:W) (h:aA):aD T (d+1) "framed" [w0,w1] h =
 YP
 (YP
 (YP (xC1 CmpOp.In (aB 1) (xb (xPl (Y3 (YS "real") (YS "row") (YS "any"))) YT) [some w0,some w1,none,none] h) fun p =>
 if p.1=true then
 YP (YP (aN (xPl (Y1 (xb (Y4 (aB 0) (aB 1) (YZ) (xb (Y1 (aB 0)) (YF d "whole_entries"))) (YF d "frame")))) [some w0,some w1,none,none] p.2) YW) YE
 else some (Fl.nx [some w0,some w1,none,none],p.2))
 (YQ fun δ' p =>
 YP
 (YP (xC1 CmpOp.In (aB 1) (xb (xPl (Y2 (YS "snap") (YS "stand"))) YT) δ' p.2) fun p =>
 if p.1=true then
 YP (YP (aN (xPl (Y1 (xb (Y4 (aB 0) (aB 1) (YZ) (xb (Y1 (aB 0)) (YF d "look_entries"))) (YF d "frame")))) δ' p.2) YW) YE
 else some (Fl.nx δ',p.2))
 (YQ fun δ' p =>
 YP
 (YP (xC1 CmpOp.Eq (aB 1) (YS "hand") δ' p.2) fun p =>
 if p.1=true then
 YP (aO 2 (aN (xb (Y1 (aN (xb (aS (xb (Y1 (aB 0)) (YF d "taking_part"))) fun (p:List PyData×Cw) (δ:DSt) (h:aA)=>aG (YG 0) (aC true) (xb (xb (aB 1) fun x=>xb (aB 0) (YX x)) (YI 0)) p.2 p.1 p.1 (aK [none,some 0] δ) h []))) fun (ws:List W) (x:DSt) (h:aA)=>xSS ws h)) δ' p.2) (YQ fun δ' p =>
 YP (YP (aN (xb (aS (aB 2)) fun (p:List PyData×Cw) (δ:DSt) (h:aA)=>aG (YG 0) (aC true) (xb (Y4 (aB 1) (aB 2) (aB 0) (xb (Y2 (aB 1) (aB 0)) (YF d "hand_entries"))) (YF d "frame")) p.2 p.1 p.1 (aK [none,some 0,some 1] δ) h []) δ' p.2) YW) YE)
 else some (Fl.nx δ',p.2))
 (YQ fun δ' p =>
 YP
 (aO 3
 (aN
 (xb
 (xb (xb (YJ 7) (YB .Add 1)) YR)
 fun (p:List PyData×Cw) (δ:DSt) (h:aA)=>aG (YG 0) (aC true) (xb (xPl (Y2 (aB 0) (xb (Y3 (aB 1) (aB 2) (aB 0)) (YF d "key_entries")))) YT) p.2 p.1 p.1 (aK [none,some 0,some 1] δ) h []))
 δ' p.2)
 (YQ fun δ' p =>
 YP (YP (aN (xb (aS (aB 3)) fun (p:List PyData×Cw) (δ:DSt) (h:aA)=>aG (aP [YG 0,YG 1]) (xC1 CmpOp.Gt (xb (Y1 (aB 1)) (YK aY)) (YJ 0)) (xb (Y4 (aB 2) (aB 3) (aB 0) (aB 1)) (YF d "frame")) p.2 p.1 p.1 (aK [none,none,some 0,some 1] δ) h []) δ' p.2) YW) YE)))))
 (aM h):=by kernel_rfl
def aU9 (d:Nat) (w0 w1 w2 w3:W) (h:aA):aD T (d+1) "frame" [w0,w1,w2,w3] h =
 YP
 (YP (aO 4 (xb (Y1 (aN (xb (aS (aB 3)) fun (p:List PyData×Cw) (δ:DSt) (h:aA)=>aG (aP [YG 0,YG 1]) (aC true) (aB 0) p.2 p.1 p.1 (aK [none,none] δ) h []))) (YK aZ)) [some w0,some w1,some w2,some w3,none,none,none,none,none] h) (YQ fun δ' p =>
 YP (aO 5 (xb (Y1 (aN (xb (aS (aB 3)) fun (p:List PyData×Cw) (δ:DSt) (h:aA)=>aG (aP [YG 0,YG 1]) (aC true) (aB 1) p.2 p.1 p.1 (aK [none,none] δ) h []))) (YK aZ)) δ' p.2) (YQ fun δ' p =>
 YP (aO 6 (xb (xPl (aC [])) YT) δ' p.2) (YQ fun δ' p =>
 YP (aO 7 (xb (xPl (aC [])) YT) δ' p.2) (YQ fun δ' p =>
 YP
 (YP (xC1 CmpOp.In (aB 1) (xb (xPl (Y2 (YS "real") (YS "thing"))) YT) δ' p.2) fun p =>
 if p.1=true then
 YP (aO 6 (xb (Y3 (aB 0) (aB 5) (aC (W.d (fkD (Str.ofString "really_ahead"))))) (YF d "pairs_where")) δ' p.2) YE
 else
 YP
 (YP (xC1 CmpOp.In (aB 1) (xb (xPl (Y2 (YS "row") (YS "hand"))) YT) δ' p.2) fun p =>
 if p.1=true then
 YP (aO 6 (xb (Y3 (aB 0) (aB 5) (aC (W.d (fkD (Str.ofString "ahead_by_hand"))))) (YF d "pairs_where")) δ' p.2) YE
 else
 YP
 (YP (xC1 CmpOp.Eq (aB 1) (YS "snap") δ' p.2) fun p =>
 if p.1=true then
 YP (aO 8 (xb (Y1 (aB 5)) (YF d "looks_with_lays")) δ' p.2) (YQ fun δ' p =>
 YP (aO 6 (xb (Y1 (aN (xb (aS (aB 8)) fun (p:List PyData×Cw) (δ:DSt) (h:aA)=>aG (YG 0) (aC true) (xb (xPl (Y2 (aB 0) (xb (aB 0) (YB .Add 1)))) YT) p.2 p.1 p.1 (aK [none] δ) h []))) (YK aZ)) δ' p.2) (YQ fun δ' p =>
 YP (aO 7 (xb (Y2 (aB 4) (aB 8)) (YF d "triples_of")) δ' p.2) YE))
 else some (Fl.nx δ',p.2))
 YE)
 YE)
 (YQ fun δ' p =>
 YP (YP (xb (xPl (Y3 (aB 2) (xb (xPl (Y4 (aC (W.d (PyData.tuple (List.reverse [PyData.int 0,PyData.int 0,PyData.int 0,PyData.int 0,PyData.int 0,PyData.int 0,PyData.int 0,PyData.int 0])))) (aB 4) (aB 6) (aB 7))) YT) (aB 5))) (YT) δ' p.2) YW) YE))))))
 (aM h):=by kernel_rfl
def nW (d:Nat) (w0:W) (h:aA):aD T (d+1) "taking_part" [w0] h =
 YP
 (YP (aO 1 (aN (xb (xb (aB 0) fun (u:W) (x:DSt) (h:aA)=>jT u h) fun (p:List PyData×Cw) (δ:DSt) (h:aA)=>aG (aP [YG 0,YG 1]) (xC1 CmpOp.NotEq (YV 1 4) (aC (W.d (PyData.tuple (List.reverse [PyData.str (Str.ofString "refused")]))))) (aB 0) p.2 p.1 p.1 (aK [none,none] δ) h [])) [some w0,none] h) (YQ fun δ' p =>
 YP
 (YP
 (aN
 (xb (Y1 (aB 1)) fun (ws:List W) =>
 match ws with
       | [w]=>lU false (xb (xb (aB 1) fun x=>xb (aB 0) (YX x)) (YI 1)) [none,some 0] 0 "taking_part.<locals>.<lambda>" ⟨200,31,200,64⟩ w
       | x=>xno)
 δ' p.2)
 YW)
 YE))
 (aM h):=by kernel_rfl
def aV0 (d:Nat) (w0 w1 w2 w3:W) (h:aA):aD T (d+1) "entry" [w0,w1,w2,w3] h =
 YP
 (YP (aO 4 (xb (xC1 CmpOp.Is (xb (xb (aB 0) fun x=>xb (aB 1) (YX x)) (YI 2)) (YZ)) fun (t:Bool)=>if t=true then YS "may" else YS "must") [some w0,some w1,some w2,some w3,none] h) (YQ fun δ' p =>
 YP (YP (xb (xPl (Y2 (xb (xPl (Y3 (aB 2) (aB 3) (aB 4))) YT) (aB 1))) (YT) δ' p.2) YW) YE))
 (aM h):=by kernel_rfl
@[simp] def bZ (d:Nat) (x:DSt) (x_1:aA):Option (Fl×aA) :=
 YP (aO 4 (xb (aB 0) fun x=>xb (aB 3) (YX x)) x x_1) (YQ fun δ' p =>
 YP
 (YP (xC1 CmpOp.Eq (YV 4 0) (aB 1) δ' p.2) fun p =>
 if p.1=true then
 YP (YP (xb (aB 2) ((YA (Y1 (xb (Y4 (aB 0) (aB 3) (YV 4 3) (YV 4 4)) (YF d "entry"))))) δ' p.2) fun p=>some (Fl.nx δ',p.2)) YE
 else
 YP
 (YP
 (xb (xb (Y1 (YV 4 3)) (YF d "may_change"))
 (YD)
 δ' p.2)
 fun p =>
 if p.1=true then
 YP (YP (xb (aB 2) ((YA (Y1 (xb (Y4 (aB 0) (aB 3) (YV 4 3) (YZ)) (YF d "entry"))))) δ' p.2) fun p=>some (Fl.nx δ',p.2)) YE
 else some (Fl.nx δ',p.2))
 YE)
 YE)
def mX (d:Nat) (w0 w1:W) (h:aA):aD T (d+1) "hand_entries" [w0,w1] h =
 YP
 (YP (aO 2 (aV (xPl (aC []))) [some w0,some w1,none,none,none] h) (YQ fun δ' p =>
 YP
 (YP (aS (xb (Y1 (aB 0)) (YF d "taking_part")) δ' p.2) fun (p:(List PyData×Cw)×aA) =>
 bB (YG 3)
 (bZ d)
 (Prod.snd p.1) (Prod.fst p.1) (Prod.fst p.1) δ' p.2)
 (YQ fun δ' p =>
 YP (YP (aB 2 δ' p.2) YW) YE)))
 (aM h):=by kernel_rfl
def kY (d:Nat) (w0 w1 w2:W) (h:aA):aD T (d+1) "ahead_by_hand" [w0,w1,w2] h =
 YP
 (YP
 (YP
 (xb (bC (xC1 CmpOp.Eq (xb (xb (aB 0) fun x=>xb (aB 1) (YX x)) (YI 0)) (xb (xb (aB 0) fun x=>xb (aB 2) (YX x)) (YI 0))))
 (fun (w:W) =>
 match w with
     | W.d (PyData.bool true)=>bC (xC1 CmpOp.Lt (xb (xb (aB 0) fun x=>xb (aB 1) (YX x)) (YI 1)) (xb (xb (aB 0) fun x=>xb (aB 2) (YX x)) (YI 1)))
     | W.d (PyData.bool false)=>aC (W.d (PyData.bool false))
     | x=>xno)
 [some w0,some w1,some w2] h)
 YW)
 YE)
 (aM h):=by kernel_rfl
@[simp] def cF (d:Nat) (x:DSt) (x_1:aA):Option (Fl×aA) :=
 YP
 (YP (xb (aB 1) (fun (u:W) (x:DSt) (h:aA)=>jT u h) x x_1) fun (p:(List PyData×Cw)×aA) =>
 bB (aP [YG 6,YG 7])
 (fun (x:DSt) (x_2:aA) =>
 YP
 (YP
 (xb
 (xb (aB 2) fun (w:W) =>
 match w with
        | W.d (PyData.dict kvs)=>(match gJ kvs with
        | some g=>(match fnT T (fun (y:Str)=>aD T d y) g with
         | some m=>xb (Y3 (aB 0) (aB 5) (aB 7)) fun (ws:List W) (x:DSt) (h:aA)=>YP (m ws h) fun p=>some (W.d p.1,p.2)
         | none=>xno)
        | none=>xno)
        | x=>xno)
 (YD)
 x x_2)
 fun p =>
 if p.1=true then
 YP (YP (xb (aB 3) ((YA (Y1 (xb (xPl (Y2 (aB 4) (aB 6))) YT)))) x p.2) fun p=>some (Fl.nx x,p.2)) YE
 else some (Fl.nx x,p.2))
 YE)
 (Prod.snd p.1) (Prod.fst p.1) (Prod.fst p.1) x p.2)
 YE
def nX (d:Nat) (w0 w1 w2:W) (h:aA):aD T (d+1) "pairs_where" [w0,w1,w2] h =
 YP
 (YP (aO 3 (aV (xPl (aC []))) [some w0,some w1,some w2,none,none,none,none,none] h) (YQ fun δ' p =>
 YP
 (YP (xb (aB 1) (fun (u:W) (x:DSt) (h:aA)=>jT u h) δ' p.2) fun (p:(List PyData×Cw)×aA) =>
 bB (aP [YG 4,YG 5])
 (cF d)
 (Prod.snd p.1) (Prod.fst p.1) (Prod.fst p.1) δ' p.2)
 (YQ fun δ' p =>
 YP (YP (xb (Y1 (aB 3)) (YK aZ) δ' p.2) YW) YE)))
 (aM h):=by kernel_rfl
def pD (d:Nat) (w0:W) (h:aA):aD T (d+1) "is_item" [w0] h =
 YP
 (YP
 (YP
 (xb
 (xb
 (xb (xb (Y2 (aB 0) (YJ 3)) (YF d "is_tuple_of")) YD)
 fun (b:Bool)=>aC !b)
 (fun c =>
 if c=true then aC true
 else
 xb
 (xb (xb (Y1 (YV 0 0)) (YF d "is_step")) YD)
 fun (b:Bool)=>aC !b)
 [some w0] h)
 (YT2 false [some w0]))
 (YQ fun δ' p =>
 YP
 (YP
 (xb (xC1 CmpOp.IsNot (YV 0 1) (YZ))
 (fun c =>
 if c=true then
 xb
 (xb (xb (Y2 (YV 0 0) (YV 0 1)) (YF d "is_answer")) YD)
 fun (b:Bool)=>aC !b
 else aC false)
 δ' p.2)
 (YT2 false δ'))
 (YQ fun δ' p =>
 YP
 (YP
 (xb (xb (YV 0 2) fun (w:W) (x:DSt) (h:aA)=>YP (ref h w) fun (d:PyData)=>if noD d=true then some (W.d (PyData.bool (isi d "str")),h) else none)
 (fun (w:W) =>
 match w with
         | W.d (PyData.bool true)=>bC (xC1 CmpOp.In (YV 0 2) (aC (W.d (PyData.tuple (List.reverse [PyData.str (Str.ofString "out"),PyData.str (Str.ofString "may"),PyData.str (Str.ofString "must")])))))
         | W.d (PyData.bool false)=>aC (W.d (PyData.bool false))
         | x=>xno)
 δ' p.2)
 YW)
 YE)))
 (aM h):=by kernel_rfl
def tB (d:Nat) (w0:W) (h:aA):aD T (d+1) "are_items" [w0] h =
 YP
 (YP
 (YP
 (xb (xb (aB 0) fun (w:W) (x:DSt) (h:aA)=>YP (ref h w) fun (d:PyData)=>if noD d=true then some (W.d (PyData.bool (isi d "tuple")),h) else none)
 (fun (w:W) =>
 match w with
     | W.d (PyData.bool true) =>
      xb (bC (xC1 CmpOp.LtE (xb (Y1 (aB 0)) (YK aY)) (YJ 120))) fun (w:W) =>
 match w with
       | W.d (PyData.bool true)=>xb (Y1 (aN (xb (aS (aB 0)) fun (p:List PyData×Cw) (δ:DSt) (h:aA)=>aG (YG 0) (aC true) (xb (Y1 (aB 0)) (YF d "is_item")) p.2 p.1 p.1 (aK [none] δ) h []))) (YK iL)
       | W.d (PyData.bool false)=>aC (W.d (PyData.bool false))
       | x=>xno
     | W.d (PyData.bool false)=>aC (W.d (PyData.bool false))
     | x=>xno)
 [some w0] h)
 YW)
 YE)
 (aM h):=by kernel_rfl
def nY (d:Nat) (w0 w1:W) (h:aA):aD T (d+1) "are_numbers" [w0,w1] h =
 YP
 (YP (YP (xb (Y1 (aN (xb (aS (aB 0)) fun (p:List PyData×Cw) (δ:DSt) (h:aA)=>aG (YG 0) (aC true) (xb (Y3 (aB 0) (YJ 0) (xb (aB 1) (YB .Sub 1))) (YF d "is_between")) p.2 p.1 p.1 (aK [none,some 1] δ) h []))) (YK iL) [some w0,some w1] h) YW) YE)
 (aM h):=by kernel_rfl
def qW (d:Nat) (w0 w1 w2:W) (h:aA):aD T (d+1) "are_unlike" [w0,w1,w2] h =
 YP
 (YP
 (YP
 (xb (xb (Y2 (aB 0) (aB 1)) (YF d "is_tuple_of"))
 (fun (w:W) =>
 match w with
     | W.d (PyData.bool true) =>
      xb (xb (Y2 (aB 0) (aB 2)) (YF d "are_numbers")) fun (w:W) =>
 match w with
       | W.d (PyData.bool true)=>bC (xC1 CmpOp.Eq (xb (Y1 (aB 0)) fun (ws:List W) (x:DSt) (h:aA)=>xLS ws h) (aB 1))
       | W.d (PyData.bool false)=>aC (W.d (PyData.bool false))
       | x=>xno
     | W.d (PyData.bool false)=>aC (W.d (PyData.bool false))
     | x=>xno)
 [some w0,some w1,some w2] h)
 YW)
 YE)
 (aM h):=by kernel_rfl
def tC (d:Nat) (w0 w1:W) (h:aA):aD T (d+1) "are_pairs" [w0,w1] h =
 YP
 (YP
 (YP
 (xb
 (xb
 (xb (xb (aB 0) fun (w:W) (x:DSt) (h:aA)=>YP (ref h w) fun (d:PyData)=>if noD d=true then some (W.d (PyData.bool (isi d "tuple")),h) else none) YD)
 fun (b:Bool)=>aC !b)
 (fun c=>if c=true then aC true else xC1 CmpOp.Gt (xb (Y1 (aB 0)) (YK aY)) (YJ 4000)) [some w0,some w1] h)
 (YT2 false [some w0,some w1]))
 (YQ fun δ' p =>
 YP (YP (xb (Y1 (aN (xb (aS (aB 0)) fun (p:List PyData×Cw) (δ:DSt) (h:aA)=>aG (YG 0) (aC true) (xb (Y3 (aB 0) (YJ 2) (aB 1)) (YF d "are_unlike")) p.2 p.1 p.1 (aK [none,some 1] δ) h []))) (YK iL) δ' p.2) YW) YE))
 (aM h):=by kernel_rfl
def nZ (d:Nat) (w0 w1:W) (h:aA):aD T (d+1) "are_triples" [w0,w1] h =
 YP
 (YP
 (YP
 (xb
 (xb
 (xb (xb (aB 0) fun (w:W) (x:DSt) (h:aA)=>YP (ref h w) fun (d:PyData)=>if noD d=true then some (W.d (PyData.bool (isi d "tuple")),h) else none) YD)
 fun (b:Bool)=>aC !b)
 (fun c=>if c=true then aC true else xC1 CmpOp.Gt (xb (Y1 (aB 0)) (YK aY)) (YJ 4000)) [some w0,some w1] h)
 (YT2 false [some w0,some w1]))
 (YQ fun δ' p =>
 YP
 (YP
 (xb
 (xb (xb (Y1 (aN (xb (aS (aB 0)) fun (p:List PyData×Cw) (δ:DSt) (h:aA)=>aG (YG 0) (aC true) (xb (Y3 (aB 0) (YJ 3) (xb (Y1 (aB 1)) (YK aY))) (YF d "are_unlike")) p.2 p.1 p.1 (aK [none,some 1] δ) h []))) (YK iL)) YD)
 (fun (b:Bool)=>aC !b) δ' p.2)
 (YT2 false δ'))
 (YQ fun δ' p =>
 YP
 (YP
 (xb
 (Y1 (aN
 (xb (aS (aB 0)) fun (p:List PyData×Cw) (δ:DSt) (h:aA) =>
 aG (aP [YG 0,YG 1,YG 2]) (aC true)
 (xb (bC (xC1 CmpOp.Eq (xb (xb (aB 3) fun x=>xb (aB 0) (YX x)) (YI 2)) (YS "must"))) fun (w:W) =>
 match w with
             | W.d (PyData.bool true)=>bC (xC1 CmpOp.Eq (xb (xb (aB 3) fun x=>xb (aB 1) (YX x)) (YI 2)) (YS "must"))
             | W.d (PyData.bool false)=>aC (W.d (PyData.bool false))
             | x=>xno)
 p.2 p.1 p.1 (aK [none,none,none,some 1] δ) h [])))
 (YK iL) δ' p.2)
 YW)
 YE)))
 (aM h):=by kernel_rfl
def qX (d:Nat) (w0:W) (h:aA):aD T (d+1) "is_problem" [w0] h =
 YP
 (YP
 (YP
 (xb
 (xb
 (xb (xb (Y2 (aB 0) (YJ 4)) (YF d "is_tuple_of")) YD)
 fun (b:Bool)=>aC !b)
 (fun c =>
 if c=true then aC true
 else
 xb
 (xb
 (xb (xb (Y1 (YV 0 0)) (YF d "is_stand")) YD)
 fun (b:Bool)=>aC !b)
 fun c =>
 if c=true then aC true
 else
 xb
 (xb (xb (Y1 (YV 0 1)) (YF d "are_items")) YD)
 fun (b:Bool)=>aC !b)
 [some w0] h)
 (YT2 false [some w0]))
 (YQ fun δ' p =>
 YP
 (YP
 (xb (xb (Y2 (YV 0 2) (xb (Y1 (YV 0 1)) (YK aY))) (YF d "are_pairs"))
 (fun (w:W) =>
 match w with
       | W.d (PyData.bool true)=>xb (Y2 (YV 0 3) (YV 0 1)) (YF d "are_triples")
       | W.d (PyData.bool false)=>aC (W.d (PyData.bool false))
       | x=>xno)
 δ' p.2)
 YW)
 YE))
 (aM h):=by kernel_rfl
def mY (d:Nat) (w0 w1:W) (h:aA):callW T (d+1) "problems_of" [w0,w1] h =
 YP
 (YP (YP (aV (xb (aS (xb (Y2 (aB 0) (aB 1)) (YF d "frames_of"))) fun (p:List PyData×Cw) (δ:DSt) (h:aA)=>aG (aP [YG 0,YG 1,YG 2]) (aC true) (xb (xPl (Y2 (aB 0) (aB 1))) YT) p.2 p.1 p.1 (aK [none,none,none] δ) h []) [some w0,some w1] h) YW) YE)
 iO:=by kernel_rfl
def tF (d:Nat) (w0 w1:W) (h:aA):callW T (d+1) "deeds_of" [w0,w1] h =
 YP
 (YP (YP (aV (xb (aS (xb (Y2 (aB 0) (aB 1)) (YF d "frames_of"))) fun (p:List PyData×Cw) (δ:DSt) (h:aA)=>aG (aP [YG 0,YG 1,YG 2]) (aC true) (aB 2) p.2 p.1 p.1 (aK [none,none,none] δ) h []) [some w0,some w1] h) YW) YE)
 iO:=by kernel_rfl
def hW (d:Nat) (w0 w1:W) (h:aA):aD T (d+1) "_law_cell_at" [w0,w1] h =
 YP
 (YP
 (YP (xC1 CmpOp.Lt (aB 1) (xb (Y1 (aB 0)) (YK aY)) [some w0,some w1] h) fun p =>
 if p.1=true then
 YP (YP (xb (aB 0) (fun x=>xb (aB 1) (YX x)) [some w0,some w1] p.2) YW) YE
 else some (Fl.nx [some w0,some w1],p.2))
 (YQ fun δ' p =>
 YP (YP (YJ 0 δ' p.2) YW) YE))
 (aM h):=by kernel_rfl
def fZ (d:Nat) (w0 w1:W) (h:aA):aD T (d+1) "_law_drawn" [w0,w1] h =
 YP
 (YP (aO 2 (xb (aB 0) fun u=>xb (xb (YJ 1) fun u=>xb (xb (YJ 24) fun u=>xb (xb (aB 1) (YB .Mod 120)) (YO .Mult u)) (YO .Add u)) (YO .RShift u)) [some w0,some w1,none,none] h) (YQ fun δ' p =>
 YP
 (YP (xb (xC1 CmpOp.Eq (xb (aB 0) (YB .Mod 2)) (YJ 1)) (fun c=>if c=true then xC1 CmpOp.Gt (aB 2) (YJ 0) else aC false) δ' p.2) fun p =>
 if p.1=true then
 YP (YP (xb (aB 2) (fun u=>xb (xb (YJ 2) (YB .Pow 24)) (YO .Mod u)) δ' p.2) YW) YE
 else some (Fl.nx δ',p.2))
 (YQ fun δ' p =>
 YP (aO 3 (xb (xb (xb (xb (xb (xb (aB 0) (YB .FloorDiv 2)) (YB .Mod 2147483647)) fun u=>xb (xb (YJ 7919) fun u=>xb (aB 1) (YO .Mult u)) (YO .Add u)) (YB .Add 1)) (YB .Mult 48271)) (YB .Mod 2147483647)) δ' p.2) (YQ fun δ' p =>
 YP (aO 3 (xb (xb (aB 3) fun u=>xb (xb (xb (aB 3) (YB .FloorDiv 1009)) (YB .Add 69621)) (YO .Mult u)) (YB .Mod 2147483647)) δ' p.2) (YQ fun δ' p =>
 YP (YP (xb (xb (aB 3) fun u=>xb (xb (xb (aB 3) (YB .FloorDiv 2003)) (YB .Add 40692)) (YO .Mult u)) ((YB .Mod 2147483399)) δ' p.2) YW) YE)))))
 (aM h):=by kernel_rfl
def bT (d:Nat) (w0:W) (h:aA):aD T (d+1) "_law_plain_call" [w0] h =
 YP
 (YP (aO 1 (xb (aN (xPl (Y5 (YJ 0) (YJ 0) (YJ 1) (YJ 2) (YJ 7)))) fun x=>xb (xb (xb (aB 0) (YB .FloorDiv 8)) (YB .Mod 5)) (YX x)) [some w0,none,none,none] h) (YQ fun δ' p =>
 YP
 (aO 2
 (xb
 (aN
 (xPl
 (Y5 (YJ 0) (YJ 1) (YJ 2) (xb (YJ 1) YNg) (xb (YJ 10) (YB .Pow 30)))))
 fun x=>xb (xb (xb (aB 0) (YB .FloorDiv 40)) (YB .Mod 5)) (YX x))
 δ' p.2)
 (YQ fun δ' p =>
 YP (aO 3 (xb (aB 0) (YB .Mod 8)) δ' p.2) (YQ fun δ' p =>
 YP
 (YP (xC1 CmpOp.Lt (aB 3) (YJ 3) δ' p.2) fun p =>
 if p.1=true then
 YP (YP (xb (xPl (Y2 (YS "read") (aB 1))) (YT) δ' p.2) YW) YE
 else some (Fl.nx δ',p.2))
 (YQ fun δ' p =>
 YP
 (YP (xC1 CmpOp.Lt (aB 3) (YJ 5) δ' p.2) fun p =>
 if p.1=true then
 YP (YP (xb (xPl (Y3 (YS "write") (aB 1) (aB 2))) (YT) δ' p.2) YW) YE
 else some (Fl.nx δ',p.2))
 (YQ fun δ' p =>
 YP
 (YP (xC1 CmpOp.Eq (aB 3) (YJ 5) δ' p.2) fun p =>
 if p.1=true then
 YP (YP (xb (xPl (Y3 (YS "add") (aB 1) (aB 2))) (YT) δ' p.2) YW) YE
 else some (Fl.nx δ',p.2))
 (YQ fun δ' p =>
 YP (YP (xb (xPl (Y4 (YS "swap") (aB 1) (xb (aN (xPl (Y3 (YJ 0) (YJ 1) (YJ 2)))) fun x=>xb (xb (xb (aB 0) (YB .FloorDiv 200)) (YB .Mod 3)) (YX x)) (aB 2))) (YT) δ' p.2) YW) YE)))))))
 (aM h):=by kernel_rfl
def hX (d:Nat) (w0 w1:W) (h:aA):aD T (d+1) "_law_call" [w0,w1] h =
 YP
 (YP (aO 2 (xb (Y2 (aB 0) (aB 1)) (YF d "_law_drawn")) [some w0,some w1,none,none,none] h) (YQ fun δ' p =>
 YP
 (YP (xC1 CmpOp.Eq (xb (aB 2) (YB .Mod 7)) (YJ 0) δ' p.2) fun p =>
 if p.1=true then
 YP (aO 3 (xb (xb (aB 2) (YB .FloorDiv 7)) (YB .Mod 3)) δ' p.2) (YQ fun δ' p =>
 YP (YP (xb (xPl (Y3 (YS "span") (aB 3) (xb (xb (aB 3) (YB .Add 1)) fun u=>xb (xb (xb (aB 2) (YB .FloorDiv 21)) fun u=>xb (xb (YJ 8) fun u=>xb (aB 3) (YO .Sub u)) (YO .Mod u)) (YO .Add u)))) (YT) δ' p.2) YW) YE)
 else some (Fl.nx δ',p.2))
 (YQ fun δ' p =>
 YP
 (YP (xC1 CmpOp.Eq (xb (aB 2) (YB .Mod 7)) (YJ 1) δ' p.2) fun p =>
 if p.1=true then
 YP
 (aO 4
 (aN
 (xb
 (xb (xb (YJ 1) fun u=>xb (xb (xb (aB 2) (YB .FloorDiv 7)) (YB .Mod 4)) (YO .Add u)) YR)
 fun (p:List PyData×Cw) (δ:DSt) (h:aA)=>aG (YG 0) (aC true) (xb (Y1 (xb (Y2 (aB 1) (xb (xb (aB 2) (YB .Add 30)) fun u=>xb (aB 0) (YO .Add u))) (YF d "_law_drawn"))) (YF d "_law_plain_call")) p.2 p.1 p.1 (aK [none,some 0,some 1] δ) h []))
 δ' p.2)
 (YQ fun δ' p =>
 YP (YP (xb (xPl (Y2 (YS "deal") (xb (Y1 (aB 4)) (YK aZ)))) (YT) δ' p.2) YW) YE)
 else some (Fl.nx δ',p.2))
 (YQ fun δ' p =>
 YP (YP (xb (Y1 (xb (aB 2) (YB .FloorDiv 7))) ((YF d "_law_plain_call")) δ' p.2) YW) YE))))
 (aM h):=by kernel_rfl
def aX (d:Nat) (w0 w1:W) (h:aA):aD T (d+1) "_law_done_plainly" [w0,w1] h =
 YP
 (YP (aO 2 (xb (aB 0) fun x=>xb (YV 1 1) (YX x)) [some w0,some w1,none] h) (YQ fun δ' p =>
 YP
 (YP (xC1 CmpOp.Eq (YV 1 0) (YS "read") δ' p.2) fun p =>
 if p.1=true then
 YP (YP (xb (xPl (Y2 (YS "got") (aB 2))) (YT) δ' p.2) YW) YE
 else some (Fl.nx δ',p.2))
 (YQ fun δ' p =>
 YP
 (YP (xC1 CmpOp.Eq (YV 1 0) (YS "write") δ' p.2) fun p =>
 if p.1=true then
 YP
 (YP (xb (aB 1) (YI 2) δ' p.2) fun p =>
 YP
 (YP (aB 0 δ' p.2) fun (p_1:W×aA) =>
 YP (xb (aB 1) (YI 1) δ' (p_1.2)) fun (q:W×aA) =>
 match p_1.1,q.1,p.1 with
             | W.c j,W.d y,W.d x=>fL j y x δ' (q.2)
             | W.c j,W.d y,W.c i=>jD j y i δ' (q.2)
             | x,x_1,x_2=>none)
 fun (q:DSt×aA)=>some (Fl.nx (q.1),q.2))
 (YQ fun δ' p =>
 YP (YP (xb (xPl (Y1 (YS "done"))) (YT) δ' p.2) YW) YE)
 else some (Fl.nx δ',p.2))
 (YQ fun δ' p =>
 YP
 (YP (xC1 CmpOp.Eq (YV 1 0) (YS "add") δ' p.2) fun p =>
 if p.1=true then
 YP
 (YP (xb (aB 2) (fun u=>xb (YV 1 2) (YO .Add u)) δ' p.2) fun p =>
 YP
 (YP (aB 0 δ' p.2) fun (p_1:W×aA) =>
 YP (xb (aB 1) (YI 1) δ' (p_1.2)) fun (q:W×aA) =>
 match p_1.1,q.1,p.1 with
               | W.c j,W.d y,W.d x=>fL j y x δ' (q.2)
               | W.c j,W.d y,W.c i=>jD j y i δ' (q.2)
               | x,x_1,x_2=>none)
 fun (q:DSt×aA)=>some (Fl.nx (q.1),q.2))
 (YQ fun δ' p =>
 YP (YP (xb (xPl (Y2 (YS "got") (xb (aB 2) fun u=>xb (YV 1 2) (YO .Add u)))) (YT) δ' p.2) YW) YE)
 else some (Fl.nx δ',p.2))
 (YQ fun δ' p =>
 YP
 (YP (xC1 CmpOp.Eq (aB 2) (YV 1 2) δ' p.2) fun p =>
 if p.1=true then
 YP
 (YP (xb (aB 1) (YI 3) δ' p.2) fun p =>
 YP
 (YP (aB 0 δ' p.2) fun (p_1:W×aA) =>
 YP (xb (aB 1) (YI 1) δ' (p_1.2)) fun (q:W×aA) =>
 match p_1.1,q.1,p.1 with
                 | W.c j,W.d y,W.d x=>fL j y x δ' (q.2)
                 | W.c j,W.d y,W.c i=>jD j y i δ' (q.2)
                 | x,x_1,x_2=>none)
 fun (q:DSt×aA)=>some (Fl.nx (q.1),q.2))
 (YQ fun δ' p =>
 YP (YP (xb (xPl (Y1 (YS "yes"))) (YT) δ' p.2) YW) YE)
 else some (Fl.nx δ',p.2))
 (YQ fun δ' p =>
 YP (YP (xb (xPl (Y1 (YS "no"))) (YT) δ' p.2) YW) YE))))))
 (aM h):=by kernel_rfl
def hZ (d:Nat) (w0 w1:W) (h:aA):aD T (d+1) "_law_done" [w0,w1] h =
 YP
 (YP
 (YP (xC1 CmpOp.Eq (YV 1 0) (YS "span") [some w0,some w1] h) fun p =>
 if p.1=true then
 YP
 (YP
 (xb
 (xPl
 (Y2 (YS "all") (xb
 (Y1 (xb (aB 0) fun (x:W) =>
 xb
 (xb (YV 1 1) YU)
 fun (l:Option Int) =>
 xb
 (xb (YV 1 2) YU)
 (YS3 x l)))
 (YK aZ))))
 (YT) [some w0,some w1] p.2)
 YW)
 YE
 else some (Fl.nx [some w0,some w1],p.2))
 (YQ fun δ' p =>
 YP
 (YP (xC1 CmpOp.Eq (YV 1 0) (YS "deal") δ' p.2) fun p =>
 if p.1=true then
 YP (YP (xb (xPl (Y2 (YS "each") (xb (Y1 (aN (xb (aS (YV 1 1)) fun (p:List PyData×Cw) (δ:DSt) (h:aA)=>aG (YG 0) (aC true) (xb (Y2 (aB 1) (aB 0)) (YF d "_law_done_plainly")) p.2 p.1 p.1 (aK [none,some 0] δ) h []))) (YK aZ)))) (YT) δ' p.2) YW) YE
 else some (Fl.nx δ',p.2))
 (YQ fun δ' p =>
 YP (YP (xb (Y2 (aB 0) (aB 1)) ((YF d "_law_done_plainly")) δ' p.2) YW) YE)))
 (aM h):=by kernel_rfl
def cK (d:Nat) (w0 w1:W) (h:aA):aD T (d+1) "_law_bent" [w0,w1] h =
 YP
 (YP
 (YP (xC1 CmpOp.Eq (YV 0 0) (YS "got") [some w0,some w1,none] h) fun p =>
 if p.1=true then
 YP (YP (xb (xPl (Y2 (YS "got") (xb (xb (YV 0 1) (YB .Add 1)) fun u=>xb (xb (aB 1) (YB .Mod 3)) (YO .Sub u)))) (YT) [some w0,some w1,none] p.2) YW) YE
 else some (Fl.nx [some w0,some w1,none],p.2))
 (YQ fun δ' p =>
 YP
 (YP (xC1 CmpOp.In (YV 0 0) (aN (xPl (Y2 (YS "yes") (YS "no")))) δ' p.2) fun p =>
 if p.1=true then
 YP (YP (xb (xPl (Y1 (xb (aN (xPl (Y2 (YS "yes") (YS "no")))) fun x=>xb (xb (aB 1) (YB .Mod 2)) (YX x)))) (YT) δ' p.2) YW) YE
 else some (Fl.nx δ',p.2))
 (YQ fun δ' p =>
 YP
 (YP (xC1 CmpOp.Eq (YV 0 0) (YS "all") δ' p.2) fun p =>
 if p.1=true then
 YP (aO 2 (xb (xb (aB 1) (YB .FloorDiv 3)) fun u=>xb (xb (Y1 (YV 0 1)) (YK aY)) (YO .Mod u)) δ' p.2) (YQ fun δ' p =>
 YP
 (YP
 (xb
 (xPl
 (Y2 (YS "all") (xb
 (xb
 (xb (YV 0 1) fun (x:W) =>
 xb (aC none) fun (l:Option Int) =>
 xb
 (xb (aB 2) YU)
 (YS3 x l))
 fun u=>xb (xb (xPl (Y1 (xb (xb (xb (YV 0 1) fun x=>xb (aB 2) (YX x)) (YB .Add 1)) fun u=>xb (xb (aB 1) (YB .Mod 3)) (YO .Sub u)))) YT) (YO .Add u))
 fun (u:W) =>
 xb
 (xb (YV 0 1) fun (x:W) =>
 xb
 (xb (xb (aB 2) (YB .Add 1)) YU)
 fun (l:Option Int)=>xb (aC none) (YS3 x l))
 (YO .Add u))))
 (YT) δ' p.2)
 YW)
 YE)
 else some (Fl.nx δ',p.2))
 (YQ fun δ' p =>
 YP
 (YP (xC1 CmpOp.Eq (YV 0 0) (YS "each") δ' p.2) fun p =>
 if p.1=true then
 YP (aO 2 (xb (xb (aB 1) (YB .FloorDiv 3)) fun u=>xb (xb (Y1 (YV 0 1)) (YK aY)) (YO .Mod u)) δ' p.2) (YQ fun δ' p =>
 YP
 (YP
 (xb
 (xPl
 (Y2 (YS "each") (xb
 (xb
 (xb (YV 0 1) fun (x:W) =>
 xb (aC none) fun (l:Option Int) =>
 xb
 (xb (aB 2) YU)
 (YS3 x l))
 fun u=>xb (xb (xPl (Y1 (xb (Y2 (xb (YV 0 1) fun x=>xb (aB 2) (YX x)) (xb (aB 1) (YB .FloorDiv 12))) (YF d "_law_bent")))) YT) (YO .Add u))
 fun (u:W) =>
 xb
 (xb (YV 0 1) fun (x:W) =>
 xb
 (xb (xb (aB 2) (YB .Add 1)) YU)
 fun (l:Option Int)=>xb (aC none) (YS3 x l))
 (YO .Add u))))
 (YT) δ' p.2)
 YW)
 YE)
 else some (Fl.nx δ',p.2))
 (YQ fun δ' p =>
 YP (YP (aB 0 δ' p.2) YW) YE)))))
 (aM h):=by kernel_rfl
@[simp] def bH (d:Nat) (x:DSt) (x_1:aA):Option (Fl×aA) :=
       YP
       (YP (xC1 CmpOp.IsNot (xb (aB 6) fun x=>xb (aB 5) (YX x)) (YZ) x x_1) fun p =>
        if p.1=true then
        YP (YP (xb (aB 7) ((YA (Y1 (xb (xPl (Y5 (aB 5) (xb (xb (aB 6) fun x=>xb (aB 5) (YX x)) (YI 0)) (YZ) (xb (xb (aB 6) fun x=>xb (aB 5) (YX x)) (YI 1)) (YZ))) YT)))) x p.2) fun p=>some (Fl.nx x,p.2)) YE
        else some (Fl.nx x,p.2))
       YE
@[simp] def bI (d:Nat) (x:DSt) (x_1:aA):Option (Fl×aA) :=
      YP (aO 5 (xb (xb (Y2 (xb (aB 0) fun x=>xb (aB 8) (YX x)) (YJ 0)) (YF d "_law_drawn")) fun u=>xb (aB 3) (YO .Mod u)) x x_1) (YQ fun δ' p =>
       YP
       (aO 9
        (xb (xb (Y1 (aB 7)) (YK aY)) fun (u:W) =>
        xb
         (xb
         (Y1 (xb (aB 6) fun (w:W) (δ:DSt) (h:aA) =>
          match w with
          | W.c j=>YP (wsC j h) fun (ws:List W)=>YP (dP (YG 0) (xC1 CmpOp.IsNot (aB 0) (YZ)) (aB 0) (coW j ws) ws (aK [none] δ) h []) fun (q:List W×aA)=>some (W.c (List.length (q.2)),q.2++[Cell.r (q.1)])
          | x=>none))
         (YK aY))
         (YO .Add u))
        δ' p.2)
       (YQ fun δ' p =>
        YP
        (YP (xb (xC1 CmpOp.IsNot (xb (aB 6) fun x=>xb (aB 5) (YX x)) (YZ)) (fun c=>if c=true then aC true else xC1 CmpOp.Lt (aB 9) (aB 2)) δ' p.2) fun p =>
         if p.1=true then
         YP (aO 10 (xb (Y5 (aB 6) (aB 5) (aB 4) (xb (aB 0) fun x=>xb (aB 8) (YX x)) (aB 8)) fun (ws:List W) (x:DSt) (h:aA)=>callW T d (Str.ofString "_law_moved") ws h) δ' p.2) (YQ fun δ' p =>
          YP
           (YP (xC1 CmpOp.IsNot (aB 10) (YZ) δ' p.2) fun p =>
           if p.1=true then
            YP (YP (xb (aB 7) ((YA (Y1 (aB 10)))) δ' p.2) fun p=>some (Fl.nx δ',p.2)) YE
           else some (Fl.nx δ',p.2))
           YE)
         else some (Fl.nx δ',p.2))
        YE))
def mZ (d:Nat) (w0 w1 w2 w3:W) (h:aA):aD T (d+1) "_law_history" [w0,w1,w2,w3] h =
 YP
 (YP (aO 4 (aV (xPl (xb (YJ 0) fun w=>xb (Y7 (YJ 0) (YJ 0) (YJ 0) (YJ 0) (YJ 0) (YJ 0) (YJ 0)) (YC w)))) [some w0,some w1,some w2,some w3,none,none,none,none,none,none,none,none] h) (YQ fun δ' p =>
   YP
    (aO 6
     (aV
      (xb
       (xb (aB 3) YR)
       fun (p:List PyData×Cw) (δ:DSt) (h:aA)=>aG (YG 0) (aC true) (YZ) p.2 p.1 p.1 (aK [none] δ) h []))
     δ' p.2)
    (YQ fun δ' p =>
     YP (aO 7 (aV (xPl (aC []))) δ' p.2) (YQ fun δ' p =>
       YP
        (YP
         (xb (aB 1)
          (fun (u:W) =>
           xb (xb (Y2 (xb (Y1 (aB 0)) (YK aY)) (YJ 63)) fun (ws:List W) (x:DSt) (h:aA)=>xMn ws h) fun (w:W) (x:DSt) (h:aA) =>
            match u,w with
            | W.d (PyData.int i),W.d (PyData.int j)=>if cU i j=true then some ((rng i (Int.toNat (j - i)),none),h) else none
            | x,x_1=>none)
          δ' p.2)
         fun (p:(List PyData×Cw)×aA) =>
         bB (YG 8)
          (bI d)
          (Prod.snd p.1) (Prod.fst p.1) (Prod.fst p.1) δ' p.2)
        (YQ fun δ' p =>
         YP
          (YP
           (xb (aB 3)
            (YR)
            δ' p.2)
           fun (p:(List PyData×Cw)×aA) =>
           bB (YG 5)
            (bH d)
            (Prod.snd p.1) (Prod.fst p.1) (Prod.fst p.1) δ' p.2)
          (YQ fun δ' p =>
           YP
            (aO 11
             (aN
              (xb
               (Y1 (aN
                 (xb
                  (xb (xb (Y1 (aB 7)) (YK aY)) YR)
                  fun (p:List PyData×Cw) (δ:DSt) (h:aA)=>aG (YG 0) (aC true) (xb (xPl (Y2 (xb (Y2 (xb (Y2 (aB 1) (YJ 0)) (YF d "_law_cell_at")) (aB 0)) (YF d "_law_drawn")) (aB 0))) YT) p.2 p.1 p.1 (aK [none,some 0] δ) h [])))
               fun (ws:List W) (x:DSt) (h:aA)=>pR ws h))
             δ' p.2)
            (YQ fun δ' p =>
             YP (YP (xb (Y1 (aN (xb (aS (aB 11)) fun (p:List PyData×Cw) (δ:DSt) (h:aA)=>aG (aP [YG 0,YG 1]) (aC true) (xb (aB 2) fun x=>xb (aB 1) (YX x)) p.2 p.1 p.1 (aK [none,none,some 7] δ) h []))) (YK aZ) δ' p.2) YW) YE)))))))
 (aM h):=by kernel_rfl
def oA (d:Nat) (w0 w1 w2 w3 w4:W) (h:aA):callW T (d+1) "_law_moved" [w0,w1,w2,w3,w4] h =
 YP
 (YP (aO 5 (xb (aB 0) fun x=>xb (aB 1) (YX x)) [some w0,some w1,some w2,some w3,some w4,none,none,none] h) (YQ fun δ' p =>
   YP (aO 6 (xb (Y2 (aB 3) (aB 4)) (YF d "_law_drawn")) δ' p.2) (YQ fun δ' p =>
     YP
      (YP (xC1 CmpOp.Is (aB 5) (YZ) δ' p.2) fun p =>
       if p.1=true then
        YP
         (YP (aV (xPl (Y3 (aB 4) (xb (Y2 (aB 3) (xb (aB 4) (YB .Add 1))) (YF d "_law_call")) (YZ))) δ' p.2) fun p =>
          YP
           (YP (aB 0 δ' p.2) fun (p_1:W×aA) =>
            YP (aB 1 δ' (p_1.2)) fun (q:W×aA) =>
             match p_1.1,q.1,p.1 with
             | W.c j,W.d y,W.d x=>fL j y x δ' (q.2)
             | W.c j,W.d y,W.c i=>jD j y i δ' (q.2)
             | x,x_1,x_2=>none)
           fun (q:DSt×aA)=>some (Fl.nx (q.1),q.2))
         (YQ fun δ' p =>
          YP (YP (YZ δ' p.2) YW) YE)
       else some (Fl.nx δ',p.2))
      (YQ fun δ' p =>
       YP
        (YP (xb (xC1 CmpOp.Is (YV 5 2) (YZ)) (fun c=>if c=true then xC1 CmpOp.Gt (xb (aB 6) (YB .Mod 9)) (YJ 0) else aC false) δ' p.2) fun p =>
         if p.1=true then
          YP
           (YP (xb (Y2 (aB 2) (YV 5 1)) ((YF d "_law_done")) δ' p.2) fun p =>
            YP
             (YP (aB 5 δ' p.2) fun (p_1:W×aA) =>
              YP (YJ 2 δ' (p_1.2)) fun (q:W×aA) =>
               match p_1.1,q.1,p.1 with
               | W.c j,W.d y,W.d x=>fL j y x δ' (q.2)
               | W.c j,W.d y,W.c i=>jD j y i δ' (q.2)
               | x,x_1,x_2=>none)
             fun (q:DSt×aA)=>some (Fl.nx (q.1),q.2))
           (YQ fun δ' p =>
            YP (YP (YZ δ' p.2) YW) YE)
         else some (Fl.nx δ',p.2))
        (YQ fun δ' p =>
         YP
          (YP (YZ δ' p.2) fun p =>
           YP
            (YP (aB 0 δ' p.2) fun (p_1:W×aA) =>
             YP (aB 1 δ' (p_1.2)) fun (q:W×aA) =>
              match p_1.1,q.1,p.1 with
              | W.c j,W.d y,W.d x=>fL j y x δ' (q.2)
              | W.c j,W.d y,W.c i=>jD j y i δ' (q.2)
              | x,x_1,x_2=>none)
            fun (q:DSt×aA)=>some (Fl.nx (q.1),q.2))
          (YQ fun δ' p =>
           YP (aO 7 (YV 5 2) δ' p.2) (YQ fun δ' p =>
             YP
              (YP (xC1 CmpOp.Is (aB 7) (YZ) δ' p.2) fun p =>
               if p.1=true then
                YP (aO 7 (xb (xPl (Y1 (YS "refused"))) YT) δ' p.2) YE
               else
                YP
                 (YP (xC1 CmpOp.Eq (xb (aB 6) (YB .Mod 11)) (YJ 0) δ' p.2) fun p =>
                  if p.1=true then
                   YP (aO 7 (xb (Y2 (aB 7) (xb (aB 6) (YB .FloorDiv 11))) (YF d "_law_bent")) δ' p.2) YE
                  else some (Fl.nx δ',p.2))
                 YE)
              (YQ fun δ' p =>
               YP (YP (xb (xPl (Y5 (aB 1) (YV 5 0) (aB 4) (YV 5 1) (aB 7))) (YT) δ' p.2) YW) YE))))))))
 iO:=by kernel_rfl
def gA (d:Nat) (w0:W) (h:aA):aD T (d+1) "_law_parts" [w0] h =
 YP
 (YP
 (YP (xC1 CmpOp.Eq (YV 0 0) (YS "deal") [some w0] h) fun p =>
 if p.1=true then
 YP
 (YP
 (aN
 (xb (Y1 (YV 0 1)) fun (ws:List W) (x:DSt) (h:aA) =>
 match ws with
        | [w] =>
         match ref h w with
         | some (PyData.list xs)=>some (xs,h)
         | some (PyData.tuple xs)=>some (xs,h)
         | x=>none
        | x=>none)
 [some w0] p.2)
 YW)
 YE
 else some (Fl.nx [some w0],p.2))
 (YQ fun δ' p =>
 YP
 (YP (xC1 CmpOp.Eq (YV 0 0) (YS "span") δ' p.2) fun p =>
 if p.1=true then
 YP
 (YP
 (aN
 (xb
 (xb (YV 0 1) fun (u:W) =>
 xb (YV 0 2) fun (w:W) (x:DSt) (h:aA) =>
 match u,w with
            | W.d (PyData.int i),W.d (PyData.int j)=>if cU i j=true then some ((rng i (Int.toNat (j - i)),none),h) else none
            | x,x_1=>none)
 fun (p:List PyData×Cw) (δ:DSt) (h:aA)=>aG (YG 0) (aC true) (xb (xPl (Y2 (YS "read") (aB 0))) YT) p.2 p.1 p.1 (aK [none] δ) h [])
 δ' p.2)
 YW)
 YE
 else some (Fl.nx δ',p.2))
 (YQ fun δ' p =>
 YP (YP (aN (xPl (Y1 (aB 0))) δ' p.2) YW) YE)))
 (aM h):=by kernel_rfl
def nB (d:Nat) (w0 w1:W) (h:aA):aD T (d+1) "_law_changes" [w0,w1] h =
 YP
 (YP (aO 2 (aN (xPl (Y3 (YS "write") (YS "add") (YS "swap")))) [some w0,some w1,none] h) (YQ fun δ' p =>
 YP (YP (bC (xC1 CmpOp.NotEq (aN (xb (aS (xb (Y1 (aB 0)) (YF d "_law_parts"))) fun (p:List PyData×Cw) (δ:DSt) (h:aA)=>aG (YG 0) (xb (xC1 CmpOp.In (YV 0 0) (aB 2)) fun c=>if c=true then xb (xC1 CmpOp.Is (aB 1) (YZ)) fun c=>if c=true then aC true else xC1 CmpOp.Eq (YV 0 1) (aB 1) else aC false) (aB 0) p.2 p.1 p.1 (aK [none,some 1,some 2] δ) h [])) (aN (xPl (aC [])))) δ' p.2) YW) YE))
 (aM h):=by kernel_rfl
def kF (d:Nat) (w0:W) (h:aA):aD T (d+1) "_law_by_begins" [w0] h =
 YP
 (YP
 (aO 1
 (aN
 (xb
 (xb (xb (Y1 (aB 0)) (YK aY)) YR)
 fun (p:List PyData×Cw) (δ:DSt) (h:aA)=>aG (YG 0) (xC1 CmpOp.NotEq (xb (xb (aB 1) fun x=>xb (aB 0) (YX x)) (YI 4)) (xb (xPl (Y1 (YS "refused"))) YT)) (aB 0) p.2 p.1 p.1 (aK [none,some 0] δ) h []))
 [some w0,none] h)
 (YQ fun δ' p =>
 YP (YP (aN (xb (aS (aN (xb (Y1 (aN (xb (aS (aB 1)) fun (p:List PyData×Cw) (δ:DSt) (h:aA)=>aG (YG 0) (aC true) (xb (xPl (Y2 (xb (xb (aB 1) fun x=>xb (aB 0) (YX x)) (YI 1)) (aB 0))) YT) p.2 p.1 p.1 (aK [none,some 0] δ) h []))) fun (ws:List W) (x:DSt) (h:aA)=>pR ws h))) fun (p:List PyData×Cw) (δ:DSt) (h:aA)=>aG (aP [YG 0,YG 1]) (aC true) (aB 1) p.2 p.1 p.1 (aK [none,none] δ) h []) δ' p.2) YW) YE))
 (aM h):=by kernel_rfl
def tG (d:Nat) (w0:W) (h:aA):aD T (d+1) "_law_word" [w0] h =
 YP
 (YP (YP (xb (aN (xPl (Y2 (YS "must") (YS "may")))) (fun x=>xb (xb (Y1 (bC (xC1 CmpOp.Is (YV 0 2) (YZ)))) fun (ws:List W) (x:DSt) (h:aA)=>aC0 ws h) (YX x)) [some w0] h) YW) YE)
 (aM h):=by kernel_rfl
@[simp] def cV (d:Nat) (x:DSt) (x_1:aA):Option (Fl×aA) :=
 YP
 (YP
 (xb (xb (aB 7) (YB .Add 1))
 (fun (u:W) =>
 xb (xb (Y1 (aB 2)) (YK aY)) fun (w:W) (x:DSt) (h:aA) =>
 match u,w with
         | W.d (PyData.int i),W.d (PyData.int j)=>if cU i j=true then some ((rng i (Int.toNat (j - i)),none),h) else none
         | x,x_2=>none)
 x x_1)
 fun (p:(List PyData×Cw)×aA) =>
 bB (YG 8)
 (fun (x:DSt) (x_2:aA) =>
 YP
 (YP (xC1 CmpOp.Eq (xb (xb (aB 0) fun x=>xb (xb (aB 2) fun x=>xb (aB 7) (YX x)) (YX x)) (YI 0)) (xb (xb (aB 0) fun x=>xb (xb (aB 2) fun x=>xb (aB 8) (YX x)) (YX x)) (YI 0)) x x_2) fun p =>
 if p.1=true then
 YP (YP (xb (aB 6) ((YA (Y1 (xb (xPl (Y2 (aB 7) (aB 8))) YT)))) x p.2) fun p=>some (Fl.nx x,p.2)) YE
 else some (Fl.nx x,p.2))
 YE)
 (Prod.snd p.1) (Prod.fst p.1) (Prod.fst p.1) x p.2)
 YE
@[simp] def cW (d:Nat) (x:DSt) (x_1:aA):Option (Fl×aA) :=
 YP (aO 5 (xb (aB 0) fun x=>xb (aB 4) (YX x)) x x_1) (YQ fun δ' p =>
 YP
 (YP (xC1 CmpOp.Eq (YV 5 0) (aB 1) δ' p.2) fun p =>
 if p.1=true then
 YP (YP (xb (aB 2) ((YA (Y1 (aB 4)))) δ' p.2) fun p=>some (Fl.nx δ',p.2)) (YQ fun δ' p =>
 YP (YP (xb (aB 3) ((YA (Y1 (xb (xPl (Y3 (YV 5 3) (YV 5 4) (xb (Y1 (aB 5)) (YF d "_law_word")))) YT)))) δ' p.2) fun p=>some (Fl.nx δ',p.2)) YE)
 else
 YP
 (YP
 (xb (xb (Y2 (YV 5 3) (YZ)) (YF d "_law_changes"))
 (YD)
 δ' p.2)
 fun p =>
 if p.1=true then
 YP (YP (xb (aB 2) ((YA (Y1 (aB 4)))) δ' p.2) fun p=>some (Fl.nx δ',p.2)) (YQ fun δ' p =>
 YP (YP (xb (aB 3) ((YA (Y1 (xb (xPl (Y3 (YV 5 3) (YZ) (xb (Y1 (aB 5)) (YF d "_law_word")))) YT)))) δ' p.2) fun p=>some (Fl.nx δ',p.2)) YE)
 else some (Fl.nx δ',p.2))
 YE)
 YE)
def tH (d:Nat) (w0 w1:W) (h:aA):aD T (d+1) "_law_hand" [w0,w1] h =
 YP
 (YP (aO 2 (aV (xPl (aC []))) [some w0,some w1,none,none,none,none,none,none,none] h) (YQ fun δ' p =>
 YP (aO 3 (aV (xPl (aC []))) δ' p.2) (YQ fun δ' p =>
 YP
 (YP (aS (xb (Y1 (aB 0)) (YF d "_law_by_begins")) δ' p.2) fun (p:(List PyData×Cw)×aA) =>
 bB (YG 4)
 (cW d)
 (Prod.snd p.1) (Prod.fst p.1) (Prod.fst p.1) δ' p.2)
 (YQ fun δ' p =>
 YP (aO 6 (aV (xPl (aC []))) δ' p.2) (YQ fun δ' p =>
 YP
 (YP
 (xb (xb (Y1 (aB 2)) (YK aY))
 (YR)
 δ' p.2)
 fun (p:(List PyData×Cw)×aA) =>
 bB (YG 7)
 (cV d)
 (Prod.snd p.1) (Prod.fst p.1) (Prod.fst p.1) δ' p.2)
 (YQ fun δ' p =>
 YP (YP (xb (xPl (Y2 (xb (xPl (Y2 (aB 1) (xb (xPl (Y4 (xb (xPl (xb (YJ 0) fun w=>xb (Y7 (YJ 0) (YJ 0) (YJ 0) (YJ 0) (YJ 0) (YJ 0) (YJ 0)) (YC w))) YT) (xb (Y1 (aB 3)) (YK aZ)) (xb (Y1 (aB 6)) (YK aZ)) (xb (xPl (aC [])) YT))) YT))) YT) (xb (Y1 (aB 2)) (YK aZ)))) (YT) δ' p.2) YW) YE))))))
 (aM h):=by kernel_rfl
@[simp] def cX (d:Nat) (x:DSt) (x_1:aA):Option (Fl×aA) :=
 YP
 (YP (xC1 CmpOp.Lt (xb (aB 0) fun x=>xb (xb (xb (aB 2) fun u=>xb (aB 4) (YO .Add u)) fun u=>xb (aB 1) (YO .Mod u)) (YX x)) (aB 3) x x_1) fun p =>
 if p.1=true then
 YP (YP (xb (xb (aB 2) fun u=>xb (aB 4) (YO .Add u)) (fun u=>xb (aB 1) (YO .Mod u)) x p.2) YW) YE
 else some (Fl.nx x,p.2))
 YE
def kM (d:Nat) (w0 w1 w2 w3:W) (h:aA):aD T (d+1) "_law_free" [w0,w1,w2,w3] h =
 YP
 (YP
 (YP
 (xb (aB 1)
 (YR)
 [some w0,some w1,some w2,some w3,none] h)
 fun (p:(List PyData×Cw)×aA) =>
 bB (YG 4)
 (cX d)
 (Prod.snd p.1) (Prod.fst p.1) (Prod.fst p.1) [some w0,some w1,some w2,some w3,none] p.2)
 (YQ fun δ' p =>
 YP (YP (YZ δ' p.2) YW) YE))
 (aM h):=by kernel_rfl
@[simp] def bU (d:Nat) (x:DSt) (x_1:aA):Option (Fl×aA) :=
 YP (aO 7 (xb (Y2 (xb (aB 0) fun x=>xb (aB 6) (YX x)) (YJ 20)) (YF d "_law_drawn")) x x_1) (YQ fun δ' p =>
 YP (aO 8 (xb (Y4 (aB 4) (aB 2) (xb (aB 7) fun u=>xb (aB 2) (YO .Mod u)) (xb (YJ 10) fun u=>xb (aB 6) (YO .Mult u))) (YF d "_law_free")) δ' p.2) (YQ fun δ' p =>
 YP
 (YP (xC1 CmpOp.IsNot (aB 8) (YZ) δ' p.2) fun p =>
 if p.1=true then
 YP (aO 9 (xb (Y2 (xb (aB 0) fun x=>xb (aB 6) (YX x)) (YJ 0)) (YF d "_law_call")) δ' p.2) (YQ fun δ' p =>
 YP (aO 10 (xb (Y2 (aB 3) (aB 9)) (YF d "_law_done")) δ' p.2) (YQ fun δ' p =>
 YP (aO 11 (xb (xb (aB 7) (YB .FloorDiv 8)) (YB .Mod 3)) δ' p.2) (YQ fun δ' p =>
 YP (aO 12 (xb (xb (xb (YJ 10) fun u=>xb (xb (aB 6) fun u=>xb (aB 11) (YO .Add u)) (YO .Mult u)) (YB .Add 1)) fun u=>xb (aB 11) (YO .Add u)) δ' p.2) (YQ fun δ' p =>
 YP
 (YP (aB 12 δ' p.2) fun p =>
 YP
 (YP (aB 4 δ' p.2) fun (p_1:W×aA) =>
 YP (aB 8 δ' (p_1.2)) fun (q:W×aA) =>
 match p_1.1,q.1,p.1 with
                | W.c j,W.d y,W.d x=>fL j y x δ' (q.2)
                | W.c j,W.d y,W.c i=>jD j y i δ' (q.2)
                | x,x_2,x_3=>none)
 fun (q:DSt×aA)=>some (Fl.nx (q.1),q.2))
 (YQ fun δ' p =>
 YP
 (YP (xC1 CmpOp.Eq (xb (xb (aB 7) (YB .FloorDiv 32)) (YB .Mod 9)) (YJ 0) δ' p.2) fun p =>
 if p.1=true then
 YP (aO 10 (xb (xPl (Y1 (YS "refused"))) YT) δ' p.2) YE
 else
 YP
 (YP (xC1 CmpOp.Eq (xb (xb (aB 7) (YB .FloorDiv 32)) (YB .Mod 9)) (YJ 1) δ' p.2) fun p =>
 if p.1=true then
 YP (aO 10 (xb (Y2 (aB 10) (xb (aB 7) (YB .FloorDiv 512))) (YF d "_law_bent")) δ' p.2) YE
 else
 YP
 (YP (xC1 CmpOp.Eq (xb (xb (aB 7) (YB .FloorDiv 32)) (YB .Mod 27)) (YJ 2) δ' p.2) fun p =>
 if p.1=true then
 YP (aO 10 (YZ) δ' p.2) (YQ fun δ' p =>
 YP (aO 12 (YZ) δ' p.2) (YQ fun δ' p =>
 YP
 (YP (xb (YJ 10) ((YB .Pow 6)) δ' p.2) fun p =>
 YP
 (YP (aB 4 δ' p.2) fun (p_1:W×aA) =>
 YP (aB 8 δ' (p_1.2)) fun (q:W×aA) =>
 match p_1.1,q.1,p.1 with
                       | W.c j,W.d y,W.d x=>fL j y x δ' (q.2)
                       | W.c j,W.d y,W.c i=>jD j y i δ' (q.2)
                       | x,x_2,x_3=>none)
 fun (q:DSt×aA)=>some (Fl.nx (q.1),q.2))
 YE))
 else some (Fl.nx δ',p.2))
 YE)
 YE)
 (YQ fun δ' p =>
 YP (YP (xb (aB 5) ((YA (Y1 (xb (xPl (Y5 (aB 8) (xb (YJ 10) fun u=>xb (aB 6) (YO .Mult u)) (aB 12) (aB 9) (aB 10))) YT)))) δ' p.2) fun p=>some (Fl.nx δ',p.2)) YE))))))
 else some (Fl.nx δ',p.2))
 YE))
def qY (d:Nat) (w0 w1 w2:W) (h:aA):aD T (d+1) "_law_dense" [w0,w1,w2] h =
 YP
 (YP (aO 3 (aV (xPl (xb (YJ 0) fun w=>xb (Y7 (YJ 0) (YJ 0) (YJ 0) (YJ 0) (YJ 0) (YJ 0) (YJ 0)) (YC w)))) [some w0,some w1,some w2,none,none,none,none,none,none,none,none,none,none,none] h) (YQ fun δ' p =>
 YP
 (aO 4
 (aV
 (xb
 (aV
 (xPl
 (Y1 (xb (YJ 1) YNg))))
 fun (u:W) =>
 xb (aB 2) fun (w:W) (x:DSt) (h:aA) =>
 match u,w with
        | W.c i,W.d (PyData.int k) =>
         match h[i]? with
         | some (Cell.l xs)=>if -2^63<=k/\k < 2^63/\List.length xs*Int.toNat k<=sizeLine then some (List.flatten (List.replicate (Int.toNat k) xs),h) else none
         | x=>none
        | x,x_1=>none))
 δ' p.2)
 (YQ fun δ' p =>
 YP (aO 5 (aV (xPl (aC []))) δ' p.2) (YQ fun δ' p =>
 YP
 (YP
 (xb (YJ 2)
 (fun (u:W) =>
 xb (xb (Y2 (xb (Y1 (aB 0)) (YK aY)) (xb (YJ 2) fun u=>xb (aB 1) (YO .Add u))) fun (ws:List W) (x:DSt) (h:aA)=>xMn ws h) fun (w:W) (x:DSt) (h:aA) =>
 match u,w with
            | W.d (PyData.int i),W.d (PyData.int j)=>if cU i j=true then some ((rng i (Int.toNat (j - i)),none),h) else none
            | x,x_1=>none)
 δ' p.2)
 fun (p:(List PyData×Cw)×aA) =>
 bB (YG 6)
 (bU d)
 (Prod.snd p.1) (Prod.fst p.1) (Prod.fst p.1) δ' p.2)
 (YQ fun δ' p =>
 YP
 (aO 13
 (aN
 (xb
 (Y1 (aN
 (xb
 (xb (xb (Y1 (aB 5)) (YK aY)) YR)
 fun (p:List PyData×Cw) (δ:DSt) (h:aA)=>aG (YG 0) (aC true) (xb (xPl (Y2 (xb (Y2 (xb (Y2 (aB 1) (YJ 0)) (YF d "_law_cell_at")) (aB 0)) (YF d "_law_drawn")) (aB 0))) YT) p.2 p.1 p.1 (aK [none,some 0] δ) h [])))
 fun (ws:List W) (x:DSt) (h:aA)=>pR ws h))
 δ' p.2)
 (YQ fun δ' p =>
 YP (YP (xb (Y1 (aN (xb (aS (aB 13)) fun (p:List PyData×Cw) (δ:DSt) (h:aA)=>aG (aP [YG 0,YG 1]) (aC true) (xb (aB 2) fun x=>xb (aB 1) (YX x)) p.2 p.1 p.1 (aK [none,none,some 5] δ) h []))) (YK aZ) δ' p.2) YW) YE))))))
 (aM h):=by kernel_rfl
@[simp] def gG (d:Nat) (x:DSt) (x_1:aA):Option (Fl×aA) :=
 YP
 (YP (xC1 CmpOp.IsNot (aB 6) (YZ) x x_1) fun p =>
 if p.1=true then
 YP (aO 6 (xb (aB 6) fun u=>xb (aB 2) (YO .Mult u)) x p.2) YE
 else some (Fl.nx x,p.2))
 (YQ fun δ' p =>
 YP (YP (xb (aB 3) ((YA (Y1 (xb (xPl (Y5 (aB 4) (xb (aB 5) fun u=>xb (aB 2) (YO .Mult u)) (aB 6) (aB 7) (aB 8))) YT)))) δ' p.2) fun p=>some (Fl.nx δ',p.2)) YE)
def vQ (d:Nat) (w0 w1:W) (h:aA):aD T (d+1) "_law_far" [w0,w1] h =
 YP
 (YP (aO 2 (xb (aN (xPl (Y2 (YJ 1) (xb (YJ 10) (YB .Pow 36))))) fun x=>xb (xb (aB 1) (YB .Mod 2)) (YX x)) [some w0,some w1,none,none,none,none,none,none,none] h) (YQ fun δ' p =>
 YP (aO 3 (aV (xPl (aC []))) δ' p.2) (YQ fun δ' p =>
 YP
 (YP (aS (aB 0) δ' p.2) fun (p:(List PyData×Cw)×aA) =>
 bB (aP [YG 4,YG 5,YG 6,YG 7,YG 8])
 (gG d)
 (Prod.snd p.1) (Prod.fst p.1) (Prod.fst p.1) δ' p.2)
 (YQ fun δ' p =>
 YP (YP (xb (Y1 (aB 3)) (YK aZ) δ' p.2) YW) YE))))
 (aM h):=by kernel_rfl
def bW1 (d:Nat) (w0:W) (h:aA):aD T (d+1) "law" [w0] h =
 YP
 (YP (aO 1 (xb (aN (xPl (Y4 (YJ 4) (YJ 8) (YJ 20) (YJ 60)))) fun x=>xb (xb (xb (Y2 (aB 0) (YJ 1)) (YF d "_law_cell_at")) (YB .Mod 4)) (YX x)) [some w0,none,none,none,none,none,none] h) (YQ fun δ' p =>
   YP (aO 2 (xb (Y4 (aB 0) (YJ 2) (aB 1) (xb (YJ 1) fun u=>xb (xb (xb (xb (Y2 (aB 0) (YJ 1)) (YF d "_law_cell_at")) (YB .FloorDiv 4)) (YB .Mod 6)) (YO .Add u))) (YF d "_law_history")) δ' p.2) (YQ fun δ' p =>
     YP
      (YP (xC1 CmpOp.Eq (aB 1) (YJ 60) δ' p.2) fun p =>
       if p.1=true then
        YP (aO 2 (xb (Y3 (aB 0) (YJ 40) (xb (YJ 1) fun u=>xb (xb (xb (xb (Y2 (aB 0) (YJ 1)) (YF d "_law_cell_at")) (YB .FloorDiv 4)) (YB .Mod 6)) (YO .Add u))) (YF d "_law_dense")) δ' p.2) YE
       else some (Fl.nx δ',p.2))
      (YQ fun δ' p =>
       YP (aO 2 (xb (Y2 (aB 2) (xb (Y2 (xb (Y2 (aB 0) (YJ 1)) (YF d "_law_cell_at")) (YJ 50)) (YF d "_law_drawn"))) (YF d "_law_far")) δ' p.2) (YQ fun δ' p =>
         YP (aO 3 (aN (xb (Y1 (aN (xb (aS (xb (Y1 (aB 2)) (YF d "_law_by_begins"))) fun (p:List PyData×Cw) (δ:DSt) (h:aA)=>aG (YG 0) (aC true) (xb (xb (aB 1) fun x=>xb (aB 0) (YX x)) (YI 0)) p.2 p.1 p.1 (aK [none,some 2] δ) h []))) fun (ws:List W) (x:DSt) (h:aA)=>xSS ws h)) δ' p.2) (YQ fun δ' p =>
           YP (aO 4 (aN (xb (aS (aB 3)) fun (p:List PyData×Cw) (δ:DSt) (h:aA)=>aG (YG 0) (aC true) (xb (Y2 (aB 1) (aB 0)) (YF d "_law_hand")) p.2 p.1 p.1 (aK [none,some 2] δ) h [])) δ' p.2) (YQ fun δ' p =>
             YP (aO 5 (xb (Y2 (aB 2) (YS "hand")) fun (ws:List W) (x:DSt) (h:aA)=>callW T d (Str.ofString "problems_of") ws h) δ' p.2) (YQ fun δ' p =>
               YP (aO 6 (xb (Y2 (aB 2) (YS "hand")) fun (ws:List W) (x:DSt) (h:aA)=>callW T d (Str.ofString "deeds_of") ws h) δ' p.2) (YQ fun δ' p =>
                 YP
                  (YP (xb (xC1 CmpOp.NotEq (aB 5) (aN (xb (aS (aB 4)) fun (p:List PyData×Cw) (δ:DSt) (h:aA)=>aG (aP [YG 0,YG 1]) (aC true) (aB 0) p.2 p.1 p.1 (aK [none,none] δ) h []))) (fun c=>if c=true then aC true else xC1 CmpOp.NotEq (aB 6) (aN (xb (aS (aB 4)) fun (p:List PyData×Cw) (δ:DSt) (h:aA)=>aG (aP [YG 0,YG 1]) (aC true) (aB 1) p.2 p.1 p.1 (aK [none,none] δ) h []))) δ' p.2) (YT2 false δ'))
                  (YQ fun δ' p =>
                   YP
                    (YP
                     (xC1 CmpOp.NotEq
                      (aN
                       (xb (aS (aB 5)) fun (p:List PyData×Cw) (δ:DSt) (h:aA) =>
                        aG (aP [YG 0,YG 1])
                         (xb
                          (xb (xb (Y1 (aB 1)) (YF d "is_problem")) YD)
                          fun (b:Bool)=>aC !b)
                         (aB 1) p.2 p.1 p.1 (aK [none,none] δ) h []))
                      (aN (xPl (aC []))) δ' p.2)
                     (YT2 false δ'))
                    (YQ fun δ' p =>
                     YP (YP (xb (aB 5) ((YA (Y1 (YZ)))) δ' p.2) fun p=>some (Fl.nx δ',p.2)) (YQ fun δ' p =>
                       YP (YP (xb (aB 6) ((YA (Y1 (xb (xPl (aC [])) YT)))) δ' p.2) fun p=>some (Fl.nx δ',p.2)) (YQ fun δ' p =>
                         YP
                          (YP
                           (xb (bC (xC1 CmpOp.Eq (xb (Y2 (aB 2) (YS "hand")) fun (ws:List W) (x:DSt) (h:aA)=>callW T d (Str.ofString "problems_of") ws h) (aN (xb (aS (aB 4)) fun (p:List PyData×Cw) (δ:DSt) (h:aA)=>aG (aP [YG 0,YG 1]) (aC true) (aB 0) p.2 p.1 p.1 (aK [none,none] δ) h []))))
                            (fun (w:W) =>
                             match w with
                             | W.d (PyData.bool true) =>
                              bC
                               (xC1 CmpOp.Eq (xb (Y2 (aB 2) (YS "hand")) fun (ws:List W) (x:DSt) (h:aA)=>callW T d (Str.ofString "deeds_of") ws h)
                                (xb (aB 6) fun (x:W) =>
                                 xb (aC none) fun (l:Option Int) =>
                                  xb
                                   (xb
                                    (xb (YJ 1) YNg)
                                    YU)
                                   (YS3 x l)))
                             | W.d (PyData.bool false)=>aC (W.d (PyData.bool false))
                             | x=>xno)
                            δ' p.2)
                           YW)
                          YE)))))))))))))
 (aM h):=by kernel_rfl
end K46

namespace K46
open PySem PySem.Spec PyProof.Rows L2 DL CI SJ
abbrev Ow {α β:Type} (_:α->Option β):=Option α
noncomputable def bd {α β:Type} (f:α->Option β) (x:Ow f):Option β:=Option.bind x f
@[simp ↓ high] theorem bdi {α β:Type} (x:Option α) (f:α->Option β):x.bind f=bd f x:=rfl
@[simp high] theorem bds {α β:Type} (a:α) (f:α->Option β):bd f (some a)=f a:=id rfl
@[simp ↓ high] theorem bdy {α β:Type} (x:Option α) (f:α->Option β):YP x f=bd f x:=rfl
@[simp ↓ high] theorem ynx (k:DSt->Fl×aA->Option (Fl×aA)) (δ:DSt) (h:aA):YQ k (.nx δ,h)=k δ (.nx δ,h):=id rfl
@[simp ↓ high] theorem yrt (k:DSt->Fl×aA->Option (Fl×aA)) (w:W) (h:aA):YQ k (.rt w,h)=some (.rt w,h):=id rfl
@[simp ↓ high] theorem yE (f:Fl) (h:aA):YE (f,h)=some (f,h):=by cases f<;>rfl
@[simp ↓ high] theorem xba {α β:Type} (x:XR α) (f:α->XR β) (δ:DSt) (h:aA):xb x f δ h=bd (fun p=>f p.1 δ p.2) (x δ h):=rfl
@[simp ↓ high] theorem xsa (i:Nat) (x:XR W) (δ:DSt) (h:aA):aO i x δ h=bd (fun p=>some (.nx (δ.set i (some p.1)),p.2)) (x δ h):=rfl
mutual
noncomputable def nD:PyData->Bool
 | .none=>true
 | .bool _=>true
 | .int _=>true
 | .str _=>true
 | .list xs=>nDs xs
 | .tuple xs=>nDs xs
 | .dict _=>false
noncomputable def nDs:List PyData->Bool
 | []=>true
 | x::xs=>nD x&&nDs xs
end
theorem qZ:∀ (xs:List PyData),nDs xs=xs.all nD
 | []=>rfl
 | x::xs=>by rw [nDs,qZ xs];rfl
@[simp] theorem nDn:nD .none=true:=rfl
@[simp] theorem nDb (b:Bool):nD (.bool b)=true:=rfl
@[simp] theorem nDi (i:Int):nD (.int i)=true:=rfl
@[simp] theorem nDx (x:Str):nD (.str x)=true:=rfl
@[simp] theorem nDl (xs:List PyData):nD (.list xs)=xs.all nD:=qZ xs
@[simp] theorem nDt (xs:List PyData):nD (.tuple xs)=xs.all nD:=qZ xs
@[simp] theorem nDd (kvs:List (PyData×PyData)):nD (.dict kvs)=false:=rfl
def nD.nd {x:PyData} (h:nD x=true):noD x=true:=by cases x<;>first | rfl | cases h
@[simp] theorem cN8:noD .none=true:=rfl
@[simp] theorem cN9 (b:Bool):noD (.bool b)=true:=rfl
@[simp] theorem cO0 (i:Int):noD (.int i)=true:=rfl
@[simp] theorem cO1 (x:Str):noD (.str x)=true:=rfl
@[simp] theorem cO2 (xs:List PyData):noD (.list xs)=true:=rfl
@[simp] theorem cO3 (xs:List PyData):noD (.tuple xs)=true:=rfl
variable (d:Nat) (h:aA)
end K46

namespace K46
open PySem PySem.Spec PyProof.Rows L2 DL CI SJ
variable (d:Nat) (x:PyData) (h:aA)
@[simp] theorem dS (hx:nD x=true):aD T (d+1) "is_whole" [.d x] h=some (.bool (fP x),h):=by
 cases x<;>simp [vN,isi,fJ,fP]<;>cases hx
@[simp] theorem gB (lo hi:Int) (hx:nD x=true):aD T (d+2) "is_between" [.d x,.d (.int lo),.d (.int hi)] h=some (.bool (dF x lo hi),h):=by
 have hn:=nD.nd hx;cases x<;>simp [qU,dS,dF,fP,hx]<;>try (cases hx;done)
 split<;>simp_all;omega
@[simp] theorem bS (n:Int) (hx:nD x=true):aD T (d+1) "is_tuple_of" [.d x,.d (.int n)] h=some (.bool (fB x n),h):=by
 cases x<;>simp [nS,isi,fJ,fB]<;>cases hx
@[simp] theorem dA (xs:List PyData) (hx:xs.all nD=true):aD T (d+2) "are_whole" [.d (.tuple xs)] h=some (.bool (xs.all fP),h):=by
 simp [sV];rw [dI (fun x=>.bool (fP x)) 0 (fun _ _ _=>rfl)]
 ·simp [iD]
 ·intro y hy u;simp [dS,List.all_eq_true.mp hx y hy]
@[simp] theorem nC (hx:nD x=true):aD T (d+3) "is_key" [.d x] h=some (.bool (jN x),h):=by
 simp [aL0,gB,jN,hx]
def tp (a:PyData):(∃ ps,a=.tuple ps)\/((∀ n,fB a n=false)/\isi a "tuple"=false/\eQ a=.none/\bX a=false/\eV a=false/\(∀ s,gV (.tuple [.str s,a])=false/\pA (.tuple [.str s,a])=false)/\∀ s,(∀ lo hi,bN (.span lo hi) (.tuple [.str s,a])=false)/\∀ cs,bN (.deal cs) (.tuple [.str s,a])=false):=by
 cases a<;>first | exact .inl ⟨_,rfl⟩ | exact .inr ⟨fun _=>rfl,rfl,rfl,rfl,rfl,fun _=>⟨rfl,rfl⟩,fun _=>⟨fun _ _=>rfl,fun _=>rfl⟩⟩
@[simp] theorem pE (hx:nD x=true):aD T (d+1) "word_of" [.d x] h=some (eQ x,h):=by
 rcases tp x with ⟨xs,rfl⟩ | hn
 ·cases xs with
  | nil=>simp [iF,isi,fJ,eQ]
  | cons y r =>
   cases hs:isi y "str"
   ·have:eQ (.tuple (y::r))=.none:=by cases y<;>first | rfl | cases hs
    have hq:noD y=true:=nD.nd (by simp at hx;exact hx.1);simp [iF,show ∀ xs,isi (.tuple xs) "tuple"=true from fun _=>rfl,hs,this,hq]
   ·obtain ⟨s,rfl⟩:∃ s,y=.str s:=by cases y<;>first | exact ⟨_,rfl⟩ | cases hs
    simp [iF,isi,fJ,eQ]
 ·simp [iF,hn,nD.nd hx]
end K46

namespace K46
open PySem PySem.Spec PyProof.Rows L2 DL CI SJ
variable (d:Nat) (x:PyData) (h:aA)
@[simp] theorem iA (s:Str) (n:Int) (hx:nD x=true):aD T (d+2) "is_worded" [.d x,.d (.str s),.d (.int n)] h=some (.bool (aR x s n),h):=by
 simp [sW,pE,hx];cases x<;>simp [eQ,aR];rename_i xs;cases xs with
 | nil=>simp [eQ,aR]
 | cons y r=>cases y<;>simp [eQ,aR];rename_i t;cases e:(t==s)<;>simp
def lk (s:Str):List.lookup s [(Str.ofString "read",PyData.int 0),(Str.ofString "write",.int 1),(Str.ofString "add",.int 1),(Str.ofString "swap",.int 2)]=(nb s).map .int:=by
 unfold nb;simp only [List.lookup]
 repeat' split
 all_goals simp_all
def cK2 (a b:PyData) (r:List PyData):cut (a::b::r) (some 2) none=r:=by
 have e1:HT.sIx (a::b::r).length 0 (some 2)=2:=by simp [HT.sIx]
 have e2:HT.sIx (a::b::r).length (a::b::r).length none=r.length+2:=by simp [HT.sIx]
 rw [cut,e1,e2];simp
def cK3 (a:PyData) (r:List PyData):cut (a::r) (some 1) none=r:=by
 have e1:HT.sIx (a::r).length 0 (some 1)=1:=by simp [HT.sIx]
 have e2:HT.sIx (a::r).length (a::r).length none=r.length+1:=by simp [HT.sIx]
 rw [cut,e1,e2];simp
@[simp] theorem kN (hx:nD x=true):aD T (d+4) "is_single" [.d x] h=some (.bool (bX x),h):=by
 simp [sX,pE,nC,dA,lk,hx];rcases tp x with ⟨xs,rfl⟩ | hn
 rotate_left
 ·simp [hn]
 cases xs with
 | nil=>simp [eQ,bX]
 | cons y r =>
  cases y<;>simp [eQ,bX];rename_i t;cases e:nb t with
  | none=>simp
  | some n =>
   have hn:0<=n:=by
    unfold nb at e
    repeat' split at e
    all_goals simp at e
    all_goals omega
   by_cases hl:(r.length:Int)+1=2+n
   ·cases r with
    | nil=>simp at hl;omega
    | cons k vs =>
     have hk:nD k=true:=by simp at hx;exact hx.1
     have hv:vs.all nD=true:=by simp at hx ⊢;exact hx.2
     cases ek:jN k<;>simp_all [nC,cK2,dA,lk]
   ·simp [hl,e,lk]
def gC {x:PyData} {s:Str} (e:aR x s 2=true):∃ a,x=.tuple [.str s,a]:=by
 unfold aR at e;split at e
 ·rename_i t r;simp at e;obtain ⟨rfl,e⟩:=e
  match r,e with
  | [a],_=>exact ⟨a,rfl⟩
  | [],e=>simp at e
  | _::_::_,e=>simp at e;omega
 ·cases e
def aV1 {x:PyData} {s:Str} (e:aR x s 3=true):∃ a b,x=.tuple [.str s,a,b]:=by
 unfold aR at e;split at e
 ·rename_i t r;simp at e;obtain ⟨rfl,e⟩:=e
  match r,e with
  | [a,b],_=>exact ⟨a,b,rfl⟩
  | [],e=>simp at e
  | [_],e=>simp at e
  | _::_::_::_,e=>simp at e;omega
 ·cases e
def aV2 {x:PyData} (e:aR x "span" 3=false):fQ x=false:=by
 unfold fQ;split
 ·simp [aR] at e;simp [e]
 ·rfl
def aV3 {x:PyData} (e:aR x "deal" 2=false):gV x=false:=by
 unfold gV;split
 ·simp [aR] at e;simp [e]
 ·rfl
def aV4 {x:PyData} (e:aR x "look" 2=false):kE x=false:=by
 unfold kE;split
 ·simp [aR] at e;simp [e]
 ·rfl
def bK2 {x:PyData} (e:aR x "lay" 2=false):pA x=false:=by
 unfold pA;split
 ·simp [aR] at e;simp [e]
 ·rfl
@[simp] theorem aA2 (hx:nD x=true):aD T (d+3) "is_span" [.d x] h=some (.bool (fQ x),h):=by
 simp [zW,iA,dA,hx];cases e:aR x (Str.ofString "span") 3
 ·simp [aV2 e]
 ·obtain ⟨a,b,rfl⟩:=aV1 e;have hab:nD a=true/\nD b=true:=by simpa using hx
  simp [cK3,dA,hab.1,hab.2];have wn:∀ {x},fP x=true->∃ i,x=.int i:=fun {x} h=>by cases x<;>first | exact ⟨_,rfl⟩ | cases h
  cases ha:fP a
  ·have:fQ (.tuple [.str (Str.ofString "span"),a,b])=false:=by cases a<;>first | rfl | cases ha
   simp [this]
  obtain ⟨i,rfl⟩:=wn ha;cases hb:fP b
  ·have:fQ (.tuple [.str (Str.ofString "span"),.int i,b])=false:=by cases b<;>first | rfl | cases hb
   simp [fP,this]
  obtain ⟨j,rfl⟩:=wn hb;simp [fP,fQ]
  by_cases h1:0<=i<;>by_cases h2:i < j<;>simp [h1,h2]
@[simp] theorem aA3 (hx:nD x=true):aD T (d+5) "is_deal" [.d x] h=some (.bool (gV x),h):=by
 simp [zX,iA,hx];cases e:aR x (Str.ofString "deal") 2
 ·simp [aV3 e]
 ·obtain ⟨a,rfl⟩:=gC e;have ha:nD a=true:=by simpa using hx
  rcases tp a with ⟨ps,rfl⟩ | hn
  rotate_left
  ·simp [hn,nD.nd ha]
  have hps:∀ y∈ps,nD y=true:=by simpa using ha
  simp [isi,fJ,gV]
  by_cases h1:(1:Int)<=ps.length
  ·by_cases h2:(ps.length:Int)<=4
   ·simp [h1,h2];rw [dI (fun x=>.bool (bX x)) 0 (fun _ _ _=>rfl)]
    ·have h3:1<=ps.length:=by omega
     have h4:ps.length<=4:=by omega
     simp [iD,h3,h4]
    ·intro y hy u;simp [kN,hps y hy]
   ·have h4:¬ ps.length<=4:=by omega
    simp [h1,h2,h4]
  ·have h4:¬ 1<=ps.length:=by omega
   simp [h1,h4]
@[simp] theorem pF (hx:nD x=true):aD T (d+6) "is_call" [.d x] h=some (.bool (eU x),h):=by
 simp [zY,kN,aA2,aA3,eU,hx];cases e1:bX x<;>cases e2:fQ x<;>cases e3:gV x<;>simp [e1,e2,e3,hx]
@[simp] theorem bN7 (hx:nD x=true):aD T (d+7) "is_look" [.d x] h=some (.bool (kE x),h):=by
 simp [zZ,iA,hx];cases e:aR x (Str.ofString "look") 2
 ·simp [aV4 e]
 ·obtain ⟨a,rfl⟩:=gC e;have ha:nD a=true:=by simpa using hx
  simp [pF,kE,ha]
@[simp] theorem aB3 (hx:nD x=true):aD T (d+4) "is_value_pair" [.d x] h=some (.bool (eV x),h):=by
 simp [kW,bS,hx];rcases tp x with ⟨xs,rfl⟩ | hn
 rotate_left
 ·simp [hn]
 simp [fB]
 match xs with
 | []=>simp [eV]
 | [a]=>simp [eV]
 | [a,b] =>
  have hab:nD a=true/\nD b=true:=by simpa using hx
  simp [nC,dS,eV,hab.1,hab.2];cases jN a<;>simp [dS,hab.2]
 | a::b::c::r =>
  have:¬ ((r.length:Int)+1+1+1=2):=by omega
  simp [eV,this]
def cL {n:Int} (h0:-5<=n) (h1:n<=100000):cU 0 n=true:=by
 unfold cU;simp;omega
def iG {ns:List Int} {i:Nat} (hi:i < ns.length):atI (ns.map PyData.int) (i:Int)=some (.int (ns.getD i 0)):=by
 unfold atI;rw [ix_nat (by simpa using hi)];simp [List.getD,hi]
def aV5 (n:Nat):rng 0 n=(List.range n).map fun (i:Nat)=>PyData.int (i:Int):=by
 unfold rng;simp
def bK3 {w:W} {ns:List Int} (hl:ns.length<=1000) (l1:∀ h,aY [w] h=some (.d (.int ns.length),h)) (ix:∀ (i:Int) h,xIx w (.d (.int i)) h=(atI (ns.map .int) i).map fun v=>(.d v,h)):aD T (d+1) "are_rising" [w] h=some (.bool (bW0 ns),h):=by
 simp [qV,l1];rw [if_pos (cL (by omega) (by omega))];simp only [bds];rw [dI (fun x=>.bool (decide (ns.getD (kU x).toNat 0 < ns.getD ((kU x).toNat+1) 0))) 0 (fun _ _ _=>rfl)]
 ·simp only [List.nil_append,bds,yE,all_map];rw [aV5,List.all_map,aT7];rfl
 ·intro y hy u;rw [aV5] at hy;obtain ⟨k,hk,rfl⟩:=List.mem_map.mp hy;have hk:=List.mem_range.mp hk;have e2:((k:Int)+1)=((k+1:Nat):Int):=rfl;simp [ix,iG (show k < ns.length by omega),kU];rw [e2,iG (by omega)];simp
noncomputable def pG:PyData->Bool
 | .tuple [_,.tuple ps]=>decide (ps.length<=1000)
 | _=>true
def aL3 (hs:pG x=true) (hx:nD x=true):aD T (d+5) "is_lay" [.d x] h=some (.bool (pA x),h):=by
 simp [aL1,hx];cases e:aR x (Str.ofString "lay") 2
 ·simp [bK2 e]
 ·obtain ⟨a,rfl⟩:=gC e;have ha:nD a=true:=by simpa using hx
  rcases tp a with ⟨ps,rfl⟩ | hn
  rotate_left
  ·simp [hn,nD.nd ha]
  have hps:∀ y∈ps,nD y=true:=by simpa using ha
  simp [isi,fJ,pA]
  replace hs:ps.length<=1000:=of_decide_eq_true hs
  by_cases hp:ps=[]
  ·subst hp;simp
  ·have hn:¬ ((ps.length:Int)=0):=by
    have:ps.length≠0:=fun z=>hp (List.length_eq_zero_iff.mp z);omega
   simp [hp];rw [dI (fun x=>.bool (eV x)) 0 (fun _ _ _=>rfl)]
   ·simp only [List.nil_append,bds,yE,all_map];generalize ea:ps.all eV=b;cases b
    ·simp
    ·simp;rw [dI (fun x=>.int (kU (oZ x))) 0 (fun _ _ _=>rfl)]
     ·have e3:(ps.map fun x=>PyData.int (kU (oZ x)))=(ps.map fun p=>kU (oZ p)).map PyData.int:=by simp
      simp only [List.nil_append,bds,e3];rw [bK3 _ _ (ns:=ps.map fun p=>kU (oZ p)) (by simpa using hs) (fun _=>by simp) fun _ _=>rfl];simp [hp]
     ·intro y hy u;have:=List.all_eq_true.mp ea y hy;unfold eV at this;split at this
      ·rename_i k v;simp [jN,dF] at this;cases k<;>simp at this;simp [oZ,kU]
      ·cases this
   ·intro y hy u;simp [hps y hy]
@[simp] theorem pH (hs:pG x=true) (hx:nD x=true):aD T (d+8) "is_step" [.d x] h=some (.bool (qT x),h):=by
 simp [aA0,qT,hx];cases e1:eU x<;>cases e2:kE x<;>simp [e1,e2,hx,aL3 _ _ _ hs hx]
end K46

namespace K46
open PySem PySem.Spec PyProof.Rows L2 DL CI SJ
variable (d:Nat) (t:PyData) (h:aA)
def aL4 {t:PyData} (e:aR t "got" 2=false):cO (.read 0) t=false:=by
 unfold cO;split
 ·split
  ·rename_i s v;cases es:(s==Str.ofString "got")
   ·simp
   ·simp at es;subst es;simp [aR] at e
  ·rfl
 all_goals rename_i e';cases e'
@[simp] theorem bK4 (o:One):nD o.dat=true:=by cases o<;>rfl
def pI (o:One) (ht:nD t=true):aD T (d+3) "is_own_answer" [.d o.dat,.d t] h=some (.bool (cO o t),h):=by
 cases o
 ·simp [bF,One.dat,PyData.eqv,cO,szl,ht];cases e:aR t (Str.ofString "got") 2
  ·simp;exact aL4 e
  ·obtain ⟨v,rfl⟩:=gC e;have hv:nD v=true:=by simpa using ht
   simp [hv]
 ·simp [bF,One.dat,PyData.eqv,cO,szl,ht]
 ·simp [bF,One.dat,PyData.eqv,cO,szl,ht];cases e:aR t (Str.ofString "got") 2
  ·simp;exact aL4 e
  ·obtain ⟨v,rfl⟩:=gC e;have hv:nD v=true:=by simpa using ht
   simp [hv]
 ·simp [bF,One.dat,PyData.eqv,cO,szl,ht];cases e:aR t (Str.ofString "yes") 1<;>simp [ht]
end K46

namespace K46
open PySem PySem.Spec PyProof.Rows L2 DL CI SJ
variable (d:Nat) (t:PyData) (h:aA)
def bK5 {t:PyData} {lo hi:Nat} (e:aR t "all" 2=false):bN (.span lo hi) t=false:=by
 unfold bN;split
 ·rename_i e';cases e'
 ·split
  ·rename_i s xs;cases es:(s==Str.ofString "all")
   ·simp
   ·simp at es;subst es;simp [aR] at e
  ·rfl
 ·rename_i e';cases e'
def aV6 {t:PyData} {cs:List One} (e:aR t "each" 2=false):bN (.deal cs) t=false:=by
 unfold bN;split
 ·rename_i e';cases e'
 ·rename_i e';cases e'
 ·split
  ·rename_i s xs;cases es:(s==Str.ofString "each")
   ·simp
   ·simp at es;subst es;simp [aR] at e
  ·rfl
def zps (cs:List One) (xs:List PyData):List (PyData×PyData):=(cs.zip xs).map fun p=>(.tuple [p.1.dat,p.2],.bool (cO p.1 p.2))
theorem aZ6:∀ (cs:List One) (xs:List PyData),jS (cs.map One.dat) xs=(zps cs xs).map (·.1)
 | [],_=>by simp [jS,zps]
 | _::_,[]=>by simp [jS,zps]
 | c::cs,x::xs=>by
  have:=aZ6 cs xs;unfold jS zps at this ⊢;simp at this ⊢;exact this
def bW2:∀ (cs:List One) (xs:List PyData),(zps cs xs).map (·.2)=((cs.zip xs).map fun p=>cO p.1 p.2).map PyData.bool:=fun cs xs=>by simp [zps]
theorem xX:∀ (cs:List One) (xs:List PyData),((cs.zip xs).map fun p=>cO p.1 p.2).all id=eI cs xs
 | [],_=>by simp [eI]
 | _::_,[]=>by simp [eI]
 | c::cs,x::xs=>by
  have:=xX cs xs;simp [eI] at this ⊢;rw [this]
theorem xY:∀ bs:List Bool,cZ (bs.map PyData.bool)=some bs
 | []=>rfl
 | b::r=>by simp [cZ,xY r]
@[simp] theorem rA (c:SJ.Call):nD c.dat=true:=by
 cases c with
 | one o=>exact bK4 o
 | span lo hi=>rfl
 | deal cs=>simp [Call.dat]
def vR (lo hi:Nat) (ht:nD t=true):aD T (d+4) "is_own_answer" [.d (Call.span lo hi).dat,.d t] h=some (.bool (bN (.span lo hi) t),h):=by
 simp [bF,Call.dat,PyData.eqv,szl,ht];cases e:aR t (Str.ofString "all") 2
 ·simp;exact bK5 e
 ·obtain ⟨v,rfl⟩:=gC e;have hv:nD v=true:=by simpa using ht
  rcases tp v with ⟨xs,rfl⟩ | hn
  rotate_left
  ·simp [hn,hv]
  have hxs:∀ y∈xs,nD y=true:=by simpa using hv
  have hxa:xs.all nD=true:=by simpa using hv
  simp [fB,bN,hv,hxs,hxa]
  by_cases hl:(xs.length:Int)=(hi:Int) - lo<;>simp [hl,hxs,hxa]
def vS (cs:List One) (ht:nD t=true):aD T (d+4) "is_own_answer" [.d (Call.deal cs).dat,.d t] h=some (.bool (bN (.deal cs) t),h):=by
 simp [bF,Call.dat,PyData.eqv,szl,ht];cases e:aR t (Str.ofString "each") 2
 ·simp;exact aV6 e
 ·obtain ⟨v,rfl⟩:=gC e;have hv:nD v=true:=by simpa using ht
  rcases tp v with ⟨xs,rfl⟩ | hn
  rotate_left
  ·simp [hn,hv]
  have hxs:∀ y∈xs,nD y=true:=by simpa using hv
  have hxa:xs.all nD=true:=by simpa using hv
  simp [fB,bN,hv,hxs,hxa]
  by_cases hl:(xs.length:Int)=cs.length
  ·have hl':xs.length=cs.length:=by omega
   simp [hl,hl'];rw [aZ6,mV (fun δ=>∃ a b,δ=[a,b]) _ _ _ ⟨_,_,rfl⟩]
   ·have hz:=xX cs xs;rw [bW2];generalize ((cs.zip xs).map fun p=>cO p.1 p.2)=L at hz ⊢;simp [xY,hz]
   ·intro p hp δ ⟨a,b,e⟩;subst e;obtain ⟨⟨o,x⟩,hm,rfl⟩:=List.mem_map.mp hp;have hx:nD x=true:=hxs x (List.of_mem_zip hm).2;refine ⟨[some (.d o.dat),some (.d x)],by simp [aP,cT],⟨_,_,rfl⟩,?_⟩;simp [pI,hx]
  ·have hl':¬ xs.length=cs.length:=by omega
   simp [hl,hl']
def vT (c:SJ.Call) (ht:nD t=true):aD T (d+4) "is_own_answer" [.d c.dat,.d t] h=some (.bool (bN c t),h):=by
 cases c with
 | one o=>exact pI (d+1) t h o ht
 | span lo hi=>exact vR d t h lo hi ht
 | deal cs=>exact vS d t h cs ht
end K46

namespace K46
open PySem PySem.Spec PyProof.Rows L2 DL CI SJ
variable (d:Nat) (t:PyData) (h:aA)
def nE {c:SJ.Call} (hc:c.ok):pG c.dat=true:=by
 cases c with
 | one o=>cases o<;>simp [Call.dat,One.dat,pG]
 | span lo hi=>simp [Call.dat,pG]
 | deal cs =>
  have:=hc.1;simp [Call.dat,pG];omega
def vU {c:SJ.Call} (hc:c.ok) (ht:nD t=true):aD T (d+9) "is_answer" [.d c.dat,.d t] h=some (.bool (aR t "refused" 1||bN c t),h):=by
 simp [sY,pH (d) c.dat h (nE hc) (rA c),ht,(fE hc).2.1,(fE hc).1];cases e:aR t (Str.ofString "refused") 1
 ·simp [vT (d+4),ht]
 ·simp [(fE hc).1]
end K46

namespace K46
open PySem PySem.Spec PyProof.Rows L2 DL CI SJ
structure Dd where
 hand:Nat
 beg:Nat
 call:SJ.Call
 fin:Option (Nat×Option SJ.Ans)
noncomputable def aL5:PyData:=.tuple [.str "refused"]
def anD:Option SJ.Ans->PyData
 | some a=>a.dat
 | none=>aL5
noncomputable def Dd.endD (x:Dd):PyData:=match x.fin with
 | some p=>.int p.1
 | none=>.none
def Dd.ansD (x:Dd):PyData:=match x.fin with
 | some p=>anD p.2
 | none=>.none
def Dd.dat (x:Dd):PyData:=.tuple [.int x.hand,.int x.beg,x.endD,x.call.dat,x.ansD]
structure Dd.ok (x:Dd):Prop where
 hand:x.hand<=5
 call:x.call.ok
 fin:∀ p,x.fin=some p->x.beg < p.1/\∀ a,p.2=some a->Ans.fits x.call a
noncomputable def Dd.tms (x:Dd):List Int:=(x.beg:Int)::(match x.fin with | some p=>[(p.1:Int)] | none=>[])
noncomputable def Dd.below (x:Dd) (n:Nat):Bool:=match x.fin with | some p=>decide (p.1 < n) | none=>false
variable (d:Nat) (h:aA)
def aV7 {c:SJ.Call} (hc:c.ok):aD T (d+6) "is_call" [.d c.dat] h=some (.bool true,h):=by
 rw [pF _ _ _ (rA c)];rw [(fE hc).1]
@[simp] theorem pJ (n:Nat):aD T (d+2) "is_time" [.d (.int n)] h=some (.bool true,h):=by
 have e:=dS d (.int n) h rfl;simp [aA1,e,fP]
def aL6 (a:SJ.Ans):nD a.dat=true:=by
 cases a with
 | one a=>cases a<;>rfl
 | all ns=>simp [Ans.dat]
 | each as =>
  simp [Ans.dat];intro a _;cases a<;>rfl
def aZ7 (a:Option SJ.Ans):nD (anD a)=true:=by
 cases a with
 | none=>rfl
 | some a=>exact aL6 a
def bW3 (x:Dd):nD x.dat=true:=by
 obtain ⟨hand,beg,call,fin⟩:=x;cases fin with
 | none=>simp [Dd.dat,Dd.endD,Dd.ansD]
 | some p=>simp [Dd.dat,Dd.endD,Dd.ansD,aZ7]
def aZ8 {c:SJ.Call} (hc:c.ok) {a:Option SJ.Ans} (hf:∀ b,a=some b->Ans.fits c b):aD T (d+9) "is_answer" [.d c.dat,.d (anD a)] h=some (.bool true,h):=by
 rw [vU d (anD a) h hc (aZ7 a)];cases a with
 | none=>simp [anD,aL5,aR]
 | some a=>simp [anD,zV (hf a rfl) hc]
def aA4 (x:Dd) (hx:x.ok):aD T (d+10) "is_deed" [.d x.dat] h=some (.bool true,h):=by
 have hc:=aV7 (d+3) h hx.call;have hh:=hx.hand;have hn:=bW3 x;have e1:=bS (d+8) x.dat h 5 hn;have e2:=gB (d+7) (.int x.hand) h 0 5 rfl;have e3:=pJ (d+7) h x.beg;obtain ⟨hand,beg,call,fin⟩:=x;dsimp only at hh hc e2 e3;have hh':¬ (5:Int) < (hand:Int):=by omega
 cases fin with
 | none =>
  dsimp only [Dd.dat,Dd.endD,Dd.ansD] at e1 ⊢;simp [pC,e1,e2,e3,fB,dF,hc,hh,hh']
 | some p =>
  obtain ⟨h1,h3⟩:=hx.fin p rfl;have ha:=aZ8 d h hx.call h3;have e4:=pJ (d+7) h p.1;have isn:xIs (.d (.int (p.1:Int))) (.d .none)=some false:=rfl;obtain ⟨t,ht⟩:∃ t,t=anD p.2:=⟨_,rfl⟩;dsimp only [Dd.dat,Dd.endD,Dd.ansD] at e1 ha h1 ⊢;rw [<- ht] at ha e1 ⊢;simp [pC,e1,e2,e3,e4,fB,dF,hc,ha,hh,hh',h1]
def vV (x:Dd):aD T (d+1) "times_of" [.d x.dat] h=some (.list (x.tms.map .int),h):=by
 obtain ⟨hand,beg,call,fin⟩:=x;cases fin<;>simp [vO,Dd.dat,Dd.endD,Dd.ansD,Dd.tms,szl]
def iQ (x:Dd) (n:Nat):aD T (d+1) "ended_below" [.d x.dat,.d (.int n)] h=some (.bool (x.below n),h):=by
 obtain ⟨hand,beg,call,fin⟩:=x;cases fin<;>simp [nU,Dd.dat,Dd.endD,Dd.ansD,Dd.below]
end K46

namespace K46
open PySem PySem.Spec PyProof.Rows L2 DL CI SJ
variable (d:Nat) (h:aA)
structure Tog (x y:Dd):Prop where
 ne:∀ t,t∈x.tms->t∈y.tms->False
 hd:x.hand≠y.hand\/x.below y.beg=true\/y.below x.beg=true
theorem Tog.symm {x y:Dd} (t:Tog x y):Tog y x:=⟨fun z a b=>t.ne z b a,by
 rcases t.hd with h | h | h
 ·exact .inl fun e=>h e.symm
 ·exact .inr (.inr h)
 ·exact .inr (.inl h)⟩
theorem cmT {α:Type} {g:XG} {tt:XR Bool} {te:XR W} {all:List PyData} {h:aA} (F:α->PyData) (p:α->Bool) (f:α->PyData) (I:DSt->Prop):∀ (qs:List α) (δ:DSt) (ac:List PyData),I δ ->
  (∀ q∈qs,∀ δ,I δ->∃ δ',g (.d (F q)) δ h=some (δ',h)/\I δ'/\tt δ' h=some (p q,h)/\(p q=true->te δ' h=some (.d (f q),h)))->aG g tt te none all (qs.map F) δ h ac=some (ac++(qs.filter p).map f,h)
 | [],δ,ac,_,_=>by simp [aG]
 | q::r,δ,ac,i,hx=>by
  obtain ⟨δ',e1,i',e2,e3⟩:=hx q List.mem_cons_self δ i;have ih:=fun ac=>cmT (all:=all) F p f I r δ' ac i' fun y hy=>hx y (List.mem_cons_of_mem _ hy);rw [List.map_cons,aG,cJ,if_pos rfl,e1];simp only [CI.bs,e2];cases hp:p q with
  | true=>rw [if_pos rfl,e3 hp];simp only [CI.bs];rw [ih];simp [hp]
  | false=>rw [if_neg (by simp)];rw [ih];simp [hp]
def cmM {α:Type} {g:XG} {te:XR W} {all:List PyData} {h:aA} (F:α->PyData) (f:α->PyData) (I:DSt->Prop) (qs:List α) (δ:DSt) (i:I δ)
  (hx:∀ q∈qs,∀ δ,I δ->∃ δ',g (.d (F q)) δ h=some (δ',h)/\I δ'/\te δ' h=some (.d (f q),h)):aG g (aC true) te none all (qs.map F) δ h []=some (qs.map f,h):=by
 rw [cmT F (fun _=>true) f I qs δ [] i fun q m δ i=>?_]
 ·rw [List.filter_eq_self.mpr (fun _ _=>rfl),List.nil_append]
 ·obtain ⟨δ',a,b,c⟩:=hx q m δ i;exact ⟨δ',a,b,rfl,fun _=>c⟩
theorem iH {α:Type} (b:Bool):∀ xs:List α,cZ (xs.map fun _=>PyData.bool b)=some (xs.map fun _=>b)
 | []=>rfl
 | x::r=>by rw [List.map_cons,cZ,iH b r];rfl
def bW4 {α:Type} (xs:List α) (h:aA):rQ [.d (.list (xs.map fun _=>PyData.bool false))] h=some (.d (.bool false),h):=by
 have:rQ [.d (.list (xs.map fun _=>PyData.bool false))] h=(cZ (xs.map fun _=>PyData.bool false)).map fun bs=>(.d (.bool (bs.any id)),h):=rfl;rw [this,iH];simp
theorem lF:∀ (ns:List Int) (n:Nat),plainsB n (ns.map .int)=true
 | [],n=>by simp
 | a::r,n=>by simp [lF r]
def aV8 (ns:List Int) (n:Int) (h:aA):xIn (.d (.int n)) (.d (.list (ns.map .int))) h=some (decide (n∈ns)):=by
 have:xIn (.d (.int n)) (.d (.list (ns.map .int))) h=if (aJ 64 (.list (ns.map .int))&&aJ 64 (.int n))=true then some ((ns.map PyData.int).any fun z=>PyData.eqv z (.int n)) else none:=rfl
 rw [this];simp only [aT8,lF,bJ6,Bool.and_self,if_true]
 congr 1
 clear this;induction ns with
 | nil=>rfl
 | cons a r ih =>
  rw [List.map_cons,List.any_cons,ih];simp [PyData.eqv]
  by_cases e:a=n
  ·simp [e]
  ·simp [e,Ne.symm e]
def oB {x y:Dd} (t:Tog x y):aD T (d+3) "go_together" [.d x.dat,.d y.dat] h=some (.bool true,h):=by
 have t1:=fun x=>vV (d+1) h x;have b1:=fun n=>iQ (d+1) h x n;have b2:=fun n=>iQ (d+1) h y n;have y0:∀ k,xIx (.d y.dat) (.d (.int 0)) k=some (.d (.int y.hand),k):=fun k=>by simp [Dd.dat]
 have x0:∀ k,xIx (.d x.dat) (.d (.int 0)) k=some (.d (.int x.hand),k):=fun k=>by simp [Dd.dat]
 have y1:∀ k,xIx (.d y.dat) (.d (.int 1)) k=some (.d (.int y.beg),k):=fun k=>by simp [Dd.dat]
 have x1:∀ k,xIx (.d x.dat) (.d (.int 1)) k=some (.d (.int x.beg),k):=fun k=>by simp [Dd.dat]
 obtain ⟨dx,hdx⟩:∃ v,v=x.dat:=⟨_,rfl⟩;obtain ⟨dy,hdy⟩:∃ v,v=y.dat:=⟨_,rfl⟩;have tx:=t1 x;have ty:=t1 y;rw [<- hdx] at x0 x1 b1 tx ⊢;rw [<- hdy] at y0 y1 b2 ty ⊢;simp [nV,tx];rw [cmM PyData.int (fun _=>.bool false) (fun δ=>∃ u,δ=[u,some (.d dy)]) _ _ ⟨_,rfl⟩ fun t' hm δ hδ=>?_]
 ·simp only [bds,bW4];have hh:=t.hd
  by_cases e:x.hand=y.hand
  ·cases e1:x.below y.beg
   ·have e2:y.below x.beg=true:=by
     rcases hh with h | h | h
     ·exact absurd e h
     ·rw [e1] at h;cases h
     ·exact h
    simp [x0,y0,x1,y1,e,b1,b2,e1,e2]
   ·simp [x0,y0,x1,y1,e,b1,b2,e1]
  ·have e':¬ ((x.hand:Int)=y.hand):=by omega
   simp [x0,y0,e']
 ·obtain ⟨u,rfl⟩:=hδ;refine ⟨_,rfl,⟨_,rfl⟩,?_⟩;have:t'∉y.tms:=fun z=>t.ne t' hm z;simp [ty,aV8,this]
end K46

namespace K46
open PySem PySem.Spec PyProof.Rows L2 DL CI SJ
noncomputable def clS (S:List Int) (k:Nat):Int:=S.getD k 0
def aL7 (d:Nat) (h:aA) (S:List Int) (k:Nat):aD T (d+1) "_law_cell_at" [.d (.list (S.map .int)),.d (.int k)] h=some (.int (clS S k),h):=by
 by_cases c:k < S.length
 ·have e:=iG c;simp [hW,c,e,clS]
 ·simp [hW,c,clS]
noncomputable def dwF (a k:Int):Int :=
 let g:=a / 2^(1+24*(k%120)).toNat
 if a%2=1/\0 < g then g%16777216 else
 let x:=(a / 2%2147483647+7919*k+1)*48271%2147483647
 let y:=x*(x / 1009+69621)%2147483647
 y*(y / 2003+40692)%2147483399
def iI (d:Nat) (h:aA) (a k:Int):aD T (d+1) "_law_drawn" [.d (.int a),.d (.int k)] h=some (.int (dwF a k),h):=by
 have e1:cG 1009=true:=by decide
 have e2:cG 2003=true:=by decide
 have e3:cG 2=true:=by decide
 have e4:lR 2 24=true:=by decide
 have h0:=iE (i:=7919) (by decide) (by decide) k;have h9:=iE (i:=24) (by decide) (by decide) (k%120);have h1:=aU0 (j:=48271) (by decide) (by decide) (a / 2%2147483647+7919*k+1);obtain ⟨x,hx⟩:∃ x,x=(a / 2%2147483647+7919*k+1)*48271%2147483647:=⟨_,rfl⟩;have h2:gE x (x / 1009+69621)=true:=iE (by omega) (by omega) _;obtain ⟨y,hy⟩:∃ y,y=x*(x / 1009+69621)%2147483647:=⟨_,rfl⟩;have h3:gE y (y / 2003+40692)=true:=iE (by rw [hy];have:=Int.emod_nonneg (x*(x / 1009+69621)) (b:=2147483647) (by decide);omega) (by rw [hy];have:=Int.emod_lt_of_pos (x*(x / 1009+69621)) (b:=2147483647) (by decide);omega) _;obtain ⟨g,hg⟩:∃ g,g=a / 2^(1+24*(k%120)).toNat:=⟨_,rfl⟩;have sh:∀ H,gN .RShift (.d (.int a)) (.d (.int (1+24*(k%120)))) H=some (.d (.int g),H):=fun H=>by
  have p0:(0:Int)<=1+24*(k%120):=by have:=Int.emod_nonneg k (b:=120) (by decide);omega
  rw [hg];exact (if_pos p0:(if (0:Int)<=(1+24*(k%120)) then some (W.d (.int (a / 2^(1+24*(k%120)).toNat)),H) else none)=_)
 have e:dwF a k=if a%2=1/\0 < g then g%16777216 else y*(y / 2003+40692)%2147483399:=by rw [hy,hx,hg];rfl
 rw [e]
 by_cases c1:a%2=1
 ·by_cases c2:0 < g
  ·simp [fZ,e3,e4,h9,sh,c1,c2]
  ·simp [fZ,e1,e2,e3,e4,h0,h9,h1,<- hx,h2,<- hy,h3,sh,c1,c2]
 ·simp [fZ,e1,e2,e3,e4,h0,h9,h1,<- hx,h2,<- hy,h3,sh,c1]
noncomputable def kyF (n:Int):Nat:=[0,0,1,2,7].getD (n / 8%5).toNat 0
noncomputable def vlF (n:Int):Int:=[0,1,2,-1,1000000000000000000000000000000].getD (n / 40%5).toNat 0
noncomputable def v3F (n:Int):Int:=[0,1,2].getD (n / 200%3).toNat 0
def plF (n:Int):One:=if n%8 < 3 then .read (kyF n) else if n%8 < 5 then .write (kyF n) (vlF n) else if n%8=5 then .add (kyF n) (vlF n) else .swap (kyF n) (v3F n) (vlF n)
def aL8 (n:Int):kyF n < 8:=by
 unfold kyF;have:(n / 8%5).toNat=0\/(n / 8%5).toNat=1\/(n / 8%5).toNat=2\/(n / 8%5).toNat=3\/(n / 8%5).toNat=4:=by omega
 rcases this with z | z | z | z | z<;>rw [z]<;>decide
def aZ9 (n:Int):(plF n).ok:=by
 unfold plF;split
 ·exact aL8 n
 split
 ·exact aL8 n
 split<;>exact aL8 n
def bW5 (n:Int):atI [PyData.int 0,.int 0,.int 1,.int 2,.int 7] (n / 8%5)=some (.int (kyF n)):=by
 unfold kyF;have:n / 8%5=0\/n / 8%5=1\/n / 8%5=2\/n / 8%5=3\/n / 8%5=4:=by omega
 rcases this with z | z | z | z | z<;>rw [z]<;>simp
def bW6 (n:Int):atI [PyData.int 0,.int 1,.int 2,.int (-1),.int 1000000000000000000000000000000] (n / 40%5)=some (.int (vlF n)):=by
 unfold vlF;have:n / 40%5=0\/n / 40%5=1\/n / 40%5=2\/n / 40%5=3\/n / 40%5=4:=by omega
 rcases this with z | z | z | z | z<;>rw [z]<;>simp
def bW7 (n:Int):atI [PyData.int 0,.int 1,.int 2] (n / 200%3)=some (.int (v3F n)):=by
 unfold v3F;have:n / 200%3=0\/n / 200%3=1\/n / 200%3=2:=by omega
 rcases this with z | z | z<;>rw [z]<;>simp
def aV9 (d:Nat) (h:aA) (n:Int):aD T (d+1) "_law_plain_call" [.d (.int n)] h=some ((plF n).dat,h):=by
 have e1:cG 8=true:=by decide
 have e2:cG 40=true:=by decide
 have e3:cG 200=true:=by decide
 have e4:lR 10 30=true:=by decide
 have k1:=bW5 n;have k2:=bW6 n;have k3:=bW7 n;unfold plF
 by_cases c1:n%8 < 3
 ·simp [bT,e1,e2,e3,e4,aN,k1,k2,k3,c1,One.dat,szl]
 by_cases c2:n%8 < 5
 ·simp [bT,e1,e2,e3,e4,aN,k1,k2,k3,c1,c2,One.dat,szl]
 by_cases c3:n%8=5
 ·simp [bT,e1,e2,e3,e4,aN,k1,k2,k3,c1,c2,c3,One.dat,szl]
 ·simp [bT,e1,e2,e3,e4,aN,k1,k2,k3,c1,c2,c3,One.dat,szl]
def clF (a k:Int):SJ.Call:=let n:=dwF a k
 if n%7=0 then .span (n / 7%3).toNat (n / 7%3+1+n / 21%(8 - n / 7%3)).toNat
 else if n%7=1 then .deal ((List.range (1+n / 7%4).toNat).map fun (j:Nat)=>plF (dwF a (k+30+j)))
 else .one (plF (n / 7))
def bA0 (a k:Int):(clF a k).ok:=by
 unfold clF;dsimp only;generalize dwF a k=n;split
 ·have h1:=Int.emod_nonneg (n / 21) (b:=8 - n / 7%3) (by omega);have h2:=Int.emod_lt_of_pos (n / 21) (b:=8 - n / 7%3) (by omega);exact ⟨by omega,by omega⟩
 split
 ·refine ⟨by simp;omega,by simp;omega,fun o ho=>?_⟩;obtain ⟨j,_,rfl⟩:=List.mem_map.mp ho;exact aZ9 _
 ·exact aZ9 _
def aL9 (d:Nat) (h:aA) (a k:Int):aD T (d+2) "_law_call" [.d (.int a),.d (.int k)] h=some ((clF a k).dat,h):=by
 have e1:cG 7=true:=by decide
 have e2:cG 21=true:=by decide
 have dw:=fun k=>iI d h a k;have pl:=fun n=>aV9 d h n;rw [show d+2=(d+1)+1 from rfl];unfold clF;obtain ⟨n,hn⟩:∃ n,n=dwF a k:=⟨_,rfl⟩;rw [<- hn];have dw0:=dw k;rw [<- hn] at dw0;dsimp only
 by_cases c1:n%7=0
 ·have h0:n / 7%3 < 8:=by omega
  have h1:=Int.emod_nonneg (n / 21) (b:=8 - n / 7%3) (by omega);have n1:((n / 7%3).toNat:Int)=n / 7%3:=by omega
  have n2:((n / 7%3+1+n / 21%(8 - n / 7%3)).toNat:Int)=n / 7%3+1+n / 21%(8 - n / 7%3):=by omega
  simp only [c1,if_true,Call.dat,n1,n2];simp [hX,dw0,e1,e2,c1,h0,szl]
 by_cases c2:n%7=1
 ·have er:cU 0 (1+n / 7%4)=true:=cL (by omega) (by omega);simp [hX,dw0,e1,c1,c2,er];rw [aK6 (fun x=>(plF (dwF a (k+30+kU x))).dat) (fun δ=>∃ u,δ=[u,some (.d (.int a)),some (.d (.int k))]) _ _ ⟨_,rfl⟩ ?_]
  ·have e:(rng 0 (1+n / 7%4).toNat).map (fun x=>(plF (dwF a (k+30+kU x))).dat)=((List.range (1+n / 7%4).toNat).map fun (j:Nat)=>plF (dwF a (k+30+j))).map One.dat:=by
    rw [aV5,List.map_map,List.map_map];rfl
   simp [e,Call.dat,szl]
  ·rintro x hx δ ⟨u,rfl⟩;obtain ⟨j,hj,rfl⟩:=aU2 hx;refine ⟨_,rfl,⟨_,rfl⟩,?_⟩;simp [dw,pl,kU]
 ·simp [hX,dw0,e1,c1,c2,pl,Call.dat]
end K46

namespace K46
open PySem PySem.Spec PyProof.Rows L2 DL CI SJ
def sd (st:List Int):One->An1×List Int
 | .read k=>(.got (st.getD k 0),st)
 | .write k v=>(.dn,st.set k v)
 | .add k v=>(.got (st.getD k 0+v),st.set k (st.getD k 0+v))
 | .swap k x y=>if st.getD k 0=x then (.yes,st.set k y) else (.no,st)
def vW (st:List Int) (o:One):(sd st o).2.length=st.length:=by
 cases o<;>simp only [sd]<;>first | rfl | exact List.length_set | (split<;>first | rfl | exact List.length_set)
def xZ (st:List Int) (o:One):An1.fits o (sd st o).1:=by
 cases o<;>simp only [sd]<;>first | trivial | (split<;>trivial)
def bA1 {st:List Int} {k:Nat} (hk:k < st.length):atI (st.map PyData.int) (k:Int)=some (.int (st.getD k 0)):=eH (by simp [hk])
theorem dU {H:aA} {j:Nat} {c:Cell} (e:H[j]?=some c):H.set j c=H:=by
 apply List.ext_getElem?;intro i
 by_cases h:j=i
 ·subst h;rw [List.getElem?_set_self (List.getElem?_eq_some_iff.mp e).1,e]
 ·rw [List.getElem?_set_ne h]
def tI {H:aA} {j:Nat} {xs:List PyData} {z:PyData}:aM H (.rt (.d z),H.set j (.l xs))=some (z,H.set j (.l xs)):=by
 rw [qS,if_pos (aK2 j xs (cY H)),List.take_of_length_le (by simp)]
def bW8 {H:aA} {j:Nat} {xs:List PyData} (e:H[j]?=some (.l xs)) {k:Nat} (hk:k < xs.length) (x:PyData) (δ:DSt):fL j (.int k) x δ H=some (δ,H.set j (.l (xs.set k x))):=by
 unfold fL;simp only [e];unfold ixN;rw [if_pos (by omega),if_pos (by omega)];rfl
def iR {H:aA} {j:Nat} {xs:List PyData} (e:H[j]?=some (.l xs)) (k:Int):xIx (.c j) (.d (.int k)) H=(atI xs k).map fun v=>(.d v,H):=by
 simp [xIx,ref,e]
def yA (d:Nat) {H:aA} {j:Nat} {st:List Int} (e:H[j]?=some (.l (st.map .int))) (hl:st.length=8) {o:One} (ho:o.ok):aD T (d+1) "_law_done_plainly" [.c j,.d o.dat] H=some ((sd st o).1.dat,H.set j (.l ((sd st o).2.map .int))):=by
 have ho:o.key < 8:=ho;have ix:∀ k:Nat,k < 8->xIx (.c j) (.d (.int k)) H=some (.d (.int (st.getD k 0)),H):=fun k hk=>by rw [iR e,bA1 (by omega)];rfl
 have ik:∀ k:Nat,k < 8->ixN 8 (k:Int)=some k:=fun k hk=>by unfold ixN;rw [if_pos (by omega),if_pos (by omega)];rfl
 have es:=fun (z:PyData) xs=>tI (H:=H) (j:=j) (xs:=xs) (z:=z);have eS:=fun (z:PyData)=>by have:=es z (st.map .int);rw [dU e] at this;exact this
 cases o with
 | read k =>
  have i1:=ix k ho;generalize ev:st.getD k 0=w at i1;simp only [sd,ev,An1.dat];simp [aX,One.dat,i1,szl,eS,dU e]
 | write k v =>
  have i1:=ix k ho;generalize ev:st.getD k 0=w at i1;simp only [sd,ev,An1.dat,List.map_set];simp [aX,One.dat,i1,szl,es,e,hl,ik k ho]
 | add k v =>
  have i1:=ix k ho;generalize ev:st.getD k 0=w at i1;simp only [sd,ev,An1.dat,List.map_set];simp [aX,One.dat,i1,szl,es,e,hl,ik k ho]
 | swap k x y =>
  have i1:=ix k ho;generalize ev:st.getD k 0=w at i1
  by_cases c:w=x
  ·simp only [sd,ev,c,if_true,An1.dat,List.map_set];simp [aX,One.dat,i1,szl,es,e,hl,ik k ho,c]
  ·simp only [sd,ev,c,if_false,An1.dat];simp [aX,One.dat,i1,szl,eS,dU e,c]
theorem cmS {α σ:Type} {g:XG} {te:XR W} {all:List PyData} (F:α->PyData) (out:σ->α->PyData) (nx:σ->α->σ) (R:σ->DSt->aA->Prop):∀ (qs:List α) (s:σ) (δ:DSt) (h:aA) (ac:List PyData),R s δ h ->
  (∀ q∈qs,∀ s δ h,R s δ h->∃ δ1 h1,g (.d (F q)) δ h=some (δ1,h1)/\∃ h2,te δ1 h1=some (.d (out s q),h2)/\R (nx s q) δ1 h2) ->
  ∃ δ' h',aG g (aC true) te none all (qs.map F) δ h ac=some (ac++(qs.foldl (fun p q=>(p.1++[out p.2 q],nx p.2 q)) ([],s)).1,h')/\R (qs.foldl nx s) δ' h'
 | [],s,δ,h,ac,i,_=>⟨δ,h,by simp [aG],i⟩
 | q::r,s,δ,h,ac,i,hx=>by
  obtain ⟨δ1,h1,e1,h2,e2,i2⟩:=hx q List.mem_cons_self s δ h i;obtain ⟨δ',h',e3,i3⟩:=cmS (all:=all) F out nx R r (nx s q) δ1 h2 (ac++[out s q]) i2 fun y hy=>hx y (List.mem_cons_of_mem _ hy);refine ⟨δ',h',?_,i3⟩;rw [List.map_cons,aG,cJ,if_pos rfl,e1];simp only [CI.bs,sQ,if_true,e2,e3,List.foldl_cons,List.nil_append]
  congr 2
  have gen:∀ (r:List α) (l:List PyData) (s:σ),(r.foldl (fun p q=>(p.1++[out p.2 q],nx p.2 q)) (l,s)).1=l++(r.foldl (fun p q=>(p.1++[out p.2 q],nx p.2 q)) ([],s)).1:=by
   intro r;induction r with
   | nil=>intro l s;simp
   | cons a r ih=>intro l s;rw [List.foldl_cons,ih,List.foldl_cons,ih ([]++_)];simp
  rw [gen r [out s q],List.append_assoc]
def dr (st:List Int):List One->List An1×List Int
 | []=>([],st)
 | o::r=>((sd st o).1::(dr (sd st o).2 r).1,(dr (sd st o).2 r).2)
theorem aM0:∀ (cs:List One) (st:List Int),(dr st cs).2.length=st.length
 | [],st=>rfl
 | o::r,st=>by rw [dr,aM0 r,vW]
theorem aM1:∀ (cs:List One) (st:List Int),Fit2 cs (dr st cs).1
 | [],st=>.nil
 | o::r,st=>.cons (xZ st o) (aM1 r _)
theorem yB:∀ (cs:List One) (st:List Int),cs.foldl (fun s o=>(sd s o).2) st=(dr st cs).2
 | [],st=>rfl
 | o::r,st=>by rw [List.foldl_cons,yB r];rfl
theorem aM2:∀ (cs:List One) (st:List Int) (l:List PyData),(cs.foldl (fun p o=>(p.1++[(sd p.2 o).1.dat],(sd p.2 o).2)) (l,st)).1=l++(dr st cs).1.map An1.dat
 | [],st,l=>by simp [dr]
 | o::r,st,l=>by rw [List.foldl_cons,aM2 r];simp [dr]
def bK6 (xs:List PyData) {i j:Nat} (hi:i<=j) (hj:j<=xs.length):cut xs (some (i:Int)) (some (j:Int))=(xs.drop i).take (j - i):=by
 have e1:HT.sIx xs.length 0 (some (i:Int))=i:=by
  unfold HT.sIx;simp only [];rw [if_neg (by omega)];omega
 have e2:HT.sIx xs.length xs.length (some (j:Int))=j:=by
  unfold HT.sIx;simp only [];rw [if_neg (by omega)];omega
 rw [cut,e1,e2]
def dnC (st:List Int):SJ.Call->SJ.Ans×List Int
 | .one o=>(.one (sd st o).1,(sd st o).2)
 | .span lo hi=>(.all ((st.drop lo).take (hi - lo)),st)
 | .deal cs=>(.each (dr st cs).1,(dr st cs).2)
def yC {c:SJ.Call} {st:List Int} (hl:st.length=8):(dnC st c).2.length=8:=by
 cases c with
 | one o=>rw [<- hl];exact vW st o
 | span lo hi=>exact hl
 | deal cs=>rw [<- hl];exact aM0 cs st
def tJ {c:SJ.Call} (hc:c.ok) {st:List Int} (hl:st.length=8):Ans.fits c (dnC st c).1:=by
 cases c with
 | one o=>exact xZ st o
 | span lo hi =>
  have h1:=hc.1;have h2:=hc.2;show ((st.drop lo).take (hi - lo)).length=hi - lo;simp;omega
 | deal cs=>exact aM1 cs st
def aM3 (d:Nat) {H:aA} {j:Nat} {st:List Int} (e:H[j]?=some (.l (st.map .int))) (hl:st.length=8) {c:SJ.Call} (hc:c.ok):aD T (d+2) "_law_done" [.c j,.d c.dat] H=some ((dnC st c).1.dat,H.set j (.l ((dnC st c).2.map .int))):=by
 have es:=fun (z:PyData) xs=>tI (H:=H) (j:=j) (xs:=xs) (z:=z);have eS:=fun (z:PyData)=>by have:=es z (st.map .int);rw [dU e] at this;exact this
 have hj:j < H.length:=(List.getElem?_eq_some_iff.mp e).1;rw [show d+2=(d+1)+1 from rfl];cases c with
 | one o =>
  have e1:=yA d e hl (o:=o) hc;simp only [dnC,Ans.dat];generalize (sd st o).1.dat=z at *;generalize ((sd st o).2.map PyData.int)=w at *;cases o<;>simp only [Call.dat,One.dat] at e1 ⊢<;>simp [hZ,e1,es]
 | span lo hi =>
  have h1:=hc.1;have h2:=hc.2;have cn:=bK6 (st.map PyData.int) (i:=lo) (j:=hi) (Nat.le_of_lt h1) (by simp;omega);rw [<- List.map_drop,<- List.map_take] at cn;simp only [dnC,Ans.dat];simp [hZ,Call.dat,szl,xSl,ref,e,cn,aZ,eS,dU e]
 | deal cs =>
  obtain ⟨δ',h',e1,hR⟩:=cmS (g:=YG 0) (te:=xb (Y2 (aB 1) (aB 0)) (YF (d+1) "_law_done_plainly")) (all:=cs.map One.dat) One.dat (fun s o=>(sd s o).1.dat) (fun s o=>(sd s o).2)
   (fun s δ h'=>s.length=8/\h'=H.set j (.l (s.map .int))/\∃ u,δ=[u,some (.c j)]) cs st [none,some (.c j)] H [] ⟨hl,by rw [dU e],_,rfl⟩ (by
    rintro o ho s δ h' ⟨hs,rfl,u,rfl⟩;have e2:(H.set j (.l (s.map PyData.int)))[j]?=some (.l (s.map .int)):=List.getElem?_set_self hj;have e3:=yA d e2 hs (hc.2.2 o ho);rw [List.set_set] at e3;refine ⟨_,_,rfl,_,?_,by rw [vW];exact hs,rfl,_,rfl⟩;simp [e3])
  obtain ⟨_,rfl,_⟩:=hR;rw [aM2,yB] at e1;simp only [List.nil_append,dR] at e1;simp only [dnC,Ans.dat];simp only [fF,cK0] at e1;have hn:=hc.1;simp at e1;simp [hZ,Call.dat,szl,e1,es]
end K46

namespace K46
open PySem PySem.Spec PyProof.Rows L2 DL CI SJ
def bn1 (r:Int):An1->An1
 | .got v=>.got (v+1 - r%3)
 | .yes=>if r%2=0 then .yes else .no
 | .no=>if r%2=0 then .yes else .no
 | .dn=>.dn
def tK {r:Int} {o:One} {a:An1} (hf:An1.fits o a):An1.fits o (bn1 r a):=by
 cases o<;>cases a<;>simp [An1.fits] at hf<;>simp only [bn1]<;>first | trivial | (split<;>trivial)
def yD (d:Nat) (h:aA) (a:An1) (r:Int):aD T (d+1) "_law_bent" [.d a.dat,.d (.int r)] h=some ((bn1 r a).dat,h):=by
 have e2:cG 2=true:=by decide
 have yn:atI [PyData.str (Str.ofString "yes"),.str (Str.ofString "no")] (r%2)=some (.str (Str.ofString (if r%2=0 then "yes" else "no"))):=by
  have:r%2=0\/r%2=1:=by omega
  rcases this with z | z<;>rw [z]<;>simp
 cases a with
 | got v=>simp [cK,An1.dat,bn1,szl]
 | dn=>simp [cK,An1.dat,bn1,szl,aN,xIn,ref,PyData.eqv]
 | yes=>by_cases c:r%2=0<;>simp [c] at yn<;>simp [cK,An1.dat,bn1,szl,aN,xIn,ref,PyData.eqv,yn,c]
 | no=>by_cases c:r%2=0<;>simp [c] at yn<;>simp [cK,An1.dat,bn1,szl,aN,xIn,ref,PyData.eqv,yn,c]
def vX (xs:List PyData) {m:Nat} (hm:m<=xs.length):cut xs none (some (m:Int))=xs.take m:=by
 have e1:HT.sIx xs.length 0 none=0:=by simp [HT.sIx]
 have e2:HT.sIx xs.length xs.length (some (m:Int))=m:=by
  unfold HT.sIx;simp only [];rw [if_neg (by omega)];omega
 rw [cut,e1,e2];simp
def aM4 (xs:List PyData) {m:Nat} (hm:m<=xs.length):cut xs (some (m:Int)) none=xs.drop m:=by
 have e1:HT.sIx xs.length 0 (some (m:Int))=m:=by
  unfold HT.sIx;simp only [];rw [if_neg (by omega)];omega
 have e2:HT.sIx xs.length xs.length none=xs.length:=by simp [HT.sIx]
 rw [cut,e1,e2];rw [List.take_of_length_le];simp
theorem yF:∀ {os:List One} {as:List An1},Fit2 os as->∀ {k:Nat} (r:Int),k < as.length->∀ {a:An1},as[k]?=some a->Fit2 os (as.take k++bn1 r a::as.drop (k+1))
 | _,_,.cons f t,0,r,_,a,e=>by
  simp at e;subst e;exact .cons (tK f) t
 | _,_,.cons f t,k+1,r,hk,a,e=>by
  simp at e hk;exact .cons f (yF t r hk e)
def aM5 (d:Nat) (h:aA) {c:SJ.Call} (hc:c.ok) {a:SJ.Ans} (hf:Ans.fits c a) (r:Int):∃ b,Ans.fits c b/\aD T (d+2) "_law_bent" [.d a.dat,.d (.int r)] h=some (b.dat,h):=by
 have e3:cG 3=true:=by decide
 have e12:cG 12=true:=by decide
 cases a with
 | one a =>
  refine ⟨.one (bn1 r a),?_,yD (d+1) h a r⟩;cases c<;>first | exact tK hf | exact hf
 | all ns =>
  cases c with
  | one o=>exact hf.elim
  | deal cs=>exact hf.elim
  | span lo hi =>
  have hn:ns.length=hi - lo:=hf;have h1:=hc.1;have h2:=hc.2;obtain ⟨k,hk,ek⟩:∃ k:Nat,k < ns.length/\r / 3%(ns.length:Int)=k:=by
   have a1:=Int.emod_nonneg (r / 3) (b:=(ns.length:Int)) (by omega);have a2:=Int.emod_lt_of_pos (r / 3) (b:=(ns.length:Int)) (by omega);exact ⟨(r / 3%(ns.length:Int)).toNat,by omega,by omega⟩
  have p0:0 < ns.length:=by omega
  have c1:=vX (ns.map PyData.int) (m:=k) (by simp;omega);have c2:=aM4 (ns.map PyData.int) (m:=k+1) (by simp;omega);have c2':cut (ns.map PyData.int) (some ((k:Int)+1)) none=(ns.map PyData.int).drop (k+1):=c2;have at1:=bA1 hk;have l1:k+1<=16777216:=by omega
  have l2:k+1+(ns.length - (k+1))<=16777216:=by omega
  refine ⟨.all (ns.take k++(ns.getD k 0+1 - r%3)::ns.drop (k+1)),?_,?_⟩
  ·show (ns.take k++(ns.getD k 0+1 - r%3)::ns.drop (k+1)).length=hi - lo;simp;omega
  ·generalize ns.getD k 0=v at *;have mk:min k ns.length=k:=by omega
   have l3:k<=16777215:=by omega
   simp [cK,Ans.dat,szl,aN,xIn,ref,PyData.eqv,e3,p0,ek,c1,c2',at1,mk,l1,l2,l3]
 | each as =>
  cases c with
  | one o=>exact hf.elim
  | span lo hi=>exact hf.elim
  | deal cs =>
  have hf':Fit2 cs as:=hf;have hn:=hf'.length;have h1:=hc.1;have h2:=hc.2.1;obtain ⟨k,hk,ek⟩:∃ k:Nat,k < as.length/\r / 3%(as.length:Int)=k:=by
   have a1:=Int.emod_nonneg (r / 3) (b:=(as.length:Int)) (by omega);have a2:=Int.emod_lt_of_pos (r / 3) (b:=(as.length:Int)) (by omega);exact ⟨(r / 3%(as.length:Int)).toNat,by omega,by omega⟩
  have p0:0 < as.length:=by omega
  have c1:=vX (as.map An1.dat) (m:=k) (by simp;omega);have c2:=aM4 (as.map An1.dat) (m:=k+1) (by simp;omega);have c2':cut (as.map An1.dat) (some ((k:Int)+1)) none=(as.map An1.dat).drop (k+1):=c2;obtain ⟨a,ea⟩:∃ a,as[k]?=some a:=⟨as[k],by simp [hk]⟩;have at1:atI (as.map An1.dat) (k:Int)=some a.dat:=eH (by simp [ea]);have l1:k+1<=16777216:=by omega
  have l2:k+1+(as.length - (k+1))<=16777216:=by omega
  have bt:=fun r=>yD d h a r;refine ⟨.each (as.take k++bn1 (r / 12) a::as.drop (k+1)),yF hf' _ hk ea,?_⟩;rw [show d+2=(d+1)+1 from rfl];have mk:min k as.length=k:=by omega
  have l3:k<=16777215:=by omega
  simp [cK,Ans.dat,szl,aN,xIn,ref,PyData.eqv,e3,e12,p0,ek,c1,c2',at1,mk,l1,l2,l3,bt]
end K46

namespace K46
open PySem PySem.Spec PyProof.Rows L2 DL CI SJ
section
variable {x:Option (Fl×aA)} {k:DSt->Fl×aA->Option (Fl×aA)} (δ:DSt) (h:aA) (e:x=some (.nx δ,h))
include e
def sy {R:Option (Fl×aA)} (kk:k δ (.nx δ,h)=R):YP x (YQ k)=R:=by
 rw [e];exact kk
def sys {P:DSt->aA->Prop} (kk:∃ δ2 h2,k δ (.nx δ,h)=some (.nx δ2,h2)/\P δ2 h2):∃ δ2 h2,YP x (YQ k)=some (.nx δ2,h2)/\P δ2 h2:=by
 rw [e];exact kk
def syP {Q:Option (Fl×aA)->Prop} (kk:Q (k δ (.nx δ,h))):Q (YP x (YQ k)):=by
 rw [e];exact kk
end
theorem sq {α β:Type} {x:Option α} {f:α->Option β} {R:Option β} (a:α) (e:x=some a) (k:f a=R):x.bind f=R:=by
 rw [e];exact k
theorem yG {α:Type} {x:Option α} {f:α->Option (Fl×aA)} {P:DSt->aA->Prop} (a:α) (e:x=some a) (k:∃ δ2 h2,f a=some (.nx δ2,h2)/\P δ2 h2):∃ δ2 h2,x.bind f=some (.nx δ2,h2)/\P δ2 h2:=by
 rw [e];exact k
def syE {Q:Option (Fl×aA)->Prop} {x:Option (Fl×aA)} {k:DSt->Fl×aA->Option (Fl×aA)} (J:DSt->aA->Prop) (e:∃ δ h,x=some (.nx δ,h)/\J δ h) (kk:∀ δ h,J δ h->Q (k δ (.nx δ,h))):Q (YP x (YQ k)):=by
 obtain ⟨δ,h,e,j⟩:=e;rw [e];exact kk δ h j
def syR {Q:Option (Fl×aA)->Prop} {x:Option (Fl×aA)} {k:DSt->Fl×aA->Option (Fl×aA)} (w:W) (h:aA) (e:x=some (.rt w,h)) (kk:Q (some (.rt w,h))):Q (YP x (YQ k)):=by
 rw [e];exact kk
def aM6 {H:aA} {j:Nat} {rs:List W} (e:wsC j H=some rs) {q:Nat} {w:W} (hq:rs[q]?=some w):xIx (.c j) (.d (.int q)) H=some (w,H):=by
 have hl:q < rs.length:=(List.getElem?_eq_some_iff.mp hq).1;unfold wsC at e;split at e
 ·rename_i xs ej;injection e with e
  subst e;rw [List.getElem?_map] at hq;cases ex:xs[q]? with
  | none=>rw [ex] at hq;cases hq
  | some y =>
   rw [ex] at hq;injection hq with hq
   subst hq;rw [iR ej,eH ex];rfl
 ·rename_i ws ej;injection e with e
  subst e;have:ref H (.c j)=none:=by simp [ref,ej]
  simp only [xIx,this,xIr,ej,eH hq,Option.map_some]
 ·cases e
def aW0 {H:aA} {j:Nat} {rs:List W} (e:wsC j H=some rs) {q:Nat} (hq:q < rs.length) (x:PyData) (δ:DSt):∃ c,fL j (.int q) x δ H=some (δ,H.set j c)/\∀ G:aA,G[j]?=some c->wsC j G=some (rs.set q (.d x)):=by
 unfold wsC at e;have ik:∀ n,q < n->ixN n (q:Int)=some q:=fun n h=>by unfold ixN;rw [if_pos (by omega),if_pos (by omega)];rfl
 split at e
 ·rename_i xs ej;injection e with e
  subst e;refine ⟨.l (xs.set q x),?_,fun G eG=>?_⟩
  ·simp only [fL,ej,ik _ (by simpa using hq),Option.map_some]
  ·simp only [wsC,eG,List.map_set]
 ·rename_i ws ej;injection e with e
  subst e;refine ⟨.r (ws.set q (.d x)),?_,fun G eG=>?_⟩
  ·simp only [fL,ej,ik _ hq,Option.map_some]
  ·simp only [wsC,eG]
 ·cases e
def aW1 {H:aA} {j:Nat} {rs:List W} (e:wsC j H=some rs) {q:Nat} (hq:q < rs.length) (i:Nat) (δ:DSt):∃ c,jD j (.int q) i δ H=some (δ,H.set j c)/\∀ G:aA,G[j]?=some c->wsC j G=some (rs.set q (.c i)):=by
 unfold wsC at e;have ik:∀ n,q < n->ixN n (q:Int)=some q:=fun n h=>by unfold ixN;rw [if_pos (by omega),if_pos (by omega)];rfl
 split at e
 ·rename_i xs ej;injection e with e
  subst e;refine ⟨.r ((xs.map .d).set q (.c i)),?_,fun G eG=>?_⟩
  ·simp only [jD,ej,ik _ (by simpa using hq),Option.map_some]
  ·simp only [wsC,eG]
 ·rename_i ws ej;injection e with e
  subst e;refine ⟨.r (ws.set q (.c i)),?_,fun G eG=>?_⟩
  ·simp only [jD,ej,ik _ hq,Option.map_some]
  ·simp only [wsC,eG]
 ·cases e
structure Rw where
 b:Nat
 c:SJ.Call
 t:Option SJ.Ans
def tD:Option SJ.Ans->PyData
 | some a=>a.dat
 | none=>.none
def Rw.dat (w:Rw):List PyData:=[.int w.b,w.c.dat,tD w.t]
noncomputable def rwW:Option (Nat×Rw)->W
 | none=>.d .none
 | some p=>.c p.1
structure Hs (n:Nat) (st:List Int) (rs:List (Option (Nat×Rw))) (ds:List Dd) (H:aA):Prop where
 sl:st.length=8
 s:H[n]?=some (.l (st.map .int))
 r:wsC (n+1) H=some (rs.map rwW)
 d:H[n+2]?=some (.l (ds.map Dd.dat))
 own:∀ (q i:Nat) (w:Rw),rs[q]?=some (some (i,w))->n+3<=i/\H[i]?=some (.l w.dat)
 inj:∀ (q q' i:Nat) (w w':Rw),rs[q]?=some (some (i,w))->rs[q']?=some (some (i,w'))->q=q'
def tL {H:aA} {j:Nat} {rs:List W} (e:wsC j H=some rs):j < H.length:=by
 unfold wsC at e;split at e
 ·rename_i xs ej;exact (List.getElem?_eq_some_iff.mp ej).1
 ·rename_i xs ej;exact (List.getElem?_eq_some_iff.mp ej).1
 ·cases e
def yH {H G:aA} {j:Nat} {rs:List W} (e:wsC j H=some rs) (k:G[j]?=H[j]?):wsC j G=some rs:=by
 rw [<- e];unfold wsC;rw [k]
variable {n:Nat} {st:List Int} {rs:List (Option (Nat×Rw))} {ds:List Dd} {H:aA}
def Hs.go (S:Hs n st rs ds H) {G:aA} (k:∀ i c,n<=i->H[i]?=some c->G[i]?=some c):Hs n st rs ds G:=by
 obtain ⟨h1,h2,h3,h4,h5,h6⟩:=S;refine ⟨h1,k _ _ (by omega) h2,yH h3 ?_,k _ _ (by omega) h4,fun q i w e=>⟨(h5 q i w e).1,k _ _ (by have:=(h5 q i w e).1;omega) (h5 q i w e).2⟩,h6⟩;have:=tL h3;rw [k (n+1) H[n+1] (by omega) (by simp [this])];simp [this]
def Hs.opn (S:Hs n st rs ds H) {q:Nat} (hq:q < rs.length) (w:Rw) {c:Cell} (hc:∀ G:aA,G[n+1]?=some c->wsC (n+1) G=some ((rs.map rwW).set q (.c H.length))):Hs n st (rs.set q (some (H.length,w))) ds ((H++[Cell.l w.dat]).set (n+1) c):=by
 obtain ⟨h1,h2,h3,h4,h5,h6⟩:=S;have hl:=tL h3;have hd:=(List.getElem?_eq_some_iff.mp h4).1;have oth:∀ i c',i≠n+1->H[i]?=some c'->((H++[Cell.l w.dat]).set (n+1) c)[i]?=some c':=fun i c' hi e=>by
  rw [List.getElem?_set_ne (fun z=>hi z.symm),List.getElem?_append_left (List.getElem?_eq_some_iff.mp e).1,e]
 refine ⟨h1,oth _ _ (by omega) h2,?_,oth _ _ (by omega) h4,fun q' i w' e=>?_,fun q1 q2 i w1 w2 e1 e2=>?_⟩
 ·rw [hc _ (by rw [List.getElem?_set_self (by simp;omega)]),List.map_set];rfl
 ·by_cases c1:q=q'
  ·subst c1;rw [List.getElem?_set_self hq] at e;injection e with e
   injection e with e
   injection e with e1 e2
   subst e1 e2;refine ⟨by omega,?_⟩;rw [List.getElem?_set_ne (by omega)];simp
  ·rw [List.getElem?_set_ne c1] at e;exact ⟨(h5 q' i w' e).1,oth _ _ (by have:=(h5 q' i w' e).1;omega) (h5 q' i w' e).2⟩
 ·have ol:∀ q' w',rs[q']?=some (some (H.length,w'))->False:=fun q' w' z=>by
   have:=(List.getElem?_eq_some_iff.mp (h5 _ _ _ z).2).1;omega
  by_cases c1:q=q1
  ·subst c1;rw [List.getElem?_set_self hq] at e1;injection e1 with e1
   injection e1 with e1
   injection e1 with e1 e1'
   subst e1
   by_cases c2:q=q2
   ·exact c2
   ·rw [List.getElem?_set_ne c2] at e2;exact (ol _ _ e2).elim
  ·rw [List.getElem?_set_ne c1] at e1
   by_cases c2:q=q2
   ·subst c2;rw [List.getElem?_set_self hq] at e2;injection e2 with e2
    injection e2 with e2
    injection e2 with e2 e2'
    subst e2;exact (ol _ _ e1).elim
   ·rw [List.getElem?_set_ne c2] at e2;exact h6 q1 q2 i w1 w2 e1 e2
def Hs.ans (S:Hs n st rs ds H) {q i:Nat} {w:Rw} (e:rs[q]?=some (some (i,w))) (t:Option SJ.Ans) {st':List Int} (hl:st'.length=8):Hs n st' (rs.set q (some (i,{ w with t:=t }))) ds ((H.set n (.l (st'.map .int))).set i (.l ({ w with t:=t }:Rw).dat)):=by
 obtain ⟨h1,h2,h3,h4,h5,h6⟩:=S;have hq:=(List.getElem?_eq_some_iff.mp e).1;have hn:=(List.getElem?_eq_some_iff.mp h2).1;obtain ⟨hi,hi'⟩:=h5 q i w e;have hil:=(List.getElem?_eq_some_iff.mp hi').1;have oth:∀ j c',j≠n->j≠i->H[j]?=some c'->((H.set n (.l (st'.map .int))).set i (.l ({ w with t:=t }:Rw).dat))[j]?=some c':=fun j c' z1 z2 e=>by
  rw [List.getElem?_set_ne (fun z=>z2 z.symm),List.getElem?_set_ne (fun z=>z1 z.symm),e]
 refine ⟨hl,?_,?_,oth _ _ (by omega) (by omega) h4,fun q' j w' e'=>?_,fun q1 q2 j w1 w2 e1 e2=>?_⟩
 ·rw [List.getElem?_set_ne (by omega),List.getElem?_set_self hn]
 ·rw [yH h3 (by rw [List.getElem?_set_ne (by omega),List.getElem?_set_ne (by omega)])]
  congr 1
  apply List.ext_getElem?;intro k;rw [List.getElem?_map,List.getElem?_map,List.getElem?_set];split
  ·rename_i z;subst z;simp [hq,rwW];have:=(List.getElem?_eq_some_iff.mp e).2;rw [this]
  ·rfl
 ·by_cases c1:q=q'
  ·subst c1;rw [List.getElem?_set_self hq] at e';injection e' with e'
   injection e' with e'
   injection e' with e1 e2
   subst e1 e2;exact ⟨hi,List.getElem?_set_self (by simpa using hil)⟩
  ·rw [List.getElem?_set_ne c1] at e';have ne:j≠i:=fun z=>by
    subst z;exact c1 (h6 q q' _ _ _ e e')
   exact ⟨(h5 q' j w' e').1,oth _ _ (by have:=(h5 q' j w' e').1;omega) ne (h5 q' j w' e').2⟩
 ·by_cases c1:q=q1
  ·subst c1;rw [List.getElem?_set_self hq] at e1;injection e1 with e1
   injection e1 with e1
   injection e1 with e1 e1'
   subst e1
   by_cases c2:q=q2
   ·exact c2
   ·rw [List.getElem?_set_ne c2] at e2;exact (h6 q q2 _ _ _ e e2)
  ·rw [List.getElem?_set_ne c1] at e1
   by_cases c2:q=q2
   ·subst c2;rw [List.getElem?_set_self hq] at e2;injection e2 with e2
    injection e2 with e2
    injection e2 with e2 e2'
    subst e2;exact (h6 q1 q _ _ _ e1 e)
   ·rw [List.getElem?_set_ne c2] at e2;exact h6 q1 q2 j w1 w2 e1 e2
def Hs.cls (S:Hs n st rs ds H) {q:Nat} {c:Cell} (hc:∀ G:aA,G[n+1]?=some c->wsC (n+1) G=some ((rs.map rwW).set q (.d .none))):Hs n st (rs.set q none) ds (H.set (n+1) c):=by
 obtain ⟨h1,h2,h3,h4,h5,h6⟩:=S;have hl:=tL h3;have oth:∀ i c',i≠n+1->H[i]?=some c'->(H.set (n+1) c)[i]?=some c':=fun i c' hi e=>by
  rw [List.getElem?_set_ne (fun z=>hi z.symm),e]
 have un:∀ q' i w,(rs.set q none)[q']?=some (some (i,w))->rs[q']?=some (some (i,w)):=fun q' i w z=>by
  rw [List.getElem?_set] at z;split at z
  ·split at z<;>cases z
  ·exact z
 refine ⟨h1,oth _ _ (by omega) h2,?_,oth _ _ (by omega) h4,fun q' i w' e=>?_,fun q1 q2 i w1 w2 e1 e2=>h6 q1 q2 i w1 w2 (un _ _ _ e1) (un _ _ _ e2)⟩
 ·rw [hc _ (by rw [List.getElem?_set_self (by omega)]),List.map_set];rfl
 ·have e:=un _ _ _ e;exact ⟨(h5 q' i w' e).1,oth _ _ (by have:=(h5 q' i w' e).1;omega) (h5 q' i w' e).2⟩
end K46

namespace K46
open PySem PySem.Spec PyProof.Rows L2 DL CI SJ
variable {n:Nat} {st:List Int} {rs:List (Option (Nat×Rw))} {ds:List Dd} {H:aA}
set_option genInjectivity true in
inductive Mvd (q k:Nat) (rs:List (Option (Nat×Rw))):PyData->List (Option (Nat×Rw))->Prop where
 | opn (i:Nat) (c:SJ.Call) (h:rs[q]?=some none) (hc:c.ok):Mvd q k rs .none (rs.set q (some (i,⟨k,c,none⟩)))
 | ans (i:Nat) (w:Rw) (a:SJ.Ans) (h:rs[q]?=some (some (i,w))) (ha:Ans.fits w.c a):Mvd q k rs .none (rs.set q (some (i,{ w with t:=some a })))
 | cls (i:Nat) (w:Rw) (a:Option SJ.Ans) (h:rs[q]?=some (some (i,w))) (ha:∀ b,a=some b->Ans.fits w.c b):Mvd q k rs (Dd.mk q w.b w.c (some (k,a))).dat (rs.set q none)
def bW9 (rs:List (Option (Nat×Rw))):Prop:=∀ (q i:Nat) (w:Rw),rs[q]?=some (some (i,w))->w.c.ok/\∀ a,w.t=some a->Ans.fits w.c a
def MQ (q k n:Nat) (ds:List Dd) (rs:List (Option (Nat×Rw))) (H:aA) (x:Option (Fl×aA)):Prop:=∃ v H' st' rs',x.bind iO=some (.d v,H')/\Hs n st' rs' ds H'/\Mvd q k rs v rs'/\(∀ i,i < n->H'[i]?=H[i]?)/\rs'.length=rs.length
noncomputable def dM (n q:Nat) (c:Int) (k:Nat) (x5 x6 x7:Option W):DSt:=[some (.c (n+1)),some (.d (.int q)),some (.c n),some (.d (.int c)),some (.d (.int k)),x5,x6,x7]
@[simp] theorem cM0 (i:Nat):xIs (.c i) (.d .none)=some false:=rfl
@[simp] theorem bX0 (a:SJ.Ans):xIs (.d a.dat) (.d .none)=some false:=by
 cases a with
 | one a=>cases a<;>rfl
 | all ns=>rfl
 | each as=>rfl
def aW2 (d:Nat) (S:Hs n st rs ds H) (ro:bW9 rs) {q:Nat} (hq:q < rs.length) (c:Int) (k:Nat):∃ v H' st' rs',callW T (d+4) "_law_moved" [.c (n+1),.d (.int q),.c n,.d (.int c),.d (.int k)] H=some (.d v,H')/\Hs n st' rs' ds H'/\Mvd q k rs v rs'/\(∀ i,i < n->H'[i]?=H[i]?)/\rs'.length=rs.length:=by
 obtain ⟨o,ho⟩:∃ o,rs[q]?=some o:=⟨rs[q],by simp [hq]⟩;have hx:(rs.map rwW)[q]?=some (rwW o):=by rw [List.getElem?_map,ho];rfl
 have hqm:q < (rs.map rwW).length:=by simpa using hq
 have ix:=aM6 S.r hx;have hn1:=tL S.r;have dw:=iI (d+2) H c k;obtain ⟨m,hm⟩:∃ m,m=dwF c k:=⟨_,rfl⟩;rw [<- hm] at dw;have e11:cG 11=true:=by decide
 rw [show d+4=(d+3)+1 from rfl,oA];show MQ q k n ds rs H _;refine syP (dM n q c k (some (rwW o)) none none) H (by simp [dM,ix]) ?_;refine syP (dM n q c k (some (rwW o)) (some (.d (.int m))) none) H (by simp [dM,dw]) ?_;cases o with
 | none =>
  have cl:=aL9 (d+1) H c (k+1);obtain ⟨cc,hcc⟩:∃ cc,cc=clF c (k+1):=⟨_,rfl⟩;have hco:cc.ok:=by rw [hcc];exact bA0 _ _
  rw [<- hcc] at cl;have r':wsC (n+1) (H++[Cell.l (Rw.dat ⟨k,cc,none⟩)])=some (rs.map rwW):=yH S.r (by rw [List.getElem?_append_left hn1]);obtain ⟨cel,e1,e2⟩:=aW1 r' hqm H.length (dM n q c k (some (.d .none)) (some (.d (.int m))) none);simp only [Rw.dat,tD,dM] at e1;refine syR (.d .none) ((H++[Cell.l (Rw.dat ⟨k,cc,none⟩)]).set (n+1) cel) (by simp [dM,rwW,cl,szl,e1,Rw.dat,tD]) ?_;refine ⟨.none,_,st,_,rfl,S.opn hq _ e2,.opn _ _ ho hco,fun i hi=>?_,by simp⟩;rw [List.getElem?_set_ne (by omega),List.getElem?_append_left (by omega)]
 | some p =>
  obtain ⟨i,w⟩:=p;obtain ⟨hi,hi'⟩:=S.own q i w ho;obtain ⟨wc,wt⟩:=ro q i w ho;have hil:=(List.getElem?_eq_some_iff.mp hi').1;have i0:∀ G:aA,G[i]?=some (.l w.dat)->xIx (.c i) (.d (.int 0)) G=some (.d (.int w.b),G):=fun G e=>by rw [iR e];simp [Rw.dat]
  have i1:∀ G:aA,G[i]?=some (.l w.dat)->xIx (.c i) (.d (.int 1)) G=some (.d w.c.dat,G):=fun G e=>by rw [iR e];simp [Rw.dat]
  have i2:∀ G:aA,G[i]?=some (.l w.dat)->xIx (.c i) (.d (.int 2)) G=some (.d (tD w.t),G):=fun G e=>by rw [iR e];simp [Rw.dat]
  have go:w.t.isNone=true/\0 < m%9\/¬ (w.t.isNone=true/\0 < m%9):=Classical.em _;rcases go with ⟨g1,g2⟩ | g
  ·obtain ⟨wb,wcc,wt'⟩:=w;cases wt' with
   | some a=>cases g1
   | none =>
   have dn:=aM3 (d+1) S.s S.sl wc;have hdn:(H.set n (.l ((dnC st wcc).2.map .int)))[i]?=some (.l (Rw.dat ⟨wb,wcc,none⟩)):=by rw [List.getElem?_set_ne (by omega)];exact hi'
   have hp:fL i (.int 2) (dnC st wcc).1.dat (dM n q c k (some (.c i)) (some (.d (.int m))) none) (H.set n (.l ((dnC st wcc).2.map .int)))=some (dM n q c k (some (.c i)) (some (.d (.int m))) none,(H.set n (.l ((dnC st wcc).2.map .int))).set i (.l (Rw.dat ⟨wb,wcc,some (dnC st wcc).1⟩))):=bW8 hdn (k:=2) (by simp [Rw.dat]) _ _;simp only [dM] at hp;dsimp only at i0 i1 i2 wc;obtain ⟨an,han⟩:∃ an,an=(dnC st wcc).1:=⟨_,rfl⟩;have i2':=i2 H hi';have i1':=i1 H hi';refine syP (dM n q c k (some (.c i)) (some (.d (.int m))) none) H (by simp [dM,rwW]) ?_;refine syR (.d .none) _ (by simp [dM,i2',i1',tD,g2,dn,hp,-qR];rfl) ?_;refine ⟨.none,_,_,_,rfl,S.ans ho (some (dnC st wcc).1) (yC S.sl),.ans i _ _ ho (tJ wc S.sl),fun j hj=>?_,by simp⟩;rw [List.getElem?_set_ne (by omega),List.getElem?_set_ne (by omega)]
  ·obtain ⟨cel,e1,e2⟩:=aW0 S.r hqm .none (dM n q c k (some (.c i)) (some (.d (.int m))) none);simp only [dM] at e1;have i2':=i2 H hi';have hG:(H.set (n+1) cel)[i]?=some (.l w.dat):=by rw [List.getElem?_set_ne (by omega)];exact hi'
   have j0:=i0 _ hG;have j1:=i1 _ hG;have j2:=i2 _ hG;refine syP (dM n q c k (some (.c i)) (some (.d (.int m))) none) H (by simp [dM,rwW]) ?_;refine syP (dM n q c k (some (.c i)) (some (.d (.int m))) none) H ?_ ?_
   ·cases z:w.t with
    | some a=>rw [z] at i2';simp [dM,i2',tD]
    | none =>
     rw [z] at i2' g;have:¬ 0 < m%9:=fun z=>g ⟨rfl,z⟩;simp [dM,i2',tD,this]
   refine syP (dM n q c k (some (.c i)) (some (.d (.int m))) none) (H.set (n+1) cel) (by simp [dM,e1,-qR]) ?_;refine syP (dM n q c k (some (.c i)) (some (.d (.int m))) (some (.d (tD w.t)))) (H.set (n+1) cel) (by simp [dM,j2]) ?_;obtain ⟨a,ha,ea⟩:∃ a:Option SJ.Ans,(∀ b,a=some b->Ans.fits w.c b)/\∀ δ,δ=dM n q c k (some (.c i)) (some (.d (.int m))) (some (.d (tD w.t)))->YP (xC1 CmpOp.Is (aB 7) (YZ) δ (H.set (n+1) cel)) (fun p =>
        if p.1=true then
        YP (aO 7 (xb (xPl (Y1 (YS "refused"))) YT) δ p.2) YE
        else
        YP
         (YP (xC1 CmpOp.Eq (xb (aB 6) (YB .Mod 11)) (YJ 0) δ p.2) fun p =>
         if p.1=true then
          YP (aO 7 (xb (Y2 (aB 7) (xb (aB 6) (YB .FloorDiv 11))) (YF (d+3) "_law_bent")) δ p.2) YE
         else some (Fl.nx δ,p.2))
         YE)=some (.nx (dM n q c k (some (.c i)) (some (.d (.int m))) (some (.d (anD a)))),H.set (n+1) cel):=by
    cases z:w.t with
    | none=>exact ⟨none,(fun _ z=>nomatch z),fun δ hδ=>by subst hδ;simp [dM,tD,anD,aL5,szl]⟩
    | some b =>
     obtain ⟨b',f1,f2⟩:=aM5 (d+1) (H.set (n+1) cel) wc (wt b z) (m / 11);have f2:aD T (d+3) (Str.ofString "_law_bent") [.d b.dat,.d (.int (m / 11))] (H.set (n+1) cel)=some (b'.dat,H.set (n+1) cel):=f2
     by_cases y:m%11=0
     ·exact ⟨some b',fun _ e=>by injection e with e;subst e;exact f1,fun δ hδ=>by subst hδ;simp [dM,tD,anD,y,e11,f2]⟩
     ·exact ⟨some b,fun _ e=>by injection e with e;subst e;exact wt b z,fun δ hδ=>by subst hδ;simp [dM,tD,anD,y]⟩
   refine syP _ _ (ea _ rfl) ?_;have eR:(Dd.mk q w.b w.c (some (k,a))).dat=.tuple [.int q,.int w.b,.int k,w.c.dat,anD a]:=rfl;refine ⟨(Dd.mk q w.b w.c (some (k,a))).dat,H.set (n+1) cel,st,_,?_,S.cls e2,.cls i w a ho ha,fun j hj=>List.getElem?_set_ne (by omega),by simp⟩;rw [eR];simp [dM,j0,j1,szl]
end K46

namespace K46
open PySem PySem.Spec PyProof.Rows L2 DL CI SJ
structure Tm (k:Nat) (rs:List (Option (Nat×Rw))) (ds:List Dd):Prop where
 ok:∀ x∈ds,x.ok
 pw:ds.Pairwise Tog
 lt:∀ x∈ds,∃ p,x.fin=some p/\x.beg < k/\p.1 < k
 ro:bW9 rs
 rb:∀ (q i:Nat) (w:Rw),rs[q]?=some (some (i,w))->w.b < k/\∀ x∈ds,(w.b:Int)∉x.tms/\(x.hand=q->x.below w.b=true)
 rd:∀ (q q' i i':Nat) (w w':Rw),rs[q]?=some (some (i,w))->rs[q']?=some (some (i',w'))->q≠q'->w.b≠w'.b
variable {k:Nat} {rs:List (Option (Nat×Rw))} {ds:List Dd}
def Tm.tl (t:Tm k rs ds) {x:Dd} (hx:x∈ds):∀ z∈x.tms,z < (k:Int):=by
 obtain ⟨p,h1,h2,h3⟩:=t.lt x hx;intro z hz;simp only [Dd.tms,h1,List.mem_cons,List.not_mem_nil,or_false] at hz;omega
def Tm.keep (t:Tm k rs ds):Tm (k+1) rs ds:=⟨t.ok,t.pw,fun x hx=>by
 obtain ⟨p,h1,h2,h3⟩:=t.lt x hx;exact ⟨p,h1,by omega,by omega⟩,t.ro,fun q i w e=>⟨by have:=(t.rb q i w e).1;omega,(t.rb q i w e).2⟩,t.rd⟩
def set_some {q q':Nat} {o:Option (Nat×Rw)} {v:Option (Nat×Rw)} (e:(rs.set q o)[q']?=some v):(q=q'/\v=o)\/(q≠q'/\rs[q']?=some v):=by
 rw [List.getElem?_set] at e;split at e
 ·rename_i z;split at e
  ·injection e with e
   exact .inl ⟨z,e.symm⟩
  ·cases e
 ·rename_i z;exact .inr ⟨z,e⟩
def Tm.opn (t:Tm k rs ds) {q:Nat} (i:Nat) {c:SJ.Call} (hc:c.ok):Tm (k+1) (rs.set q (some (i,⟨k,c,none⟩))) ds:=by
 have t1:=t.keep;refine ⟨t.ok,t.pw,t1.lt,fun q' i' w e=>?_,fun q' i' w e=>?_,fun q1 q2 i1 i2 w1 w2 e1 e2 hn=>?_⟩
 ·rcases set_some e with ⟨_,e⟩ | ⟨_,e⟩
  ·injection e with e
   injection e with e1 e2
   subst e2;exact ⟨hc,fun _ z=>nomatch z⟩
  ·exact t.ro q' i' w e
 ·rcases set_some e with ⟨_,e⟩ | ⟨_,e⟩
  ·injection e with e
   injection e with e1 e2
   subst e2;refine ⟨Nat.lt_succ_self k,fun x hx=>⟨fun z=>?_,fun _=>?_⟩⟩
   ·have:=t.tl hx _ z;dsimp only at this;omega
   ·obtain ⟨p,h1,h2,h3⟩:=t.lt x hx;simp [Dd.below,h1,h3]
  ·exact t1.rb q' i' w e
 ·rcases set_some e1 with ⟨f1,e1⟩ | ⟨f1,e1⟩
  ·injection e1 with e1
   injection e1 with e1 e1'
   subst e1';rcases set_some e2 with ⟨f2,e2⟩ | ⟨f2,e2⟩
   ·omega
   ·have:=(t.rb _ _ _ e2).1;dsimp only;omega
  ·rcases set_some e2 with ⟨f2,e2⟩ | ⟨f2,e2⟩
   ·injection e2 with e2
    injection e2 with e2 e2'
    subst e2';have:=(t.rb _ _ _ e1).1;dsimp only;omega
   ·exact t.rd _ _ _ _ _ _ e1 e2 hn
def Tm.ans (t:Tm k rs ds) {q i:Nat} {w:Rw} (e:rs[q]?=some (some (i,w))) {a:SJ.Ans} (ha:Ans.fits w.c a):Tm (k+1) (rs.set q (some (i,{ w with t:=some a }))) ds:=by
 have t1:=t.keep;refine ⟨t.ok,t.pw,t1.lt,fun q' i' w' e'=>?_,fun q' i' w' e'=>?_,fun q1 q2 i1 i2 w1 w2 e1 e2 hn=>?_⟩
 ·rcases set_some e' with ⟨_,e'⟩ | ⟨_,e'⟩
  ·injection e' with e'
   injection e' with e1 e2
   subst e2;exact ⟨(t.ro q i w e).1,fun b z=>by injection z with z;subst z;exact ha⟩
  ·exact t.ro q' i' w' e'
 ·rcases set_some e' with ⟨f,e'⟩ | ⟨_,e'⟩
  ·injection e' with e'
   injection e' with e1 e2
   subst e2;subst f;exact t1.rb q i w e
  ·exact t1.rb q' i' w' e'
 ·rcases set_some e1 with ⟨f1,e1⟩ | ⟨f1,e1⟩
  ·injection e1 with e1
   injection e1 with e1 e1'
   subst e1';subst f1;rcases set_some e2 with ⟨f2,e2⟩ | ⟨f2,e2⟩
   ·omega
   ·have z:=t.rd _ _ _ _ _ _ e e2 hn;exact z
  ·rcases set_some e2 with ⟨f2,e2⟩ | ⟨f2,e2⟩
   ·injection e2 with e2
    injection e2 with e2 e2'
    subst e2';subst f2;have z:=t.rd _ _ _ _ _ _ e1 e hn;exact z
   ·exact t.rd _ _ _ _ _ _ e1 e2 hn
theorem rB {ds:List Dd} (h:ds.Pairwise Tog) {y:Dd} (hy:∀ x∈ds,Tog x y):(ds++[y]).Pairwise Tog:=by
 rw [List.pairwise_append];exact ⟨h,List.pairwise_singleton _ _,fun x hx z hz=>by rw [List.mem_singleton.mp hz];exact hy x hx⟩
def Tm.cls (t:Tm k rs ds) {q i:Nat} (hq:q<=5) {w:Rw} (e:rs[q]?=some (some (i,w))) {a:Option SJ.Ans} (ha:∀ b,a=some b->Ans.fits w.c b):Tm (k+1) (rs.set q none) (ds++[Dd.mk q w.b w.c (some (k,a))]):=by
 have t1:=t.keep;obtain ⟨b1,b2⟩:=t.rb q i w e;have un:∀ q' i' w',(rs.set q none)[q']?=some (some (i',w'))->q≠q'/\rs[q']?=some (some (i',w')):=fun q' i' w' z=>by
  rcases set_some z with ⟨_,z⟩ | z
  ·cases z
  ·exact z
 refine ⟨fun x hx=>?_,rB t.pw fun x hx=>⟨fun z z1 z2=>?_,?_⟩,fun x hx=>?_,fun q' i' w' e'=>t.ro q' i' w' (un _ _ _ e').2,fun q' i' w' e'=>?_,fun q1 q2 i1 i2 w1 w2 e1 e2 hn=>t.rd _ _ _ _ _ _ (un _ _ _ e1).2 (un _ _ _ e2).2 hn⟩
 ·rcases List.mem_append.mp hx with hx | hx
  ·exact t.ok x hx
  ·rw [List.mem_singleton.mp hx];exact ⟨hq,(t.ro q i w e).1,fun p z=>by injection z with z;subst z;exact ⟨b1,ha⟩⟩
 ·have:=t.tl hx z z1;simp only [Dd.tms,List.mem_cons,List.not_mem_nil,or_false] at z2;rcases z2 with z2 | z2
  ·subst z2;exact (b2 x hx).1 z1
  ·omega
 ·by_cases c:x.hand=q
  ·exact .inr (.inl ((b2 x hx).2 c))
  ·exact .inl c
 ·rcases List.mem_append.mp hx with hx | hx
  ·exact t1.lt x hx
  ·rw [List.mem_singleton.mp hx];exact ⟨_,rfl,Nat.lt_succ_of_lt b1,Nat.lt_succ_self k⟩
 ·obtain ⟨u1,u2⟩:=un _ _ _ e';obtain ⟨c1,c2⟩:=t1.rb q' i' w' u2;refine ⟨c1,fun x hx=>?_⟩;rcases List.mem_append.mp hx with hx | hx
  ·exact c2 x hx
  ·rw [List.mem_singleton.mp hx];refine ⟨fun z=>?_,fun z=>absurd z u1⟩;simp only [Dd.tms,List.mem_cons,List.not_mem_nil,or_false] at z;have n1:=t.rd _ _ _ _ _ _ e u2 u1;have n2:=(t.rb _ _ _ u2).1;omega
noncomputable def cnt (rs:List (Option (Nat×Rw))):Nat:=rs.countP Option.isSome
def rC {q:Nat} {o:Option (Nat×Rw)} (e:rs[q]?=some o) (v:Option (Nat×Rw)):cnt (rs.set q v)+(if o.isSome=true then 1 else 0)=cnt rs+(if v.isSome=true then 1 else 0):=by
 have hq:=(List.getElem?_eq_some_iff.mp e).1;have ev:=(List.getElem?_eq_some_iff.mp e).2;unfold cnt;rw [List.countP_set hq,ev];have:(if o.isSome=true then 1 else 0)<=rs.countP Option.isSome:=by
  split
  ·rename_i z;exact List.countP_pos_iff.mpr ⟨o,by rw [<- ev];exact List.getElem_mem hq,z⟩
  ·exact Nat.zero_le _
 omega
def Tm.step (t:Tm k rs ds) {q:Nat} (hq:q<=5) {v:PyData} {rs':List (Option (Nat×Rw))} (m:Mvd q k rs v rs') {most:Nat} (hc:ds.length+cnt rs<=most) (hb:(∃ p,rs[q]?=some (some p))\/ds.length+cnt rs < most) :
  (v=.none/\Tm (k+1) rs' ds/\ds.length+cnt rs'<=most)\/∃ x:Dd,v=x.dat/\Tm (k+1) rs' (ds++[x])/\(ds++[x]).length+cnt rs'<=most:=by
 cases m with
 | opn i c h hc' =>
  refine .inl ⟨rfl,t.opn i hc',?_⟩;have:=rC h (some (i,⟨k,c,none⟩));simp at this;rcases hb with ⟨p,hb⟩ | hb
  ·rw [h] at hb;cases hb
  ·omega
 | ans i w a h ha =>
  refine .inl ⟨rfl,t.ans h ha,?_⟩;have:=rC h (some (i,{ w with t:=some a }));simp at this;omega
 | cls i w a h ha =>
  refine .inr ⟨_,rfl,t.cls hq h ha,?_⟩;have:=rC h none;simp at this;simp;omega
end K46

namespace K46
open PySem PySem.Spec PyProof.Rows L2 DL CI SJ
def tM (o:Option (Nat×Rw)):weq (rwW o) (rwW o)=true:=by
 cases o with
 | none=>rfl
 | some p=>simp [rwW,weq]
theorem yI:∀ rs:List (Option (Nat×Rw)),yU (rs.map rwW) (rs.map rwW)=true
 | []=>rfl
 | o::r=>by rw [List.map_cons,yU,tM,yI r];rfl
theorem pK {α:Type} {g:XG} {tt:XR Bool} {te:XR W} {co:aA->Bool} {h:aA} (F:α->W) (p:α->Bool) (I:DSt->Prop) (hc:co h=true):∀ (qs:List α) (δ:DSt) (ac:List W),I δ ->
  (∀ q∈qs,∀ δ,I δ->∃ δ',g (F q) δ h=some (δ',h)/\I δ'/\tt δ' h=some (p q,h)/\te δ' h=some (F q,h))->dP g tt te co (qs.map F) δ h ac=some (ac++(qs.filter p).map F,h)
 | [],δ,ac,_,_=>by simp [dP,hc]
 | q::r,δ,ac,i,hx=>by
  obtain ⟨δ',e1,i',e2,e3⟩:=hx q List.mem_cons_self δ i;have ih:=fun ac=>pK F p I hc r δ' ac i' fun y hy=>hx y (List.mem_cons_of_mem _ hy);rw [List.map_cons,dP,if_pos hc,e1];simp only [CI.bs,e2];cases hp:p q with
  | true=>rw [if_pos rfl,e3];simp only [CI.bs];rw [ih];simp [hp]
  | false=>rw [if_neg (by simp)];rw [ih];simp [hp]
noncomputable def dL (S:List Int) (f most hands n:Nat) (x5 x8 x9 x10 x11:Option W):DSt:=[some (.d (.list (S.map .int))),some (.d (.int f)),some (.d (.int most)),some (.d (.int hands)),some (.c n),x5,some (.c (n+1)),some (.c (n+2)),x8,x9,x10,x11]
def IL (S:List Int) (f most hands:Nat) (h:aA) (k:Nat) (δ:DSt) (H:aA):Prop:=∃ st rs ds,Hs h.length st rs ds H/\Tm k rs ds/\rs.length=hands/\ds.length+cnt rs<=most/\(∀ i,i < h.length->H[i]?=h[i]?)/\∃ x5 x8 x9 x10 x11,δ=dL S f most hands h.length x5 x8 x9 x10 x11
def Hs.app {n:Nat} {st:List Int} {rs:List (Option (Nat×Rw))} {ds:List Dd} {H:aA} (S:Hs n st rs ds H) (x:Dd):Hs n st rs (ds++[x]) (H.set (n+2) (.l ((ds++[x]).map Dd.dat))):=by
 obtain ⟨h1,h2,h3,h4,h5,h6⟩:=S;have hd:=(List.getElem?_eq_some_iff.mp h4).1;have oth:∀ i c',i≠n+2->H[i]?=some c'->(H.set (n+2) (.l ((ds++[x]).map Dd.dat)))[i]?=some c':=fun i c' hi e=>by
  rw [List.getElem?_set_ne (fun z=>hi z.symm),e]
 exact ⟨h1,oth _ _ (by omega) h2,yH h3 (List.getElem?_set_ne (by omega)),List.getElem?_set_self hd,fun q i w e=>⟨(h5 q i w e).1,oth _ _ (by have:=(h5 q i w e).1;omega) (h5 q i w e).2⟩,h6⟩
def aM7 {n:Nat} {st:List Int} {rs:List (Option (Nat×Rw))} {ds:List Dd} {H:aA} (S:Hs n st rs ds H) (hl:ds.length<=100) (x:PyData):iV "append" (.c (n+2)) H=true/\uH (.c (n+2)) [.d x] H=some (.d .none,H.set (n+2) (.l (ds.map Dd.dat++[x]))):=by
 have h4:=S.d;have:ds.length < 16777216:=by omega
 exact ⟨by simp [iV,h4],by simp [h4,szl,this]⟩
def ypE {α:Type} {x:Option α} {f:α->Option (Fl×aA)} {g:Fl×aA->Option (Fl×aA)} {P:DSt->aA->Prop} (a:α) (e:x=some a) (k:∃ δ2 h2,YP (f a) g=some (.nx δ2,h2)/\P δ2 h2):∃ δ2 h2,YP (YP x f) g=some (.nx δ2,h2)/\P δ2 h2:=by
 rw [e];exact k
def aW3 (d:Nat) (S:List Int) {f most hands:Nat} (h:aA) (hm:most<=100) (h0:0 < hands) (h6:hands<=6) {k:Nat} (hk:k < S.length) (x5 x8 x9 x10 x11:Option W) {st:List Int} {rs:List (Option (Nat×Rw))} {ds:List Dd} {H:aA}
  (hs:Hs h.length st rs ds H) (tm:Tm k rs ds) (hl:rs.length=hands) (hc:ds.length+cnt rs<=most) (hb:∀ i,i < h.length->H[i]?=h[i]?) :
  ∃ δ2 h2,bI (d+4) (dL S f most hands h.length x5 (some (.d (.int k))) x9 x10 x11) H=some (.nx δ2,h2)/\IL S f most hands h (k+1) δ2 h2:=by
 have dw:=iI (d+3) H (S.getD k 0) 0;have ik:=iG hk;have hp:(0:Int) < hands:=by omega
 obtain ⟨q,hq,eq⟩:∃ q:Nat,q < hands/\dwF (S.getD k 0) 0%(hands:Int)=q:=by
  have a1:=Int.emod_nonneg (dwF (S.getD k 0) 0) (b:=(hands:Int)) (by omega);have a2:=Int.emod_lt_of_pos (dwF (S.getD k 0) 0) (b:=(hands:Int)) (by omega);exact ⟨(dwF (S.getD k 0) 0%(hands:Int)).toNat,by omega,by omega⟩
 obtain ⟨o,ho⟩:∃ o,rs[q]?=some o:=⟨rs[q]'(by omega),by simp [hl,hq]⟩;have hx:(rs.map rwW)[q]?=some (rwW o):=by rw [List.getElem?_map,ho];rfl
 obtain ⟨cv,hcv⟩:∃ cv,cv=S.getD k 0:=⟨_,rfl⟩;rw [<- hcv] at dw ik eq;obtain ⟨sd,esd⟩:∃ sd,sd=PyData.list (S.map .int):=⟨_,rfl⟩;have ikx:∀ H,xIx (.d sd) (.d (.int k)) H=some (.d (.int cv),H):=fun H=>by rw [esd];simp [ik]
 have eD:∀ x5 x8 x9 x10 x11,dL S f most hands h.length x5 x8 x9 x10 x11=[some (.d sd),some (.d (.int f)),some (.d (.int most)),some (.d (.int hands)),some (.c h.length),x5,some (.c (h.length+1)),some (.c (h.length+2)),x8,x9,x10,x11]:=fun x5 x8 x9 x10 x11=>by rw [esd];rfl
 have hp':0 < hands:=h0;unfold bI;refine sys (dL S f most hands h.length (some (.d (.int q))) (some (.d (.int k))) x9 x10 x11) H (by simp [eD,ikx,dw,hp',eq]) ?_
 -- how many have begun
 have hn1:=tL hs.r;obtain ⟨H1,hH1⟩:∃ H1,H1=H++[Cell.r ((rs.filter Option.isSome).map rwW)]:=⟨_,rfl⟩;have g1:∀ i c,H[i]?=some c->H1[i]?=some c:=fun i c e=>by rw [hH1,List.getElem?_append_left (List.getElem?_eq_some_iff.mp e).1,e]
 have hs1:Hs h.length st rs ds H1:=hs.go fun i c _ e=>g1 i c e;have hb1:∀ i,i < h.length->H1[i]?=h[i]?:=fun i hi=>by rw [hH1,List.getElem?_append_left (by omega)];exact hb i hi
 have cw:dP (YG 0) (xC1 CmpOp.IsNot (aB 0) (YZ)) (aB 0) (coW (h.length+1) (rs.map rwW)) (rs.map rwW) [none] H []=some ((rs.filter Option.isSome).map rwW,H):=by
  rw [pK rwW Option.isSome (fun δ=>∃ u,δ=[u]) (by simp [coW,hs.r,yI]) rs [none] [] ⟨_,rfl⟩ fun o _ δ hδ=>?_]
  ·rfl
  ·obtain ⟨u,rfl⟩:=hδ;cases o with
   | none=>exact ⟨[some (.d .none)],by simp [rwW],⟨_,rfl⟩,by simp,by simp [rwW]⟩
   | some p=>exact ⟨[some (.c p.1)],by simp [rwW],⟨_,rfl⟩,by simp,by simp [rwW]⟩
 have l1:aY [.c (h.length+2)] H=some (.d (.int ds.length),H):=by
  have h4:=hs.d;simp [aY,ref,h4]
 have l2:aY [.c H.length] H1=some (.d (.int (cnt rs)),H1):=by
  have:H1[H.length]?=some (.r ((rs.filter Option.isSome).map rwW)):=by rw [hH1];simp
  simp [aY,ref,this,bB8,cnt,List.countP_eq_length_filter]
 simp only [dR,gH] at cw;refine sys (dL S f most hands h.length (some (.d (.int q))) (some (.d (.int k))) (some (.d (.int (ds.length+cnt rs)))) x10 x11) H1 (by
  simp [eD,l1,hs.r,cw,<- hH1,l2]) ?_
 have ix1:=aM6 hs1.r hx;obtain ⟨v,H2,st',rs',mv,hs2,m2,hb2,hl2⟩:=aW2 d hs1 tm.ro (by omega:q < rs.length) cv k;have hb3:∀ i,i < h.length->H2[i]?=h[i]?:=fun i hi=>by rw [hb2 i hi];exact hb1 i hi
 have go:(∃ p,o=some p)\/ds.length+cnt rs < most\/(o=none/\¬ ds.length+cnt rs < most):=by
  cases o with
  | some p=>exact .inl ⟨p,rfl⟩
  | none =>
   by_cases z:ds.length+cnt rs < most
   ·exact .inr (.inl z)
   ·exact .inr (.inr ⟨rfl,z⟩)
 have mv:callW T (d+4) (Str.ofString "_law_moved") [.c (h.length+1),.d (.int q),.c h.length,.d (.int cv),.d (.int k)] H1=some (.d v,H2):=mv;have ok1:(∃ p,o=some p)\/ds.length+cnt rs < most->xb (xC1 CmpOp.IsNot (xb (aB 6) fun x=>xb (aB 5) (YX x)) (YZ)) (fun c=>if c=true then aC true else xC1 CmpOp.Lt (aB 9) (aB 2)) (dL S f most hands h.length (some (.d (.int q))) (some (.d (.int k))) (some (.d (.int (ds.length+cnt rs)))) x10 x11) H1=some (true,H1):=by
  rintro (⟨p,rfl⟩ | z)
  ·simp [eD,ix1,rwW]
  ·cases o with
   | some p=>simp [eD,ix1,rwW]
   | none =>
    have z':(ds.length:Int)+cnt rs < most:=by omega
    simp [eD,ix1,rwW,z']
 by_cases c1:(∃ p,o=some p)\/ds.length+cnt rs < most
 ·have ok2:=ok1 c1;have hb':(∃ p,rs[q]?=some (some p))\/ds.length+cnt rs < most:=by
   rcases c1 with ⟨p,rfl⟩ | c1
   ·exact .inl ⟨p,ho⟩
   ·exact .inr c1
  refine ypE (true,H1) ok2 ?_;rcases tm.step (by omega:q<=5) m2 hc hb' with ⟨rfl,t2,c2⟩ | ⟨x,rfl,t2,c2⟩
  ·refine ⟨dL S f most hands h.length (some (.d (.int q))) (some (.d (.int k))) (some (.d (.int (ds.length+cnt rs)))) (some (.d .none)) x11,H2,by simp [eD,ikx,mv],st',rs',ds,hs2,t2,by omega,c2,hb3,_,_,_,_,_,rfl⟩
  ·obtain ⟨a1,a2⟩:=aM7 hs2 (by omega) x.dat;have hs3:=hs2.app x;rw [List.map_append] at hs3;have xn:xIs (.d x.dat) (.d .none)=some false:=rfl;refine ⟨dL S f most hands h.length (some (.d (.int q))) (some (.d (.int k))) (some (.d (.int (ds.length+cnt rs)))) (some (.d x.dat)) x11,H2.set (h.length+2) (.l (ds.map Dd.dat++[x.dat])),?_,st',rs',ds++[x],hs3,t2,by omega,c2,fun i hi=>?_,_,_,_,_,_,rfl⟩
   ·have h4:=hs2.d;have hz:ds.length < 16777216:=by omega
    obtain ⟨dx,edx⟩:∃ dx,dx=x.dat:=⟨_,rfl⟩;rw [<- edx] at mv xn a2 ⊢;simp [eD,ikx,mv,xn,a1,h4,szl,hz]
   ·rw [List.getElem?_set_ne (by omega)];exact hb3 i hi
 ·have n1:o=none:=by
   cases o with
   | none=>rfl
   | some p=>exact (c1 (.inl ⟨p,rfl⟩)).elim
  subst n1;have n2:¬ ((ds.length:Int)+cnt rs < most):=fun z=>c1 (.inr (by omega));refine ⟨dL S f most hands h.length (some (.d (.int q))) (some (.d (.int k))) (some (.d (.int (ds.length+cnt rs)))) x10 x11,H1,by simp [eD,ix1,rwW,n2],st,rs,ds,hs1,tm.keep,by omega,hc,hb1,_,_,_,_,_,rfl⟩
end K46

namespace K46
open PySem PySem.Spec PyProof.Rows L2 DL CI SJ
noncomputable def nI (k:Nat):PyData:=.int k
noncomputable def byI {α:Type} (k:α->Int) (qs:List α):List α:=qs.mergeSort fun a b=>decide (k a<=k b)
def bA2 {α:Type} (k:α->Int) (F:α->PyData) (qs:List α):rR (qs.map k) (qs.map F)=(byI k qs).map F:=by
 unfold rR aC4 byI;have e:((qs.map k).map fun x=>-x).zip (qs.map F)=qs.map fun q=>(-(k q),F q):=by
  rw [List.map_map,List.zip_map'];rfl
 rw [e];have:=List.map_mergeSort (f:=fun q=>(-(k q),F q)) (r:=fun a b=>decide (k a<=k b)) (s:=fun a b:Int×PyData=>decide (b.1<=a.1)) (l:=qs) fun a _ b _=>by
  have:k a<=k b ↔ -(k b)<=-(k a):=by omega
  simp only [this]
 rw [<- this,List.map_map];rfl
def nF {α:Type} (k:α->Int) (qs:List α):(byI k qs).Perm qs:=List.mergeSort_perm _ _
def bK7 {α:Type} (k:α->Int) (qs:List α):(byI k qs).Pairwise fun a b=>k a<=k b:=by
 have:=List.pairwise_mergeSort (le:=fun a b=>decide (k a<=k b)) (fun a b c h1 h2=>by simp at *;omega) (fun a b=>by simp;omega) qs;exact this.imp fun {a b} h=>by simpa using h
def aA5 {α:Type} {k k':α->Int} {qs:List α} (h:∀ a∈qs,∀ b∈qs,(k a<=k b ↔ k' a<=k' b)):byI k qs=byI k' qs:=by
 unfold byI;have:=List.map_mergeSort (f:=fun q:α=>q) (r:=fun a b=>decide (k a<=k b)) (s:=fun a b=>decide (k' a<=k' b)) (l:=qs) fun a ha b hb=>by
  simp only [h a ha b hb]
 simpa using this
noncomputable def prI (f:Nat->Int) (i:Nat):PyData:=.tuple [.int (f i),.int i]
theorem aM8 (f:Nat->Int):∀ qs:List Nat,(∀ i∈qs,i < 1000)->yS (qs.map (prI f))=some (qs.map fun i=>f i*1000+i)
 | [],_=>rfl
 | i::r,h=>by
  have hi:=h i List.mem_cons_self;have c:(0:Int)<=(i:Int)/\(i:Int) < 1000:=by omega
  have e:(prS (prI f i)).map (·.1)=some (f i*1000+(i:Int)):=by
   simp [prS,prI,c]
  rw [List.map_cons,yS,e,aM8 f r fun j hj=>h j (List.mem_cons_of_mem _ hj)];rfl
def bA3 (f:Nat->Int) {qs:List Nat} (h:∀ i∈qs,i < 1000) (nd:qs.Nodup) (hl:qs.length < 64) (H:aA):pR [.d (.list (qs.map (prI f)))] H=some ((byI (fun i=>f i*1000+i) qs).map (prI f),H):=by
 have e:yT (qs.map (prI f))=some ((byI (fun i=>f i*1000+i) qs).map (prI f)):=by
  cases qs with
  | nil =>
   show (some ((ST.srt []).map PyData.int):Option (List PyData))=_;simp [ST.srt,byI]
  | cons a r =>
   unfold yT;have n:cA ((a::r).map (prI f))=none:=rfl;rw [n];simp only [aM8 f _ h,CI.bs];have nd':((a::r).map fun i=>f i*1000+(i:Int)).Nodup:=by
    refine List.pairwise_map.mpr (nd.imp_of_mem fun {x y} hx hy hn z=>?_);have:=h x hx;have:=h y hy;exact hn (by omega)
   rw [if_pos ⟨nd',by simpa using hl⟩,bA2]
 unfold pR;simp only [ref,e,Option.map_some]
structure HOk (hs:List Dd):Prop where
 ok:∀ x∈hs,x.ok
 pw:hs.Pairwise Tog
 len:hs.length<=60
def HOk.perm {hs gs:List Dd} (p:gs.Perm hs) (h:HOk hs):HOk gs:=⟨fun x hx=>h.ok x (p.mem_iff.mp hx),(p.pairwise_iff fun h=>h.symm).mpr h.pw,by rw [p.length_eq];exact h.len⟩
def Sm (hs:List Dd):Prop:=∀ x∈hs,x.beg < 10000/\∀ p,x.fin=some p->p.1 < 10000
theorem Sm.perm {hs gs:List Dd} (p:gs.Perm hs) (h:Sm hs):Sm gs:=fun x hx=>h x (p.mem_iff.mp hx)
noncomputable def dfD:Dd:=⟨0,0,.span 0 1,none⟩
def aA6 (ds:List Dd):(List.range ds.length).map (fun i=>ds.getD i dfD)=ds:=by
 apply List.ext_getElem
 ·simp
 ·intro i h1 h2;simp [List.getD,show i < ds.length by simpa using h1]
def bA4 {ds:List Dd} {i:Nat} (hi:i < ds.length):atI (ds.map Dd.dat) (i:Int)=some (ds.getD i dfD).dat:=eH (by simp [List.getD,hi])
def vY (n:Nat):rng 0 n=(List.range n).map nI:=by
 rw [aV5];rfl
def tN (d:Nat) {h H:aA} (S:List Int) {j:Nat} {ds:List Dd} (hj:H[j]?=some (.l (ds.map Dd.dat))) (hl:ds.length<=60) :
  ∃ L:List Nat,L.Perm (List.range ds.length) /\
  (∀ x0:Option W,aG (YG 0) (aC true) (xb (xPl (Y2 (xb (Y2 (xb (Y2 (aB 1) (YJ 0)) (YF (d+1) "_law_cell_at")) (aB 0)) (YF (d+1) "_law_drawn")) (aB 0))) YT) none (rng 0 ds.length) (rng 0 ds.length) [x0,some (.d (.list (S.map .int)))] H []=some ((List.range ds.length).map (prI fun i=>dwF (clS S 0) i),H)) /\
  pR [.d (.list ((List.range ds.length).map (prI fun i=>dwF (clS S 0) i)))] H=some (L.map (prI fun i=>dwF (clS S 0) i),H) /\
  (∀ x0 x1:Option W,aG (aP [YG 0,YG 1]) (aC true) (xb (aB 2) fun x=>xb (aB 1) (YX x)) none (L.map (prI fun i=>dwF (clS S 0) i)) (L.map (prI fun i=>dwF (clS S 0) i)) [x0,x1,some (.c j)] H []=some ((L.map fun i=>ds.getD i dfD).map Dd.dat,H)):=by
 have c0:=aL7 d H S 0;have dw:=fun k=>iI d H (clS S 0) k;obtain ⟨sd,esd⟩:∃ sd,sd=PyData.list (S.map .int):=⟨_,rfl⟩;rw [<- esd] at c0;refine ⟨byI (fun i:Nat=>dwF (clS S 0) i*1000+i) (List.range ds.length),nF _ _,fun x0=>?_,bA3 _ (fun i hi=>by have:=List.mem_range.mp hi;omega) List.nodup_range (by simp;omega) H,fun x0 x1=>?_⟩
 ·rw [vY,<- esd];rw [cmM nI (prI fun i=>dwF (clS S 0) i) (fun δ=>∃ u,δ=[u,some (.d sd)]) _ _ ⟨_,rfl⟩ fun i hi δ hδ=>?_];obtain ⟨u,rfl⟩:=hδ;have c0':aD T (d+1) (Str.ofString "_law_cell_at") [.d sd,.d (.int 0)] H=some (.int (clS S 0),H):=c0;refine ⟨_,rfl,⟨_,rfl⟩,?_⟩;simp [nI,prI,c0',dw,szl]
 ·have mem:∀ i∈byI (fun i:Nat=>dwF (clS S 0) i*1000+i) (List.range ds.length),i < ds.length:=fun i hi=>List.mem_range.mp ((nF _ _).mem_iff.mp hi);generalize byI (fun i:Nat=>dwF (clS S 0) i*1000+i) (List.range ds.length)=L at mem;rw [cmM (prI fun i=>dwF (clS S 0) i) (fun i=>(ds.getD i dfD).dat) (fun δ=>∃ u v,δ=[u,v,some (.c j)]) L _ ⟨_,_,rfl⟩ fun i hi δ hδ=>?_]
  ·rw [List.map_map];rfl
  ·obtain ⟨u,v,rfl⟩:=hδ;refine ⟨[some (.d (.int (dwF (clS S 0) i))),some (.d (.int i)),some (.c j)],by simp [prI,aP,cT],⟨_,_,rfl⟩,?_⟩;have:=bA4 (mem i hi);have ix:=iR hj (i:Int);rw [this] at ix;simp [ix]
def iJ {ds:List Dd} {L:List Nat} (p:L.Perm (List.range ds.length)):(L.map fun i=>ds.getD i dfD).Perm ds:=by
 have:=p.map fun i=>ds.getD i dfD
 rwa [aA6] at this
end K46

namespace K46
open PySem PySem.Spec PyProof.Rows L2 DL CI SJ
def IE (S:List Int) (f most hands:Nat) (h:aA) (st:List Int) (rs:List (Option (Nat×Rw))) (m:Nat) (δ:DSt) (H:aA):Prop:=∃ ds:List Dd,Hs h.length st rs ds H/\(∀ x∈ds,x.ok)/\ds.Pairwise Tog/\ds.length+cnt (rs.drop m)<=most /\
 (∀ (q i:Nat) (w:Rw),m<=q->rs[q]?=some (some (i,w))->∀ x∈ds,(w.b:Int)∉x.tms/\(x.hand=q->x.below w.b=true))/\(∀ i,i < h.length->H[i]?=h[i]?)/\Sm ds/\∃ x5 x8 x9 x10 x11,δ=dL S f most hands h.length x5 x8 x9 x10 x11
def aM9 {rs:List (Option (Nat×Rw))} {m:Nat} {o:Option (Nat×Rw)} (e:rs[m]?=some o):cnt (rs.drop m)=cnt (rs.drop (m+1))+(if o.isSome=true then 1 else 0):=by
 obtain ⟨hm,ev⟩:=List.getElem?_eq_some_iff.mp e;rw [List.drop_eq_getElem_cons hm,ev];unfold cnt;rw [List.countP_cons]
def bK8 (d:Nat) (S:List Int) {f most hands:Nat} (h:aA) (hm:most<=100) (h6:hands<=6) {k m:Nat} (hk:k<=10000) {st:List Int} {rs:List (Option (Nat×Rw))} {ds0:List Dd} (tm:Tm k rs ds0) (hl:rs.length=hands) (hq:m < hands) {δ:DSt} {H:aA} (I:IE S f most hands h st rs m δ H) :
  ∃ δ1 h1,YG 5 (.d (nI m)) δ H=some (δ1,h1)/\∃ δ2 h2,bH d δ1 h1=some (.nx δ2,h2)/\IE S f most hands h st rs (m+1) δ2 h2:=by
 obtain ⟨ds,hs,ok,pw,hc,rb,hb,sm,x5,x8,x9,x10,x11,rfl⟩:=I;refine ⟨_,_,rfl,?_⟩;obtain ⟨o,ho⟩:∃ o,rs[m]?=some o:=⟨rs[m]'(by omega),by simp [hl,hq]⟩;have hx:(rs.map rwW)[m]?=some (rwW o):=by rw [List.getElem?_map,ho];rfl
 have ix:=aM6 hs.r hx;have cd:=aM9 ho;obtain ⟨sd,esd⟩:∃ sd,sd=PyData.list (S.map .int):=⟨_,rfl⟩;have eD:∀ x5 x8 x9 x10 x11,dL S f most hands h.length x5 x8 x9 x10 x11=[some (.d sd),some (.d (.int f)),some (.d (.int most)),some (.d (.int hands)),some (.c h.length),x5,some (.c (h.length+1)),some (.c (h.length+2)),x8,x9,x10,x11]:=fun x5 x8 x9 x10 x11=>by rw [esd];rfl
 unfold bH;cases o with
 | none =>
  refine ⟨dL S f most hands h.length (some (.d (nI m))) x8 x9 x10 x11,H,by simp [eD,nI,ix,rwW],ds,hs,ok,pw,by simp at cd;omega,fun q i w hq' e=>rb q i w (by omega) e,hb,sm,_,_,_,_,_,rfl⟩
 | some p =>
  obtain ⟨i,w⟩:=p;simp at cd;obtain ⟨hi,hi'⟩:=hs.own m i w ho;obtain ⟨wc,_⟩:=tm.ro m i w ho;have i0:xIx (.c i) (.d (.int 0)) H=some (.d (.int w.b),H):=by rw [iR hi'];simp [Rw.dat]
  have i1:xIx (.c i) (.d (.int 1)) H=some (.d w.c.dat,H):=by rw [iR hi'];simp [Rw.dat]
  obtain ⟨a1,a2⟩:=aM7 hs (by omega) (Dd.mk m w.b w.c none).dat;have hs3:=hs.app (Dd.mk m w.b w.c none);rw [List.map_append] at hs3;have h4:=hs.d;have hz:ds.length < 16777216:=by omega
  have eR:(Dd.mk m w.b w.c none).dat=.tuple [.int m,.int w.b,.none,w.c.dat,.none]:=rfl;refine ⟨dL S f most hands h.length (some (.d (nI m))) x8 x9 x10 x11,H.set (h.length+2) (.l (ds.map Dd.dat++[(Dd.mk m w.b w.c none).dat])),?_,ds++[Dd.mk m w.b w.c none],hs3,fun x hx=>?_,rB pw fun x hx=>?_,?_,fun q' i' w' hq' e x hx=>?_,fun j hj=>?_,fun x hx=>?_,_,_,_,_,_,rfl⟩
  ·rw [eR];simp [eD,nI,ix,rwW,i0,i1,a1,h4,szl,hz]
  ·rcases List.mem_append.mp hx with hx | hx
   ·exact ok x hx
   ·rw [List.mem_singleton.mp hx];exact ⟨by dsimp only;omega,wc,fun _ z=>nomatch z⟩
  ·obtain ⟨b1,b2⟩:=rb m i w (Nat.le_refl m) ho x hx;refine ⟨fun z z1 z2=>?_,?_⟩
   ·simp only [Dd.tms,List.mem_cons,List.not_mem_nil,or_false] at z2;subst z2;exact b1 z1
   ·by_cases c:x.hand=m
    ·exact .inr (.inl (b2 c))
    ·exact .inl c
  ·simp;omega
  ·rcases List.mem_append.mp hx with hx | hx
   ·exact rb q' i' w' (by omega) e x hx
   ·rw [List.mem_singleton.mp hx];have n1:=tm.rd _ _ _ _ _ _ ho e (by omega);refine ⟨fun z=>?_,fun z=>?_⟩
    ·simp only [Dd.tms,List.mem_cons,List.not_mem_nil,or_false] at z;omega
    ·dsimp only at z;omega
  ·rw [List.getElem?_set_ne (by omega)];exact hb j hj
  ·rcases List.mem_append.mp hx with hx | hx
   ·exact sm x hx
   ·rw [List.mem_singleton.mp hx];have:=(tm.rb m i w ho).1;exact ⟨by dsimp only;omega,fun _ z=>nomatch z⟩
def aN0 (n:Nat):cnt (List.replicate n none)=0:=by
 unfold cnt;rw [List.countP_replicate];rfl
def RH (h:aA) (x:Option (Fl×aA)):Prop:=∃ hs:List Dd,HOk hs/\Sm hs/\x.bind (aM h)=some (.tuple (hs.map Dd.dat),h)
def aT {h H:aA} {z:PyData} (hb:∀ i,i < h.length->H[i]?=h[i]?) (hl:h.length<=H.length):aM h (.rt (.d z),H)=some (z,h):=by
 have ok:okP h H:=fun i c hi e=>.inr (by rw [<- hb i hi];exact e);have tk:H.take h.length=h:=by
  apply List.ext_getElem?;intro i;rw [List.getElem?_take];split
  ·rename_i z;exact hb i z
  ·rename_i z;rw [List.getElem?_eq_none (by omega)]
 rw [qS,if_pos ok,tk]
def aA7 (d:Nat) (h:aA) (S:List Int) {f most hands:Nat} (hf:f<=63) (hm:most<=60) (h0:0 < hands) (h6:hands<=6):∃ hs:List Dd,HOk hs/\Sm hs/\aD T (d+5) "_law_history" [.d (.list (S.map .int)),.d (.int f),.d (.int most),.d (.int hands)] h=some (.tuple (hs.map Dd.dat),h):=by
 rw [show d+5=(d+4)+1 from rfl,mZ];show RH h _;obtain ⟨sd,esd⟩:∃ sd,sd=PyData.list (S.map .int):=⟨_,rfl⟩;have eD:∀ n x5 x8 x9 x10 x11,dL S f most hands n x5 x8 x9 x10 x11=[some (.d sd),some (.d (.int f)),some (.d (.int most)),some (.d (.int hands)),some (.c n),x5,some (.c (n+1)),some (.c (n+2)),x8,x9,x10,x11]:=fun n x5 x8 x9 x10 x11=>by rw [esd];rfl
 have lS:∀ H,aY [.d sd] H=some (.d (.int S.length),H):=fun H=>by rw [esd];simp
 rw [<- esd];have erh:cU 0 hands=true:=cL (by omega) (by omega);refine syP [some (.d sd),some (.d (.int f)),some (.d (.int most)),some (.d (.int hands)),some (.c h.length),none,none,none,none,none,none,none] (h++[.l ([0,0,0,0,0,0,0,0].map .int)]) (by simp [szl]) ?_;refine syP [some (.d sd),some (.d (.int f)),some (.d (.int most)),some (.d (.int hands)),some (.c h.length),none,some (.c (h.length+1)),none,none,none,none,none] (h++[.l ([0,0,0,0,0,0,0,0].map .int),.l ((List.range hands).map fun _=>.none)]) ?_ ?_
 ·simp [erh];rw [vY,cmM nI (fun _=>.none) (fun δ=>∃ u,δ=[u]) _ _ ⟨_,rfl⟩ fun i hi δ hδ=>?_]
  ·simp
  ·obtain ⟨u,rfl⟩:=hδ;exact ⟨_,rfl,⟨_,rfl⟩,rfl⟩
 obtain ⟨H0,hH0⟩:∃ H0,H0=h++[Cell.l ([0,0,0,0,0,0,0,0].map .int),.l ((List.range hands).map fun _=>.none),.l []]:=⟨_,rfl⟩;refine syP (dL S f most hands h.length none none none none none) H0 (by simp [eD,hH0]) ?_;have hs0:Hs h.length [0,0,0,0,0,0,0,0] (List.replicate hands none) [] H0:=by
  have none_:∀ (q i:Nat) (w:Rw),(List.replicate hands (none:Option (Nat×Rw)))[q]?=some (some (i,w))->False:=fun q i w e=>by
   rw [List.getElem?_replicate] at e;split at e<;>cases e
  refine ⟨rfl,by rw [hH0];simp,?_,by rw [hH0];simp,fun q i w e=>(none_ q i w e).elim,fun q q' i w w' e=>(none_ q i w e).elim⟩;have e1:H0[h.length+1]?=some (.l ((List.range hands).map fun _=>.none)):=by rw [hH0];simp
  have e2:wsC (h.length+1) H0=some (((List.range hands).map fun _=>PyData.none).map W.d):=by unfold wsC;rw [e1]
  rw [e2]
  congr 1
  apply List.ext_getElem
  ·simp
  ·intro i z1 z2;simp [rwW]
 have tm0:Tm f (List.replicate hands none) []:=by
  have none_:∀ (q i:Nat) (w:Rw),(List.replicate hands (none:Option (Nat×Rw)))[q]?=some (some (i,w))->False:=fun q i w e=>by
   rw [List.getElem?_replicate] at e;split at e<;>cases e
  exact ⟨(fun _ z=>nomatch z),.nil,(fun _ z=>nomatch z),fun q i w e=>(none_ q i w e).elim,fun q i w e=>(none_ q i w e).elim,fun q q' i i' w w' e=>(none_ q i w e).elim⟩
 have b0:∀ i,i < h.length->H0[i]?=h[i]?:=fun i hi=>by rw [hH0,List.getElem?_append_left hi]
 -- the draws
 obtain ⟨top,htop⟩:∃ top,top=min S.length 63:=⟨_,rfl⟩;have et:min (S.length:Int) 63=(top:Nat):=by omega
 refine syE (IL S f most hands h (f+(top - f))) ?_ ?_
 ·have er:cU f top=true:=jM (by omega) (by omega);have tn:((top:Int) - (f:Int)).toNat=top - f:=by omega
  refine yG ((rng f (top - f),none),H0) (by simp [eD,lS,xMn,et,er,tn]) ?_;show ∃ δ2 h2,bB (YG 8) (bI (d+4)) none (rng f (top - f)) (rng f (top - f)) _ _=some (.nx δ2,h2)/\_;refine dJ (fun m δ H=>IL S f most hands h (f+m) δ H) ⟨_,_,_,hs0,tm0,by simp,by rw [aN0];simp,b0,_,_,_,_,_,rfl⟩ (fun δ H=>by rw [CI.rng_len];exact id) fun m hm δ H=>?_;rintro ⟨st,rs,ds,hs,tm,hl,hc,hb,x5,x8,x9,x10,x11,rfl⟩;have hm':m < top - f:=by simpa [rng] using hm
  have em:(rng f (top - f))[m]=nI (f+m):=by simp [rng,nI]
  rw [em];exact ⟨_,_,rfl,aW3 d S h (by omega) h0 h6 (by omega:f+m < S.length) x5 x8 x9 x10 x11 hs tm hl hc hb⟩
 rintro _ H1 ⟨st,rs,ds,hs,tm,hl,hc,hb,x5,x8,x9,x10,x11,rfl⟩
 -- what never ended
 refine syE (IE S f most hands h st rs hands) ?_ ?_
 ·refine yG ((rng 0 hands,none),H1) (by simp [eD,erh]) ?_;show ∃ δ2 h2,bB (YG 5) (bH (d+4)) none (rng 0 hands) (rng 0 hands) _ _=some (.nx δ2,h2)/\_;rw [vY];refine dJ (fun m δ H=>IE S f most hands h st rs m δ H) ⟨ds,hs,tm.ok,tm.pw,by simpa using hc,fun q i w _ e=>(tm.rb q i w e).2,hb,(fun x hx=>by obtain ⟨p,h1,h2,h3⟩:=tm.lt x hx;exact ⟨by omega,fun p' e=>by rw [h1] at e;injection e with e;subst e;omega⟩),_,_,_,_,_,rfl⟩ (fun δ H=>by simp) fun m hm δ H I=>?_;have hm':m < hands:=by simpa using hm
  have em:((List.range hands).map nI)[m]=nI m:=by simp
  rw [em];exact bK8 (d+4) S h (by omega) h6 (by omega) tm hl hm' I
 rintro _ H2 ⟨ds,hs,ok,pw,hc,rb,hb,sm,x5,x8,x9,x10,x11,rfl⟩;have hd:=hs.d;have hln:ds.length<=60:=by omega
 obtain ⟨L,p,t1,t2,t3⟩:=tN (d+3) (h:=h) S hd hln;have lD:aY [.c (h.length+2)] H2=some (.d (.int ds.length),H2):=by simp [aY,ref,hd]
 have er2:cU 0 ds.length=true:=cL (by omega) (by omega);rw [<- esd] at t1;have t1':=t1 none;have t3':=t3 none none;simp only [dR,fF,fU,fT,fV,fX,fW,fR,fS,bdi,show d+3+1=d+4 from rfl] at t1' t3';refine syP (dL S f most hands h.length x5 x8 x9 x10 (some (.d (.list (L.map (prI fun i=>dwF (clS S 0) i)))))) H2 (by
  simp [eD,lD,er2,t1',t2]) ?_
 refine ⟨L.map fun i=>ds.getD i dfD,HOk.perm (iJ p) ⟨ok,pw,hln⟩,sm.perm (iJ p),?_⟩;have hH2:=(List.getElem?_eq_some_iff.mp hd).1;have ek:=fun z=>aT (z:=z) hb (by omega);simp [eD,t3',ek]
end K46

namespace K46
open PySem PySem.Spec PyProof.Rows L2 DL CI SJ
def c_free (d:Nat) {H:aA} {j:Nat} {fs:List Int} (e:H[j]?=some (.l (fs.map .int))) {hands q0:Nat} (hl:fs.length=hands) (h0:0 < hands) (h6:hands<=6) (b:Int) :
  aD T (d+1) "_law_free" [.c j,.d (.int hands),.d (.int q0),.d (.int b)] H=some (.none,H)\/∃ q:Nat,q < hands/\fs.getD q 0 < b/\aD T (d+1) "_law_free" [.c j,.d (.int hands),.d (.int q0),.d (.int b)] H=some (.int q,H):=by
 have er:cU 0 hands=true:=cL (by omega) (by omega);have hp:0 < hands:=h0;have eS:∀ z:PyData,aM H (.rt (.d z),H)=some (z,H):=fun z=>aT (fun _ _=>rfl) (Nat.le_refl _);rcases forX_find (g:=YG 4) (tb:=cX d) (all:=(List.range hands).map nI) (h:=H) nI (fun k=>if fs.getD ((q0+k)%hands) 0 < b then some ((q0+k)%hands) else none) (fun q:Nat=>.d (nI q)) (fun δ=>∃ u,δ=[some (.c j),some (.d (.int hands)),some (.d (.int q0)),some (.d (.int b)),u]) (List.range hands) ⟨none,rfl⟩ (by
  rintro k hk δ ⟨u,rfl⟩;refine ⟨_,rfl,?_⟩;have hm:(q0+k)%hands < hands:=Nat.mod_lt _ hp;have em:((q0:Int)+k)%hands=((q0+k)%hands:Nat):=by norm_cast
  have ix:xIx (.c j) (.d (.int ((q0+k)%hands:Nat))) H=some (.d (.int (fs.getD ((q0+k)%hands) 0)),H):=by rw [iR e,iG (by omega)];rfl
  generalize fs.getD ((q0+k)%hands) 0=v at *;generalize (q0+k)%hands=m at *;unfold cX
  by_cases c:v < b
  ·exact .inl ⟨m,by simp [c],by simp [nI,hp,em,ix,c]⟩
  ·exact .inr ⟨by simp [c],_,by simp [nI,hp,em,ix,c];rfl,_,rfl⟩) with ⟨q,hq,eq⟩ | ⟨_,δ',⟨u,rfl⟩,eq⟩
 ·obtain ⟨k,hk,ek⟩:=List.exists_of_findSome?_eq_some hq;split at ek
  ·rename_i c;injection ek with ek
   refine .inr ⟨q,by rw [<- ek];exact Nat.mod_lt _ hp,by rw [<- ek];exact c,?_⟩;simp only [dR] at eq;simp [kM,er,vY,eq,eS,nI]
  ·cases ek
 ·refine .inl ?_;simp only [dR] at eq;simp [kM,er,vY,eq,eS]
noncomputable def dE (S:List Int) (am hands n:Nat) (x6 x7 x8 x9 x10 x11 x12 x13:Option W):DSt:=[some (.d (.list (S.map .int))),some (.d (.int am)),some (.d (.int hands)),some (.c n),some (.c (n+2)),some (.c (n+3)),x6,x7,x8,x9,x10,x11,x12,x13]
def cE (h:aA) (st fs:List Int) (ds:List Dd):aA:=h++[.l (st.map .int),.l [.int (-1)],.l (fs.map .int),.l (ds.map Dd.dat)]
def Dn (k:Nat) (fs:List Int) (x:Dd):Prop:=∃ j,j < k/\x.beg=10*j/\((x.fin=none/\1000000<=fs.getD x.hand 0)\/∃ l a,l<=2/\x.fin=some (10*(j+l)+1+l,a)/\(10*((j:Int)+l)+1+l)<=fs.getD x.hand 0)
structure Ds (k:Nat) (fs:List Int) (ds:List Dd):Prop where
 ok:∀ x∈ds,x.ok
 pw:ds.Pairwise Tog
 dn:∀ x∈ds,Dn k fs x
def Ds.keep {k:Nat} {fs:List Int} {ds:List Dd} (t:Ds k fs ds):Ds (k+1) fs ds:=⟨t.ok,t.pw,fun x hx=>by
 obtain ⟨j,h1,h2⟩:=t.dn x hx;exact ⟨j,by omega,h2⟩⟩
noncomputable def dv (k l:Nat):Option (Option SJ.Ans)->Int
 | some _=>10*((k:Int)+l)+1+l
 | none=>1000000
def Ds.add {k:Nat} {fs:List Int} {ds:List Dd} (t:Ds k fs ds) {q:Nat} (hq:q < fs.length) (h5:q<=5) (hk:k<=1000) (hf:fs.getD q 0 < 10*(k:Int)) {c:SJ.Call} (hc:c.ok) {l:Nat} (hl:l<=2) (a:Option (Option SJ.Ans)) (ha:∀ b,a=some (some b)->Ans.fits c b) :
  Ds (k+1) (fs.set q (dv k l a)) (ds++[⟨q,10*k,c,a.map fun b=>(10*(k+l)+1+l,b)⟩]):=by
 obtain ⟨v,hv⟩:∃ v,v=(dv k l a):=⟨_,rfl⟩;rw [<- hv];have hv':10*(k:Int) < v:=by rw [hv];unfold dv;split<;>omega
 have gs:∀ p,(fs.set q v).getD p 0=if q=p then v else fs.getD p 0:=fun p=>by
  simp only [List.getD,List.getElem?_set];split
  ·simp [hq]
  ·rfl
 refine ⟨fun x hx=>?_,rB t.pw fun x hx=>?_,fun x hx=>?_⟩
 ·rcases List.mem_append.mp hx with hx | hx
  ·exact t.ok x hx
  ·rw [List.mem_singleton.mp hx];refine ⟨h5,hc,fun p z=>?_⟩;cases a with
   | none=>cases z
   | some b =>
    injection z with z
    subst z;exact ⟨by dsimp only;omega,fun b' e=>ha b' (by rw [<- e])⟩
 ·obtain ⟨j,h1,h2,h3⟩:=t.dn x hx;have tx:∀ z∈x.tms,z=10*(j:Int)\/∃ l:Nat,l<=2/\z=10*((j:Int)+l)+1+l:=fun z hz=>by
   unfold Dd.tms at hz;rcases List.mem_cons.mp hz with hz | hz
   ·exact .inl (by omega)
   ·rcases h3 with ⟨h3,_⟩ | ⟨l',a',h4,h5,_⟩
    ·rw [h3] at hz;cases hz
    ·rw [h5] at hz;exact .inr ⟨l',h4,by have:=List.mem_singleton.mp hz;omega⟩
  have ty:∀ z∈(Dd.mk q (10*k) c (a.map fun b=>(10*(k+l)+1+l,b))).tms,z=10*(k:Int)\/z=10*((k:Int)+l)+1+l:=fun z hz=>by
   unfold Dd.tms at hz;rcases List.mem_cons.mp hz with hz | hz
   ·exact .inl (by dsimp only at hz;omega)
   ·cases a with
    | none=>cases hz
    | some b=>exact .inr (by have:=List.mem_singleton.mp hz;dsimp only at this;omega)
  refine ⟨fun z z1 z2=>?_,?_⟩
  ·rcases tx z z1 with e1 | ⟨l',e0,e1⟩<;>rcases ty z z2 with e2 | e2<;>omega
  ·by_cases e:x.hand=q
   ·refine .inr (.inl ?_);subst e;rcases h3 with ⟨h3,h4⟩ | ⟨l',a',h4,h5,h6⟩
    ·omega
    ·simp only [Dd.below,h5];exact decide_eq_true (by omega)
   ·exact .inl e
 ·rcases List.mem_append.mp hx with hx | hx
  ·obtain ⟨j,h1,h2,h3⟩:=t.dn x hx;refine ⟨j,by omega,h2,?_⟩;rw [gs]
   by_cases e:q=x.hand
   ·rw [if_pos e];subst e;rcases h3 with ⟨h3,h4⟩ | ⟨l',a',h4,h5,h6⟩
    ·exact .inl ⟨h3,by omega⟩
    ·exact .inr ⟨l',a',h4,h5,by omega⟩
   ·rw [if_neg e];exact h3
  ·rw [List.mem_singleton.mp hx];refine ⟨k,by omega,rfl,?_⟩;rw [gs,if_pos rfl];cases a with
   | none=>exact .inl ⟨rfl,by rw [hv];exact Int.le_refl _⟩
   | some b=>exact .inr ⟨l,b,hl,rfl,by rw [hv];exact Int.le_refl _⟩
def ID (S:List Int) (am hands:Nat) (h:aA) (k m:Nat) (δ:DSt) (H:aA):Prop:=∃ st fs ds,st.length=8/\fs.length=hands/\Ds k fs ds/\ds.length<=m/\H=cE h st fs ds/\∃ x6 x7 x8 x9 x10 x11 x12 x13,δ=dE S am hands h.length x6 x7 x8 x9 x10 x11 x12 x13
section
variable (h:aA) (st fs:List Int) (ds:List Dd)
def ce0:(cE h st fs ds)[h.length]?=some (.l (st.map .int)):=by simp [cE]
def ce2:(cE h st fs ds)[h.length+2]?=some (.l (fs.map .int)):=by simp [cE]
def ce3:(cE h st fs ds)[h.length+3]?=some (.l (ds.map Dd.dat)):=by simp [cE]
def cs0 (st':List Int):(cE h st fs ds).set h.length (.l (st'.map .int))=cE h st' fs ds:=by simp [cE]
def cs2 (fs':List Int):(cE h st fs ds).set (h.length+2) (.l (fs'.map .int))=cE h st fs' ds:=by simp [cE]
def cs3 (x:Dd):(cE h st fs ds).set (h.length+3) (.l (ds.map Dd.dat++[x.dat]))=cE h st fs (ds++[x]):=by simp [cE]
def bX1 {q:Nat} (hq:q < fs.length) (v:Int) (δ:DSt):fL (h.length+2) (.int q) (.int v) δ (cE h st fs ds)=some (δ,cE h st (fs.set q v) ds):=by
 rw [bW8 (ce2 h st fs ds) (by simpa using hq),<- cs2 h st fs ds (fs.set q v),List.map_set]
end
end K46

namespace K46
open PySem PySem.Spec PyProof.Rows L2 DL CI SJ
def bD:Option (Option SJ.Ans)->PyData
 | some b=>anD b
 | none=>.none
noncomputable def bE (k l:Nat):Option (Option SJ.Ans)->PyData
 | some _=>.int (10*((k:Int)+l)+1+l)
 | none=>.none
def ypT {x:Option (Bool×aA)} {A B:Bool×aA->Option (Fl×aA)} {P:DSt->aA->Prop} (h:aA) (e:x=some (true,h)) (k:∃ δ2 h2,A (true,h)=some (.nx δ2,h2)/\P δ2 h2):∃ δ2 h2,YP (YP x fun p=>if p.1=true then A p else B p) YE=some (.nx δ2,h2)/\P δ2 h2:=by
 obtain ⟨δ2,h2,e2,p⟩:=k;refine ⟨δ2,h2,?_,p⟩;rw [e];show YP (if true=true then A (true,h) else B (true,h)) YE=_;rw [if_pos rfl,e2];rfl
def aN1 (d:Nat) (S:List Int) {am hands:Nat} (h:aA) (h0:0 < hands) (h6:hands<=6) {k m:Nat} (hk:k < S.length) (hk':k<=100) (hm:m<=100) {st fs:List Int} {ds:List Dd} (x7 x8 x9 x10 x11 x12 x13:Option W)
  (sl:st.length=8) (fl:fs.length=hands) (t:Ds k fs ds) (hc:ds.length<=m) :
  ∃ δ2 h2,bU (d+4) (dE S am hands h.length (some (.d (.int k))) x7 x8 x9 x10 x11 x12 x13) (cE h st fs ds)=some (.nx δ2,h2)/\ID S am hands h (k+1) (m+1) δ2 h2:=by
 have ik:=iG hk;obtain ⟨cv,hcv⟩:∃ cv,cv=S.getD k 0:=⟨_,rfl⟩;obtain ⟨w,hw⟩:∃ w,w=dwF cv 20:=⟨_,rfl⟩;have dw:∀ H,aD T (d+4) (Str.ofString "_law_drawn") [.d (.int cv),.d (.int 20)] H=some (.int w,H):=fun H=>by rw [hw];exact iI (d+3) H cv 20
 rw [<- hcv] at ik;obtain ⟨sd,esd⟩:∃ sd,sd=PyData.list (S.map .int):=⟨_,rfl⟩;have ikx:∀ H,xIx (.d sd) (.d (.int k)) H=some (.d (.int cv),H):=fun H=>by rw [esd];simp [ik]
 have eD:∀ n x6 x7 x8 x9 x10 x11 x12 x13,dE S am hands n x6 x7 x8 x9 x10 x11 x12 x13=[some (.d sd),some (.d (.int am)),some (.d (.int hands)),some (.c n),some (.c (n+2)),some (.c (n+3)),x6,x7,x8,x9,x10,x11,x12,x13]:=fun n x6 x7 x8 x9 x10 x11 x12 x13=>by rw [esd];rfl
 obtain ⟨q0,hq0,eq0⟩:∃ q:Nat,q < hands/\w%(hands:Int)=q:=by
  have a1:=Int.emod_nonneg w (b:=(hands:Int)) (by omega);have a2:=Int.emod_lt_of_pos w (b:=(hands:Int)) (by omega);exact ⟨(w%(hands:Int)).toNat,by omega,by omega⟩
 have hp:0 < hands:=h0;have m10:∀ j,gE 10 j=true:=fun j=>iE (by decide) (by decide) j;have e8:cG 8=true:=by decide
 have e32:cG 32=true:=by decide
 have e512:cG 512=true:=by decide
 have p6:lR 10 6=true:=by decide
 unfold bU;refine sys (dE S am hands h.length (some (.d (.int k))) (some (.d (.int w))) x8 x9 x10 x11 x12 x13) (cE h st fs ds) (by simp [eD,ikx,dw]) ?_;rcases c_free (d+3) (ce2 h st fs ds) fl h0 h6 (q0:=q0) (10*(k:Int)) with e1 | ⟨q,hq,hfq,e1⟩
 ·have e1:aD T (d+4) (Str.ofString "_law_free") [.c (h.length+2),.d (.int hands),.d (.int q0),.d (.int (10*(k:Int)))] (cE h st fs ds)=some (.none,cE h st fs ds):=e1;refine sys (dE S am hands h.length (some (.d (.int k))) (some (.d (.int w))) (some (.d .none)) x9 x10 x11 x12 x13) (cE h st fs ds) (by simp [eD,hp,eq0,m10,e1]) ?_;exact ⟨dE S am hands h.length (some (.d (.int k))) (some (.d (.int w))) (some (.d .none)) x9 x10 x11 x12 x13,cE h st fs ds,by simp [eD],st,fs,ds,sl,fl,t.keep,by omega,rfl,_,_,_,_,_,_,_,_,rfl⟩
 have e1:aD T (d+4) (Str.ofString "_law_free") [.c (h.length+2),.d (.int hands),.d (.int q0),.d (.int (10*(k:Int)))] (cE h st fs ds)=some (.int q,cE h st fs ds):=e1;refine sys (dE S am hands h.length (some (.d (.int k))) (some (.d (.int w))) (some (.d (.int q))) x9 x10 x11 x12 x13) (cE h st fs ds) (by simp [eD,hp,eq0,m10,e1]) ?_;refine ypT (cE h st fs ds) (by simp [eD]) ?_;obtain ⟨c,hcc⟩:∃ c,c=clF cv 0:=⟨_,rfl⟩;have co:c.ok:=by rw [hcc];exact bA0 _ _
 have cl:aD T (d+4) (Str.ofString "_law_call") [.d (.int cv),.d (.int 0)] (cE h st fs ds)=some (c.dat,cE h st fs ds):=by rw [hcc];exact aL9 (d+2) _ cv 0
 have dn:=aM3 (d+2) (ce0 h st fs ds) sl co;rw [cs0] at dn;have dn:aD T (d+4) (Str.ofString "_law_done") [.c h.length,.d c.dat] (cE h st fs ds)=some ((dnC st c).1.dat,cE h (dnC st c).2 fs ds):=dn;have fa:=tJ co sl;have sl':=yC (c:=c) sl;generalize dnC st c=D at dn fa sl';obtain ⟨a,st'⟩:=D;dsimp only at dn fa sl';refine sys (dE S am hands h.length (some (.d (.int k))) (some (.d (.int w))) (some (.d (.int q))) (some (.d c.dat)) x10 x11 x12 x13) (cE h st fs ds) (by simp [eD,ikx,cl]) ?_;refine sys (dE S am hands h.length (some (.d (.int k))) (some (.d (.int w))) (some (.d (.int q))) (some (.d c.dat)) (some (.d a.dat)) x11 x12 x13) (cE h st' fs ds) (by simp [eD,dn]) ?_;obtain ⟨l,hl2,el⟩:∃ l:Nat,l<=2/\w / 8%3=l:=⟨(w / 8%3).toNat,by omega,by omega⟩;refine sys (dE S am hands h.length (some (.d (.int k))) (some (.d (.int w))) (some (.d (.int q))) (some (.d c.dat)) (some (.d a.dat)) (some (.d (.int l))) x12 x13) (cE h st' fs ds) (by simp [eD,e8,el]) ?_;refine sys (dE S am hands h.length (some (.d (.int k))) (some (.d (.int w))) (some (.d (.int q))) (some (.d c.dat)) (some (.d a.dat)) (some (.d (.int l))) (some (.d (.int (10*((k:Int)+l)+1+l)))) x13) (cE h st' fs ds) (by simp [eD,m10]) ?_;have hqf:q < fs.length:=by omega
 have cp:=fun v δ=>bX1 h st' fs ds hqf v δ;refine sys (dE S am hands h.length (some (.d (.int k))) (some (.d (.int w))) (some (.d (.int q))) (some (.d c.dat)) (some (.d a.dat)) (some (.d (.int l))) (some (.d (.int (10*((k:Int)+l)+1+l)))) x13) (cE h st' (fs.set q (10*((k:Int)+l)+1+l)) ds) (by simp [eD,cp,-qR]) ?_
 -- the end
 have FIN:∀ b:Option (Option SJ.Ans),(∀ a',b=some (some a')->Ans.fits c a')->∃ δ2 h2,YP (YP (xb (aB 5) ((YA (Y1 (xb (xPl (Y5 (aB 8) (xb (YJ 10) fun u=>xb (aB 6) (YO .Mult u)) (aB 12) (aB 9) (aB 10))) YT)))) (dE S am hands h.length (some (.d (.int k))) (some (.d (.int w))) (some (.d (.int q))) (some (.d c.dat)) (some (.d (bD b))) (some (.d (.int l))) (some (.d (bE k l b))) x13) (cE h st' (fs.set q (dv k l b)) ds)) fun p=>some (Fl.nx (dE S am hands h.length (some (.d (.int k))) (some (.d (.int w))) (some (.d (.int q))) (some (.d c.dat)) (some (.d (bD b))) (some (.d (.int l))) (some (.d (bE k l b))) x13),p.2)) YE=some (.nx δ2,h2)/\ID S am hands h (k+1) (m+1) δ2 h2:=fun b hb=>by
  have c3:=ce3 h st' (fs.set q (dv k l b)) ds;have hz:ds.length < 16777216:=by omega
  have t2:=t.add hqf (by omega) (by omega) hfq co hl2 b hb;have y:=cs3 h st' (fs.set q (dv k l b)) ds ⟨q,10*k,c,b.map fun b=>(10*(k+l)+1+l,b)⟩;have yd:(Dd.mk q (10*k) c (b.map fun b=>(10*(k+l)+1+l,b))).dat=.tuple [.int q,.int (10*(k:Int)),bE k l b,c.dat,bD b]:=by
   cases b with
   | none=>simp [Dd.dat,Dd.endD,Dd.ansD,bE,bD]
   | some b=>simp [Dd.dat,Dd.endD,Dd.ansD,bE,bD]
  rw [yd] at y;have mp:iV "append" (.c (h.length+3)) (cE h st' (fs.set q (dv k l b)) ds)=true:=by simp [iV,c3]
  refine ⟨dE S am hands h.length (some (.d (.int k))) (some (.d (.int w))) (some (.d (.int q))) (some (.d c.dat)) (some (.d (bD b))) (some (.d (.int l))) (some (.d (bE k l b))) x13,cE h st' (fs.set q (dv k l b)) (ds++[⟨q,10*k,c,b.map fun b=>(10*(k+l)+1+l,b)⟩]),by simp [eD,m10,szl,mp,c3,hz,y],st',_,_,sl',by simpa using fl,t2,by simp;omega,rfl,_,_,_,_,_,_,_,_,rfl⟩
 by_cases g0:w / 32%9=0
 ·refine sys (dE S am hands h.length (some (.d (.int k))) (some (.d (.int w))) (some (.d (.int q))) (some (.d c.dat)) (some (.d (bD (some none)))) (some (.d (.int l))) (some (.d (bE k l (some none)))) x13) (cE h st' (fs.set q (dv k l (some none))) ds) (by simp [eD,e32,g0,szl,bD,bE,anD,aL5,dv]) (FIN (some none) (fun _ z=>nomatch z))
 by_cases g1:w / 32%9=1
 ·obtain ⟨a',f1,f2⟩:=aM5 (d+2) (cE h st' (fs.set q (10*((k:Int)+l)+1+l)) ds) co fa (w / 512);have f2:aD T (d+4) (Str.ofString "_law_bent") [.d a.dat,.d (.int (w / 512))] (cE h st' (fs.set q (10*((k:Int)+l)+1+l)) ds)=some (a'.dat,(cE h st' (fs.set q (10*((k:Int)+l)+1+l)) ds)):=f2;refine sys (dE S am hands h.length (some (.d (.int k))) (some (.d (.int w))) (some (.d (.int q))) (some (.d c.dat)) (some (.d (bD (some (some a'))))) (some (.d (.int l))) (some (.d (bE k l (some (some a'))))) x13) (cE h st' (fs.set q (dv k l (some (some a')))) ds) (by simp [eD,e32,e512,g1,f2,bD,bE,anD,dv]) (FIN (some (some a')) (fun _ z=>by injection z with z;injection z with z;subst z;exact f1))
 by_cases g2:w / 32%27=2
 ·have cp2:=fun v δ=>bX1 h st' (fs.set q (10*((k:Int)+l)+1+l)) ds (by simpa using hqf:q < (fs.set q (10*((k:Int)+l)+1+l)).length) v δ;simp only [List.set_set] at cp2;refine sys (dE S am hands h.length (some (.d (.int k))) (some (.d (.int w))) (some (.d (.int q))) (some (.d c.dat)) (some (.d (bD none))) (some (.d (.int l))) (some (.d (bE k l none))) x13) (cE h st' (fs.set q (dv k l none)) ds) (by simp [eD,e32,g0,g1,g2,p6,cp2,bD,bE,dv,-qR]) (FIN none (fun _ z=>nomatch z))
 ·refine sys (dE S am hands h.length (some (.d (.int k))) (some (.d (.int w))) (some (.d (.int q))) (some (.d c.dat)) (some (.d (bD (some (some a))))) (some (.d (.int l))) (some (.d (bE k l (some (some a))))) x13) (cE h st' (fs.set q (dv k l (some (some a)))) ds) (by simp [eD,e32,g0,g1,g2,bD,bE,anD,dv]) (FIN (some (some a)) (fun _ z=>by injection z with z;injection z with z;subst z;exact fa))
end K46

namespace K46
open PySem PySem.Spec PyProof.Rows L2 DL CI SJ
theorem bX2:∀ n:Nat,(List.replicate n [PyData.int (-1)]).flatten=(List.replicate n (-1:Int)).map PyData.int
 | 0=>rfl
 | n+1=>by rw [List.replicate_succ,List.flatten_cons,bX2 n,List.replicate_succ];rfl
def aW4 (d:Nat) (h:aA) (S:List Int) {am hands:Nat} (ha:am<=60) (h0:0 < hands) (h6:hands<=6):∃ hs:List Dd,HOk hs/\Sm hs/\aD T (d+5) "_law_dense" [.d (.list (S.map .int)),.d (.int am),.d (.int hands)] h=some (.tuple (hs.map Dd.dat),h):=by
 rw [show d+5=(d+4)+1 from rfl,qY];show RH h _;obtain ⟨sd,esd⟩:∃ sd,sd=PyData.list (S.map .int):=⟨_,rfl⟩;have eD:∀ n x6 x7 x8 x9 x10 x11 x12 x13,dE S am hands n x6 x7 x8 x9 x10 x11 x12 x13=[some (.d sd),some (.d (.int am)),some (.d (.int hands)),some (.c n),some (.c (n+2)),some (.c (n+3)),x6,x7,x8,x9,x10,x11,x12,x13]:=fun n x6 x7 x8 x9 x10 x11 x12 x13=>by rw [esd];rfl
 have lS:∀ H,aY [.d sd] H=some (.d (.int S.length),H):=fun H=>by rw [esd];simp
 rw [<- esd];refine syP [some (.d sd),some (.d (.int am)),some (.d (.int hands)),some (.c h.length),none,none,none,none,none,none,none,none,none,none] (h++[.l ([0,0,0,0,0,0,0,0].map .int)]) (by simp [szl]) ?_;have rp:=bX2 hands;refine syP [some (.d sd),some (.d (.int am)),some (.d (.int hands)),some (.c h.length),some (.c (h.length+2)),none,none,none,none,none,none,none,none,none] (h++[.l ([0,0,0,0,0,0,0,0].map .int),.l [.int (-1)],.l ((List.replicate hands (-1:Int)).map .int)]) ?_ ?_
 ·have b1:(-9223372036854775808:Int)<=hands:=by omega
  have b2:(hands:Int) < 9223372036854775808:=by omega
  have b3:hands<=16777216:=by omega
  simp [szl,b1,b2,b3,rp]
 refine syP (dE S am hands h.length none none none none none none none none) (cE h [0,0,0,0,0,0,0,0] (List.replicate hands (-1)) []) (by simp [eD,cE]) ?_;obtain ⟨top,htop⟩:∃ top,top=min S.length (2+am):=⟨_,rfl⟩;have et:min (S.length:Int) (2+(am:Int))=(top:Nat):=by omega
 refine syE (ID S am hands h (2+(top - 2)) (top - 2)) ?_ ?_
 ·have er:cU 2 top=true:=jM (i:=2) (by omega) (by omega);have tn:((top:Int) - 2).toNat=top - 2:=by omega
  refine yG ((rng 2 (top - 2),none),cE h [0,0,0,0,0,0,0,0] (List.replicate hands (-1)) []) (by simp [eD,lS,xMn,et,er,tn]) ?_;show ∃ δ2 h2,bB (YG 6) (bU (d+4)) none (rng 2 (top - 2)) (rng 2 (top - 2)) _ _=some (.nx δ2,h2)/\_;refine dJ (fun m δ H=>ID S am hands h (2+m) m δ H) ⟨[0,0,0,0,0,0,0,0],List.replicate hands (-1),[],rfl,by simp,⟨(fun _ z=>nomatch z),.nil,(fun _ z=>nomatch z)⟩,by simp,rfl,_,_,_,_,_,_,_,_,rfl⟩ (fun δ H=>by rw [CI.rng_len];exact id) fun m hm δ H=>?_;rintro ⟨st,fs,ds,sl,fl,t,hc,rfl,x6,x7,x8,x9,x10,x11,x12,x13,rfl⟩;have hm':m < top - 2:=by simpa [rng] using hm
  have em:(rng 2 (top - 2))[m]=nI (2+m):=by simp [rng,nI]
  rw [em];exact ⟨_,_,rfl,aN1 d S h h0 h6 (by omega:2+m < S.length) (by omega) (by omega) x7 x8 x9 x10 x11 x12 x13 sl fl t hc⟩
 rintro _ _ ⟨st,fs,ds,sl,fl,t,hc,rfl,x6,x7,x8,x9,x10,x11,x12,x13,rfl⟩;have hd:=ce3 h st fs ds;have hln:ds.length<=60:=by omega
 obtain ⟨L,p,t1,t2,t3⟩:=tN (d+3) (h:=h) S hd hln;have lD:aY [.c (h.length+3)] (cE h st fs ds)=some (.d (.int ds.length),cE h st fs ds):=by simp [aY,ref,hd]
 have er2:cU 0 ds.length=true:=cL (by omega) (by omega);rw [<- esd] at t1;have t1':=t1 none;have t3':=t3 none none;simp only [dR,fF,fU,fT,fV,fX,fW,fR,fS,bdi,show d+3+1=d+4 from rfl] at t1' t3';refine syP (dE S am hands h.length x6 x7 x8 x9 x10 x11 x12 (some (.d (.list (L.map (prI fun i=>dwF (clS S 0) i)))))) (cE h st fs ds) (by
  simp [eD,lD,er2,t1',t2]) ?_
 refine ⟨L.map fun i=>ds.getD i dfD,HOk.perm (iJ p) ⟨t.ok,t.pw,hln⟩,Sm.perm (iJ p) (fun x hx=>?_),?_⟩
 ·obtain ⟨j,h1,h2,h3⟩:=t.dn x hx;refine ⟨by omega,fun p e=>?_⟩;rcases h3 with ⟨h3,_⟩ | ⟨l,a,h4,h5,_⟩
  ·rw [h3] at e;cases e
  ·rw [h5] at e;injection e with e
   subst e;dsimp only;omega
 have ek:=fun z=>aT (z:=z) (h:=h) (H:=cE h st fs ds) (fun i hi=>by unfold cE;rw [List.getElem?_append_left hi]) (by simp [cE]);simp [eD,t3',ek]
noncomputable def fD (f:Nat) (x:Dd):Dd:=⟨x.hand,x.beg*f,x.call,x.fin.map fun p=>(p.1*f,p.2)⟩
def bX3 {f:Nat} (hf:0 < f) {x:Dd} (h:x.ok):(fD f x).ok:=by
 refine ⟨h.hand,h.call,fun p e=>?_⟩;unfold fD at e;cases z:x.fin with
 | none=>rw [z] at e;cases e
 | some q =>
  rw [z] at e;injection e with e
  subst e;obtain ⟨h1,h2⟩:=h.fin q z;exact ⟨Nat.mul_lt_mul_of_pos_right h1 hf,h2⟩
def bK9 (f:Nat) (x:Dd):(fD f x).tms=x.tms.map (·*(f:Int)):=by
 obtain ⟨a,b,c,e⟩:=x;cases e<;>simp [fD,Dd.tms]
def tO {f:Nat} (hf:0 < f) (x:Dd) (n:Nat):(fD f x).below (n*f)=x.below n:=by
 obtain ⟨a,b,c,e⟩:=x;cases e with
 | none=>rfl
 | some p =>
  simp only [fD,Dd.below,Option.map_some]
  congr 1
  exact propext (Nat.mul_lt_mul_right hf)
def bL0 {f:Nat} (hf:0 < f) {x y:Dd} (t:Tog x y):Tog (fD f x) (fD f y):=by
 refine ⟨fun z h1 h2=>?_,?_⟩
 ·rw [bK9] at h1 h2;obtain ⟨a,ha,rfl⟩:=List.mem_map.mp h1;obtain ⟨b,hb,e⟩:=List.mem_map.mp h2;have:b=a:=Int.eq_of_mul_eq_mul_right (by omega) e;subst this;exact t.ne _ ha hb
 ·have e1:(fD f x).below (fD f y).beg=x.below y.beg:=tO hf x _;have e2:(fD f y).below (fD f x).beg=y.below x.beg:=tO hf y _;rw [e1,e2];exact t.hd
def HOk.far {f:Nat} (hf:0 < f) {hs:List Dd} (h:HOk hs):HOk (hs.map (fD f)):=by
 refine ⟨fun x hx=>?_,?_,by simpa using h.len⟩
 ·obtain ⟨y,hy,rfl⟩:=List.mem_map.mp hx;exact bX3 hf (h.ok y hy)
 ·exact List.pairwise_map.mpr (h.pw.imp fun t=>bL0 hf t)
noncomputable def frF (r:Int):Nat:=if r%2=0 then 1 else 1000000000000000000000000000000000000
def bL1 (r:Int):0 < frF r:=by unfold frF;split<;>decide
def bX4 (d:Nat) (h:aA) {hs:List Dd} (ok:HOk hs) (sm:Sm hs) (r:Int):aD T (d+1) "_law_far" [.d (.tuple (hs.map Dd.dat)),.d (.int r)] h=some (.tuple ((hs.map (fD (frF r))).map Dd.dat),h):=by
 have p36:lR 10 36=true:=by decide
 have a2:atI [PyData.int 1,.int 1000000000000000000000000000000000000] (r%2)=some (.int (frF r)):=by
  unfold frF;have:r%2=0\/r%2=1:=by omega
  rcases this with z | z<;>rw [z]<;>simp
 have mk:∀ n:Nat,n < 10000->gE n (frF r)=true:=fun n hn=>iE (by omega) (by omega) _;generalize frF r=f at *;obtain ⟨ht,eht⟩:∃ ht,ht=PyData.tuple (hs.map Dd.dat):=⟨_,rfl⟩;rw [<- eht,vQ];refine sq (.rt (.d (.tuple ((hs.map (fD f)).map Dd.dat))),h++[.l ((hs.map (fD f)).map Dd.dat)]) ?_ (aT (fun i hi=>List.getElem?_append_left hi) (by simp));refine sy [some (.d ht),some (.d (.int r)),some (.d (.int f)),none,none,none,none,none,none] h (by simp [aN,p36,a2,szl]) ?_;refine sy [some (.d ht),some (.d (.int r)),some (.d (.int f)),some (.c h.length),none,none,none,none,none] (h++[.l []]) (by simp) ?_;have go:∃ δ' h',bB (aP [YG 4,YG 5,YG 6,YG 7,YG 8]) (gG d) none (hs.map Dd.dat) (hs.map Dd.dat) [some (.d ht),some (.d (.int r)),some (.d (.int f)),some (.c h.length),none,none,none,none,none] (h++[.l []])=some (.nx δ',h')/\((∃ x4 x5 x6 x7 x8,δ'=[some (.d ht),some (.d (.int r)),some (.d (.int f)),some (.c h.length),x4,x5,x6,x7,x8])/\h'=h++[.l ((hs.map (fD f)).map Dd.dat)]):=by
  refine dJ (fun m δ H=>(∃ x4 x5 x6 x7 x8,δ=[some (.d ht),some (.d (.int r)),some (.d (.int f)),some (.c h.length),x4,x5,x6,x7,x8])/\H=h++[.l (((hs.take m).map (fD f)).map Dd.dat)]) ⟨⟨_,_,_,_,_,rfl⟩,rfl⟩ (fun δ H=>by rw [List.length_map,List.take_length];exact id) fun m hm δ H=>?_;rintro ⟨⟨x4,x5,x6,x7,x8,rfl⟩,rfl⟩;have hm':m < hs.length:=by simpa using hm
  have hlt:m < 16777216:=by have:=ok.len;omega
  rw [List.getElem_map];obtain ⟨x,hx⟩:∃ x,x=hs[m]:=⟨_,rfl⟩;have tk:hs.take (m+1)=hs.take m++[x]:=by rw [List.take_succ_eq_append_getElem hm',hx]
  obtain ⟨s1,s2⟩:=sm x (by rw [hx];exact List.getElem_mem hm');rw [<- hx,tk,List.map_append,List.map_append];have ln:(((hs.take m).map (fD f)).map Dd.dat).length=m:=by simp;omega
  generalize ((hs.take m).map (fD f)).map Dd.dat=acc at ln;have mp:=CI.mpre_last h acc;have gl:=CI.get_last h (.l acc);have sl:=CI.set_last h (.l acc);obtain ⟨a,b,c,e⟩:=x;have m1:=mk b s1;cases e with
  | none =>
   refine ⟨[some (.d ht),some (.d (.int r)),some (.d (.int f)),some (.c h.length),some (.d (.int a)),some (.d (.int b)),some (.d .none),some (.d c.dat),some (.d .none)],h++[.l acc],by simp [Dd.dat,Dd.endD,Dd.ansD,aP,cT],[some (.d ht),some (.d (.int r)),some (.d (.int f)),some (.c h.length),some (.d (.int a)),some (.d (.int b)),some (.d .none),some (.d c.dat),some (.d .none)],h++[.l (acc++[(fD f ⟨a,b,c,none⟩).dat])],?_,⟨_,_,_,_,_,rfl⟩,rfl⟩;simp [mp,gl,sl,m1,ln,hlt,szl,fD,Dd.dat,Dd.endD,Dd.ansD]
  | some p =>
   have m2:=mk p.1 (s2 p rfl);refine ⟨[some (.d ht),some (.d (.int r)),some (.d (.int f)),some (.c h.length),some (.d (.int a)),some (.d (.int b)),some (.d (.int p.1)),some (.d c.dat),some (.d (anD p.2))],h++[.l acc],by simp [Dd.dat,Dd.endD,Dd.ansD,aP,cT],[some (.d ht),some (.d (.int r)),some (.d (.int f)),some (.c h.length),some (.d (.int a)),some (.d (.int b)),some (.d (.int (p.1*f:Nat))),some (.d c.dat),some (.d (anD p.2))],h++[.l (acc++[(fD f ⟨a,b,c,some p⟩).dat])],?_,⟨_,_,_,_,_,rfl⟩,rfl⟩;simp [mp,gl,sl,m1,m2,ln,hlt,szl,fD,Dd.dat,Dd.endD,Dd.ansD]
 obtain ⟨_,_,e,⟨x4,x5,x6,x7,x8,rfl⟩,rfl⟩:=go;refine sy [some (.d ht),some (.d (.int r)),some (.d (.int f)),some (.c h.length),x4,x5,x6,x7,x8] (h++[.l ((hs.map (fD f)).map Dd.dat)]) ?_ ?_
 ·refine sq ((hs.map Dd.dat,none),h++[.l []]) (by rw [eht];simp) e
 ·simp [aZ,ref]
end K46

namespace K46
open PySem PySem.Spec PyProof.Rows L2 DL CI SJ
def gD (hs:List Dd) (i:Nat):Dd:=hs.getD i dfD
def rD {hs:List Dd} {i:Nat} (hi:i < hs.length):gD hs i∈hs:=by
 unfold gD;rw [List.getD_eq_getElem?_getD,List.getElem?_eq_getElem hi];exact List.getElem_mem hi
def vZ {hs:List Dd} {i:Nat} (hi:i < hs.length):hs[i]=gD hs i:=by simp [gD,List.getD,hi]
def aN2 {hs:List Dd} (h:hs.Pairwise Tog) {i j:Nat} (hi:i < hs.length) (hj:j < hs.length) (hn:i≠j):Tog (gD hs i) (gD hs j):=by
 rw [<- vZ hi,<- vZ hj];rcases Nat.lt_or_gt_of_ne hn with z | z
 ·exact List.pairwise_iff_getElem.mp h i j hi hj z
 ·exact (List.pairwise_iff_getElem.mp h j i hj hi z).symm
def nmD (hs:List Dd) (i:Nat):PyData:=.tuple [.int i,(gD hs i).dat]
theorem rE:∀ (xs:List PyData) (k:Nat),iN k xs=(List.range xs.length).map fun i=>.tuple [.int (k+i:Nat),xs.getD i .none]
 | [],k=>rfl
 | x::r,k=>by
  rw [iN,rE r (k+1),List.length_cons,List.range_succ_eq_map,List.map_cons,List.map_map]
  congr 1
  refine List.map_congr_left fun i _=>?_;simp;omega
def yJ (hs:List Dd):cR (hs.map Dd.dat)=(List.range hs.length).map (nmD hs):=by
 unfold cR;rw [rE,List.length_map];refine List.map_congr_left fun i hi=>?_;have hi:=List.mem_range.mp hi;simp [nmD,gD,List.getD,hi]
variable (d:Nat) (h:aA)
def ypS {α β:Type} {x:Option α} {f:α->Option β} {R:Option β} (a:α) (e:x=some a) (k:f a=R):YP x f=R:=by
 rw [e];exact k
def ypQ {α β:Type} {Q:Option β->Prop} {x:Option α} {f:α->Option β} (a:α) (e:x=some a) (k:Q (f a)):Q (YP x f):=by
 rw [e];exact k
def QL (h:aA) (x:Option (Fl×aA)):Prop:=x.bind (aM h)=some (.none,h)
def tP {hs:List Dd} (ok:HOk hs):aD T (d+11) "look_over" [.d (.tuple (hs.map Dd.dat))] h=some (.none,h):=by
 have eS:∀ δ:DSt,aM h (.nx δ,h)=some (.none,h):=fun δ=>by
  rw [aK7,if_pos (cY h),List.take_of_length_le (Nat.le_refl _)]
 obtain ⟨ht,eht⟩:∃ ht,ht=PyData.tuple (hs.map Dd.dat):=⟨_,rfl⟩;have xe:∀ H,jT (.d ht) H=some (((List.range hs.length).map (nmD hs),none),H):=fun H=>by rw [eht,vM,yJ]
 have nd:noD ht=true:=by rw [eht];rfl
 have it:isi ht "tuple"=true:=by rw [eht];rfl
 have ln:aY [.d ht] h=some (.d (.int hs.length),h):=by rw [eht];simp
 have n60:¬ (60:Int) < hs.length:=by have:=ok.len;omega
 have cu:∀ i,i < hs.length->xSl (.d ht) none (some (i:Int)) h=some (.d (.tuple ((hs.map Dd.dat).take i)),h):=fun i hi=>by
  have:=vX (hs.map Dd.dat) (m:=i) (by simp;omega);rw [eht];show some (W.d (.tuple (cut (hs.map Dd.dat) none (some (i:Int)))),h)=_;rw [this]
 rw [<- eht,show d+11=(d+10)+1 from rfl,sZ];have l1:∃ δ' h',bB (aP [YG 1,YG 2]) (fH (d+10)) none ((List.range hs.length).map (nmD hs)) ((List.range hs.length).map (nmD hs)) [some (.d ht),none,none,none] h=some (.nx δ',h')/\((∃ x1 x2 x3,δ'=[some (.d ht),x1,x2,x3])/\h'=h):=by
  refine oY (fun δ H=>(∃ x1 x2 x3,δ=[some (.d ht),x1,x2,x3])/\H=h) _ ?_ _ _ ⟨⟨_,_,_,rfl⟩,rfl⟩;rintro x hx δ H ⟨⟨x1,x2,x3,rfl⟩,rfl⟩;obtain ⟨i,hi,rfl⟩:=List.mem_map.mp hx;have hi:=List.mem_range.mp hi;have cd:=aA4 d H (gD hs i) (ok.ok _ (rD hi));refine ⟨[some (.d ht),some (.d (.int i)),some (.d (gD hs i).dat),x3],H,by simp [nmD,aP,cT],[some (.d ht),some (.d (.int i)),some (.d (gD hs i).dat),x3],H,?_,⟨_,_,_,rfl⟩,rfl⟩;simp [cd]
 have l2:∀ x1 x2 x3,∃ δ' h',bB (aP [YG 1,YG 3]) (fG (d+10)) none ((List.range hs.length).map (nmD hs)) ((List.range hs.length).map (nmD hs)) [some (.d ht),x1,x2,x3] h=some (.nx δ',h')/\((∃ x1 x2 x3,δ'=[some (.d ht),x1,x2,x3])/\h'=h):=fun x1 x2 x3=>by
  refine oY (fun δ H=>(∃ x1 x2 x3,δ=[some (.d ht),x1,x2,x3])/\H=h) _ ?_ _ _ ⟨⟨_,_,_,rfl⟩,rfl⟩;rintro x hx δ H ⟨⟨x1,x2,x3,rfl⟩,rfl⟩;obtain ⟨i,hi,rfl⟩:=List.mem_map.mp hx;have hi:=List.mem_range.mp hi;refine ⟨[some (.d ht),some (.d (.int i)),x2,some (.d (gD hs i).dat)],H,by simp [nmD,aP,cT],[some (.d ht),some (.d (.int i)),x2,some (.d (gD hs i).dat)],H,?_,⟨_,_,_,rfl⟩,rfl⟩;have cu:=cu i hi;obtain ⟨qs,hqs⟩:∃ qs,qs=hs.take i:=⟨_,rfl⟩;have eq:qs.map Dd.dat=(hs.map Dd.dat).take i:=by rw [hqs,List.map_take]
  have cm:aG (YG 0) (aC true) (xb (Y2 (aB 1) (aB 0)) (YF (d+10) "go_together")) none (qs.map Dd.dat) (qs.map Dd.dat) [none,some (.d (gD hs i).dat)] H []=some (qs.map fun _=>.bool true,H):=by
   refine cmM Dd.dat (fun _=>.bool true) (fun δ=>∃ u,δ=[u,some (.d (gD hs i).dat)]) _ _ ⟨_,rfl⟩ fun y hy δ hδ=>?_;obtain ⟨u,rfl⟩:=hδ;refine ⟨_,rfl,⟨_,rfl⟩,?_⟩;rw [hqs] at hy;obtain ⟨j,hj,ej⟩:=List.getElem_of_mem hy;rw [List.length_take] at hj;rw [List.getElem_take] at ej;have hj':j < hs.length:=by omega
   rw [vZ hj'] at ej;subst ej;have:=oB (d+7) H (aN2 ok.pw hi hj' (by omega));simp [this]
  simp only [dR,fF,fU,fT,fV,fW,fX,hO,hU,hV,fR,fS,gX,hJ,gH,gY,gZ,hH,bdi] at cm;rw [eq] at cm;have bc:=iH true qs;simp [cu,cm,bc]
 show QL h _;refine syP [some (.d ht),none,none,none] h (by simp [nd,it,ln,n60]) ?_;refine syE (fun δ H=>(∃ x1 x2 x3,δ=[some (.d ht),x1,x2,x3])/\H=h) ?_ ?_
 ·exact yG (((List.range hs.length).map (nmD hs),none),h) (by simp [xe]) l1
 rintro _ _ ⟨⟨x1,x2,x3,rfl⟩,rfl⟩;obtain ⟨_,_,e2,⟨y1,y2,y3,rfl⟩,rfl⟩:=l2 x1 x2 x3;refine ypQ _ (ypS (((List.range hs.length).map (nmD hs),none),_) (by simp [xe]) e2) ?_;exact eS _
end K46

namespace K46
open PySem PySem.Spec PyProof.Rows L2 DL CI SJ
noncomputable def Dd.keep (x:Dd):Bool:=match x.fin with
 | some (_,none)=>false
 | _=>true
def nums (hs:List Dd):List Nat:=(List.range hs.length).filter fun i=>(gD hs i).keep
def bgI (hs:List Dd) (i:Nat):Int:=(gD hs i).beg
def tk (hs:List Dd):List Nat:=byI (bgI hs) (nums hs)
def wA (a:An1) (n:Nat):aJ (n+1) a.dat=true:=by cases a<;>simp [An1.dat]
theorem rF:∀ (as:List An1) (n:Nat),plainsB (n+1) (as.map An1.dat)=true
 | [],n=>by simp
 | a::r,n=>by simp [wA,rF r]
def bL2 (a:SJ.Ans):aJ 64 a.dat=true:=by
 cases a with
 | one a=>exact wA a 63
 | all ns=>simp [Ans.dat,lF]
 | each as=>simp [Ans.dat,rF]
def aN3 (x:Dd) (h:aA):xEq (.d x.ansD) (.d (.tuple [.str "refused"])) h=some (!x.keep):=by
 obtain ⟨a,b,c,e⟩:=x;have:xEq (.d (Dd.mk a b c e).ansD) (.d (.tuple [.str "refused"])) h=if (aJ 64 (Dd.mk a b c e).ansD&&aJ 64 (.tuple [.str "refused"]))=true then some (PyData.eqv (Dd.mk a b c e).ansD (.tuple [.str "refused"])) else none:=rfl
 rw [this];cases e with
 | none=>simp [Dd.ansD,PyData.eqv,Dd.keep]
 | some p =>
  obtain ⟨t,o⟩:=p;cases o with
  | none=>simp [Dd.ansD,anD,aL5,PyData.eqv,PyData.eqvAll,Dd.keep]
  | some a =>
   have pa:=bL2 a;simp only [Dd.ansD,anD,pa,Dd.keep];cases a with
   | one a=>cases a<;>simp [Ans.dat,An1.dat,PyData.eqv,PyData.eqvAll]
   | all ns=>simp [Ans.dat,PyData.eqv,PyData.eqvAll]
   | each as=>simp [Ans.dat,PyData.eqv,PyData.eqvAll]
def eJ {hs:List Dd} {i:Nat} (h:i∈nums hs):i < hs.length:=List.mem_range.mp (List.mem_filter.mp h).1
def rG (hs:List Dd):(nums hs).Nodup:=List.nodup_range.filter _
def nG {hs:List Dd} (ok:HOk hs):(nums hs).length<=60:=by
 have:=List.length_filter_le (fun i=>(gD hs i).keep) (List.range hs.length);rw [List.length_range] at this;exact Nat.le_trans this ok.len
def wB {hs:List Dd} (ok:HOk hs) {i j:Nat} (hi:i < hs.length) (hj:j < hs.length) (hn:i≠j):bgI hs i≠bgI hs j:=fun e=>by
 have:=(aN2 ok.pw hi hj hn).ne (gD hs i).beg;refine this ?_ ?_
 ·unfold Dd.tms;exact List.mem_cons_self
 ·have e:((gD hs i).beg:Int)=(gD hs j).beg:=e;rw [e];unfold Dd.tms;exact List.mem_cons_self
theorem wC {α:Type} (k:α->Int):∀ qs:List α,cA (qs.map fun q=>.int (k q))=some (qs.map k)
 | []=>rfl
 | q::r=>by rw [List.map_cons,cA,wC k r];rfl
theorem pL {α:Type} {f:XR W} {δ:DSt} {i:Nat} {h:aA} (F:α->PyData) (k:α->PyData):∀ qs:List α,(∀ q∈qs,f (δ.set i (some (.d (F q)))) h=some (.d (k q),h))->eX f δ i (qs.map F) h=some (qs.map k,h)
 | [],_=>rfl
 | q::r,hq=>by
  rw [List.map_cons,eX,hq q List.mem_cons_self];simp only [CI.bs];rw [pL F k r fun x hx=>hq x (List.mem_cons_of_mem _ hx)];rfl
noncomputable def tE:List (Pos×Str):=[(⟨200,31,200,64⟩,"taking_part.<locals>.<lambda>")]
def wD (ts:List (Pos×Str)):Prop:=ts=[]\/ts=tE
def bL3 {ts:List (Pos×Str)} (h:wD ts):rT ⟨200,31,200,64⟩ "taking_part.<locals>.<lambda>" ts=some tE:=by
 rcases h with rfl | rfl
 ·rfl
 ·unfold rT tE;simp [atP]
def kO {hs:List Dd} {i:Nat} (hi:i < hs.length) (H:aA):xIx (.d (.tuple (hs.map Dd.dat))) (.d (.int i)) H=some (.d (gD hs i).dat,H):=by
 rw [CI.ix_t,bA4 hi];rfl
def aW5 (x:Dd) (H:aA):xIx (.d x.dat) (.d (.int 1)) H=some (.d (.int x.beg),H):=by simp [Dd.dat]
def wE (x:Dd) (H:aA):xIx (.d x.dat) (.d (.int 0)) H=some (.d (.int x.hand),H):=by simp [Dd.dat]
def bX5 (x:Dd) (H:aA):xIx (.d x.dat) (.d (.int 2)) H=some (.d x.endD,H):=by simp [Dd.dat]
def bX6 (x:Dd) (H:aA):xIx (.d x.dat) (.d (.int 3)) H=some (.d x.call.dat,H):=by simp [Dd.dat]
def aW6 (x:Dd) (H:aA):xIx (.d x.dat) (.d (.int 4)) H=some (.d x.ansD,H):=by simp [Dd.dat]
def wF {H:aA} {ts:List (Pos×Str)} {z:PyData}:aM H (.rt (.d z),H.set 0 (.t ts))=some (z,H.set 0 (.t ts)):=by
 have ok:okP H (H.set 0 (.t ts)):=fun i c hi e=>by
  by_cases z:i=0
  ·subst z;rw [List.getElem?_set_self hi] at e;injection e with e
   subst e;exact .inl (fun _ z=>nomatch z)
  ·rw [List.getElem?_set_ne (fun q=>z q.symm)] at e;exact .inr e
 rw [qS,if_pos ok,List.take_of_length_le (by simp)]
def tQ (d:Nat) {hs:List Dd} (ok:HOk hs) {H:aA} {ts:List (Pos×Str)} (ht:H[0]?=some (.t ts)) (hts:wD ts):aD T (d+1) "taking_part" [.d (.tuple (hs.map Dd.dat))] H=some (.list ((tk hs).map nI),H.set 0 (.t tE)):=by
 have ai:=fun {i} hi H=>kO (hs:=hs) (i:=i) hi H;obtain ⟨hd,ehd⟩:∃ hd,hd=PyData.tuple (hs.map Dd.dat):=⟨_,rfl⟩;have xe:∀ H,jT (.d hd) H=some (((List.range hs.length).map (nmD hs),none),H):=fun H=>by rw [ehd,vM,yJ]
 rw [<- ehd] at ai;rw [<- ehd,nW];have cm:aG (aP [YG 0,YG 1]) (xC1 CmpOp.NotEq (YV 1 4) (aC (W.d (PyData.tuple [PyData.str (Str.ofString "refused")])))) (aB 0) none ((List.range hs.length).map (nmD hs)) ((List.range hs.length).map (nmD hs)) [none,none] H []=some ((nums hs).map nI,H):=by
  rw [cmT (nmD hs) (fun i=>(gD hs i).keep) nI (fun δ=>∃ u v,δ=[u,v]) _ _ [] ⟨_,_,rfl⟩ fun i hi δ hδ=>?_]
  ·rfl
  ·obtain ⟨u,v,rfl⟩:=hδ;refine ⟨[some (.d (.int i)),some (.d (gD hs i).dat)],by simp [nmD,aP,cT],⟨_,_,rfl⟩,?_,fun _=>rfl⟩;have nr:=aN3 (gD hs i) H;have d4:=aW6 (gD hs i) H;simp [d4,nr]
 have lm:lU false (xb (xb (aB 1) fun x=>xb (aB 0) (YX x)) (YI 1)) [none,some 0] 0 "taking_part.<locals>.<lambda>" ⟨200,31,200,64⟩ (.d (.list ((nums hs).map nI))) [some (.d hd),some (.d (.list ((nums hs).map nI)))] H=some ((tk hs).map nI,H.set 0 (.t tE)):=by
  unfold lU;simp only [ref,ht];rw [bL3 hts];simp only [CI.bs];rw [pL nI (fun i=>.int (bgI hs i)) (nums hs) fun i hi=>?_]
  ·simp only [CI.bs];have nd:((nums hs).map (bgI hs)).Nodup:=List.pairwise_map.mpr ((rG hs).imp_of_mem fun {i j} hi hj hn=>wB ok (eJ hi) (eJ hj) hn);have l6:((nums hs).map nI).length < 64:=by rw [List.length_map];have:=nG ok;omega
   unfold byK;rw [if_neg (by simp),wC (bgI hs) (nums hs)];simp only [CI.bs];rw [if_pos ⟨nd,l6⟩,bA2];rfl
  ·have ai:=ai (eJ hi);have d1:=aW5 (gD hs i);simp [nI,ai,d1,bgI]
 simp only [dR,fF,fU,fT,fV,fW,fX,hO,hU,hV,fR,fS,gX,hJ,gH,gY,gZ,hH,bdi] at cm lm;refine sq (.rt (.d (.list ((tk hs).map nI))),H.set 0 (.t tE)) ?_ wF;refine sy [some (.d hd),some (.d (.list ((nums hs).map nI)))] H (by simp [xe,cm]) ?_;simp [lm]
def tR (d:Nat) (H:aA) {hs:List Dd} (ok:HOk hs):aD T (d+1) "_law_by_begins" [.d (.tuple (hs.map Dd.dat))] H=some (.list ((tk hs).map nI),H):=by
 have ai:=fun {i} hi H=>kO (hs:=hs) (i:=i) hi H;obtain ⟨hd,ehd⟩:∃ hd,hd=PyData.tuple (hs.map Dd.dat):=⟨_,rfl⟩;have ln:aY [.d hd] H=some (.d (.int hs.length),H):=by rw [ehd];simp
 rw [<- ehd] at ai;rw [<- ehd,kF];have er:cU 0 hs.length=true:=cL (by omega) (by have:=ok.len;omega);have cm:aG (YG 0) (xC1 CmpOp.NotEq (xb (xb (aB 1) fun x=>xb (aB 0) (YX x)) (YI 4)) (xb (xPl (Y1 (YS "refused"))) YT)) (aB 0) none (rng 0 hs.length) (rng 0 hs.length) [none,some (.d hd)] H []=some ((nums hs).map nI,H):=by
  rw [vY,cmT nI (fun i=>(gD hs i).keep) nI (fun δ=>∃ u,δ=[u,some (.d hd)]) _ _ [] ⟨_,rfl⟩ fun i hi δ hδ=>?_]
  ·rfl
  ·obtain ⟨u,rfl⟩:=hδ;have ai:=ai (List.mem_range.mp hi);refine ⟨[some (.d (.int i)),some (.d hd)],rfl,⟨_,rfl⟩,?_,fun _=>rfl⟩;have nr:=aN3 (gD hs i) H;have d4:=aW6 (gD hs i) H;simp [ai,d4,nr,szl]
 have c2:aG (YG 0) (aC true) (xb (xPl (Y2 (xb (xb (aB 1) fun x=>xb (aB 0) (YX x)) (YI 1)) (aB 0))) YT) none ((nums hs).map nI) ((nums hs).map nI) [none,some (.d hd)] H []=some ((nums hs).map (prI (bgI hs)),H):=by
  refine cmM nI (prI (bgI hs)) (fun δ=>∃ u,δ=[u,some (.d hd)]) _ _ ⟨_,rfl⟩ fun i hi δ hδ=>?_;obtain ⟨u,rfl⟩:=hδ;have ai:=ai (eJ hi);refine ⟨[some (.d (.int i)),some (.d hd)],rfl,⟨_,rfl⟩,?_⟩;have d1:=aW5 (gD hs i) H;simp [ai,d1,szl,prI,bgI]
 have c3:=bA3 (bgI hs) (qs:=nums hs) (fun i hi=>by have:=eJ hi;have:=ok.len;omega) (rG hs) (by have:=nG ok;omega) H;have eT:byI (fun i:Nat=>bgI hs i*1000+i) (nums hs)=tk hs:=aA5 fun i hi j hj=>by
  have li:=eJ hi;have lj:=eJ hj;have l6:=ok.len
  by_cases e:i=j
  ·subst e;simp
  ·have:=wB ok li lj e;omega
 rw [eT] at c3;have c4:∀ L:List Nat,aG (aP [YG 0,YG 1]) (aC true) (aB 1) none (L.map (prI (bgI hs))) (L.map (prI (bgI hs))) [none,none] H []=some (L.map nI,H):=fun L=>by
  refine cmM (prI (bgI hs)) nI (fun δ=>∃ u v,δ=[u,v]) _ _ ⟨_,_,rfl⟩ fun i hi δ hδ=>?_;obtain ⟨u,v,rfl⟩:=hδ;exact ⟨[some (.d (.int (bgI hs i))),some (.d (.int i))],by simp [prI,aP,cT],⟨_,_,rfl⟩,rfl⟩
 simp only [dR,fF,fU,fT,fV,fW,fX,hO,hU,hV,fR,fS,gX,hJ,gH,gY,gZ,hH,bdi] at cm c2 c4;have eS:∀ z:PyData,aM H (.rt (.d z),H)=some (z,H):=fun z=>aT (fun _ _=>rfl) (Nat.le_refl _);simp [ln,er,cm,c2,c3,c4,eS]
end K46

namespace K46
open PySem PySem.Spec PyProof.Rows L2 DL CI SJ
noncomputable def dG:One->Bool
 | .read _=>false
 | _=>true
noncomputable def dX:SJ.Call->List One
 | .one o=>[o]
 | .span lo hi=>(List.range (hi - lo)).map fun k=>.read (lo+k)
 | .deal cs=>cs
def kZ (c:SJ.Call):Bool:=(dX c).any dG
theorem yK {α:Type} (f:α->Bool):∀ xs:List α,cZ (xs.map fun x=>PyData.bool (f x))=some (xs.map f)
 | []=>rfl
 | x::r=>by rw [List.map_cons,cZ,yK f r];rfl
def aN4 (d:Nat) (h:aA) (o:One):aD T (d+1) "may_change" [.d o.dat] h=some (.bool (dG o),h):=by
 have eS:∀ z:PyData,aM h (.rt (.d z),h)=some (z,h):=fun z=>aT (fun _ _=>rfl) (Nat.le_refl _);cases o<;>simp [fY,One.dat,dG,xIn,ref,PyData.eqv,eS]
def bX7 (d:Nat) (h:aA) {c:SJ.Call} (hc:c.ok):aD T (d+2) "may_change" [.d c.dat] h=some (.bool (kZ c),h):=by
 have eS:∀ z:PyData,aM h (.rt (.d z),h)=some (z,h):=fun z=>aT (fun _ _=>rfl) (Nat.le_refl _);cases c with
 | one o =>
  have e:kZ (.one o)=dG o:=by simp [kZ,dX]
  rw [e];exact aN4 (d+1) h o
 | span lo hi =>
  have e:kZ (.span lo hi)=false:=by simp [kZ,dX,dG]
  rw [e];simp [fY,Call.dat,xIn,ref,PyData.eqv,eS]
 | deal cs =>
  have e:kZ (.deal cs)=cs.any dG:=rfl;rw [e,show d+2=(d+1)+1 from rfl,fY];have cm:aG (YG 0) (aC true) (xb (Y1 (aB 0)) (YF (d+1) "may_change")) none (cs.map One.dat) (cs.map One.dat) [none] h []=some (cs.map fun o=>.bool (dG o),h):=by
   refine cmM One.dat (fun o=>.bool (dG o)) (fun δ=>∃ u,δ=[u]) _ _ ⟨_,rfl⟩ fun o ho δ hδ=>?_;obtain ⟨u,rfl⟩:=hδ;refine ⟨_,rfl,⟨_,rfl⟩,?_⟩;have:=aN4 d h o;simp [this]
  have xa:∀ xs,rQ [.d (.list xs)] h=(cZ xs).map fun bs=>(.d (.bool (bs.any id)),h):=fun _=>rfl;have bf:=yK dG cs;have ba:(cs.map dG).any id=cs.any dG:=by simp
  simp only [dR,fF,fU,fT,fV,fW,fX,hO,hU,hV,fR,fS,gX,hJ,gH,gY,gZ,hH,bdi] at cm;simp [Call.dat,aS,cm,xa,bf,eS]
def aW7 (d:Nat) (h:aA) {c:SJ.Call} (hc:c.ok):aD T (d+1) "_law_parts" [.d c.dat] h=some (.list ((dX c).map One.dat),h):=by
 have eS:∀ z:PyData,aM h (.rt (.d z),h)=some (z,h):=fun z=>aT (fun _ _=>rfl) (Nat.le_refl _);cases c with
 | one o=>cases o<;>simp [gA,Call.dat,One.dat,dX,szl,eS]
 | span lo hi =>
  obtain ⟨h1,h2⟩:=hc;have er:cU lo hi=true:=jM (by omega) (by omega);have tn:((hi:Int) - (lo:Int)).toNat=hi - lo:=by omega
  have cm:aG (YG 0) (aC true) (xb (xPl (Y2 (YS "read") (aB 0))) YT) none (rng lo (hi - lo)) (rng lo (hi - lo)) [none] h []=some ((dX (.span lo hi)).map One.dat,h):=by
   have e:rng lo (hi - lo)=(List.range (hi - lo)).map fun k=>nI (lo+k):=by simp [rng,nI]
   rw [e,cmM (fun k=>nI (lo+k)) (fun k=>(One.read (lo+k)).dat) (fun δ=>∃ u,δ=[u]) _ _ ⟨_,rfl⟩ fun k hk δ hδ=>?_]
   ·simp [dX,Function.comp_def]
   ·obtain ⟨u,rfl⟩:=hδ;refine ⟨_,rfl,⟨_,rfl⟩,?_⟩;simp [nI,One.dat,szl]
  simp only [dR,fF,fU,fT,fV,fW,fX,hO,hU,hV,fR,fS,gX,hJ,gH,gY,gZ,hH,bdi] at cm;simp [gA,Call.dat,er,tn,cm,eS]
 | deal cs=>simp [gA,Call.dat,ref,dX,eS]
def aN5 (o:One) (n:Nat):aJ (n+1) o.dat=true:=by cases o<;>simp [One.dat]
theorem rH:∀ (os:List One) (n:Nat),plainsB (n+1) (os.map One.dat)=true
 | [],n=>by simp
 | o::r,n=>by simp [aN5,rH r]
def aA8 (d:Nat) (h:aA) {c:SJ.Call} (hc:c.ok):aD T (d+2) "_law_changes" [.d c.dat,.d .none] h=some (.bool (kZ c),h):=by
 have eS:∀ z:PyData,aM h (.rt (.d z),h)=some (z,h):=fun z=>aT (fun _ _=>rfl) (Nat.le_refl _);have cp:=aW7 d h hc;have cm:aG (YG 0) (xb (xC1 CmpOp.In (YV 0 0) (aB 2)) fun c=>if c=true then xb (xC1 CmpOp.Is (aB 1) (YZ)) fun c=>if c=true then aC true else xC1 CmpOp.Eq (YV 0 1) (aB 1) else aC false) (aB 0) none ((dX c).map One.dat) ((dX c).map One.dat) [none,some (.d .none),some (.d (.list [.str (Str.ofString "write"),.str (Str.ofString "add"),.str (Str.ofString "swap")]))] h []=some (((dX c).filter dG).map One.dat,h):=by
  rw [cmT One.dat dG One.dat (fun δ=>∃ u,δ=[u,some (.d .none),some (.d (.list [.str (Str.ofString "write"),.str (Str.ofString "add"),.str (Str.ofString "swap")]))]) _ _ [] ⟨_,rfl⟩ fun o ho δ hδ=>?_]
  ·rfl
  ·obtain ⟨u,rfl⟩:=hδ;refine ⟨[some (.d o.dat),_,_],rfl,⟨_,rfl⟩,?_,fun _=>rfl⟩;cases o<;>simp [One.dat,dG,xIn,ref,PyData.eqv]
 simp only [dR,fF,fU,fT,fV,fW,fX,hO,hU,hV,fR,fS,gX,hJ,gH,gY,gZ,hH,bdi] at cm;have eq:xEq (.d (.list (((dX c).filter dG).map One.dat))) (.d (.list [])) h=some (!kZ c):=by
  have:xEq (.d (.list (((dX c).filter dG).map One.dat))) (.d (.list [])) h=if (aJ 64 (.list (((dX c).filter dG).map One.dat))&&aJ 64 (.list []))=true then some (PyData.eqv (.list (((dX c).filter dG).map One.dat)) (.list [])) else none:=rfl
  rw [this];have pl:=rH ((dX c).filter dG) 62;simp [pl];unfold kZ;cases e:(dX c).filter dG with
  | nil =>
   have:(dX c).any dG=false:=by
    rw [List.any_eq_false];exact fun x hx=>by have:=List.filter_eq_nil_iff.mp e x hx;simpa using this
   simp [PyData.eqv,PyData.eqvAll,this]
  | cons a r =>
   have:(dX c).any dG=true:=by
    rw [List.any_eq_true];have:a∈(dX c).filter dG:=by rw [e];exact List.mem_cons_self
    exact ⟨a,List.mem_filter.mp this⟩
   simp [PyData.eqv,PyData.eqvAll,this]
 rw [show d+2=(d+1)+1 from rfl,nB];generalize ((dX c).filter dG).map One.dat=R at cm eq;generalize (dX c).map One.dat=P at cm cp;simp [szl,cp,cm,eq,eS]
structure It where
 c:SJ.Call
 t:Option SJ.Ans
 w:Bool
noncomputable def wdS (b:Bool):String:=if b=true then "may" else "must"
def It.dat (x:It):PyData:=.tuple [x.c.dat,tD x.t,.str (Str.ofString (wdS x.w))]
structure It.ok (x:It):Prop where
 c:x.c.ok
 t:∀ a,x.t=some a->Ans.fits x.c a
def bO (e:It×Nat):PyData:=.tuple [e.1.dat,.int e.2]
noncomputable def aN6 (x:Dd):Option SJ.Ans:=x.fin.bind (·.2)
def tS {x:Dd} (h:x.keep=true):x.ansD=tD (aN6 x):=by
 obtain ⟨a,b,c,e⟩:=x;cases e with
 | none=>rfl
 | some p =>
  obtain ⟨t,o⟩:=p;cases o with
  | none=>cases h
  | some a=>rfl
def cQ (hs:List Dd) (q:Int) (i:Nat):Option (It×Nat) :=
 if ((gD hs i).hand:Int)=q then some (⟨(gD hs i).call,aN6 (gD hs i),(gD hs i).fin.isNone⟩,i)
 else if kZ (gD hs i).call=true then some (⟨(gD hs i).call,none,(gD hs i).fin.isNone⟩,i) else none
def ents (hs:List Dd) (q:Int):List (It×Nat):=(tk hs).filterMap (cQ hs q)
def aN7 (x:Dd):xIs (.d x.endD) (.d .none)=some x.fin.isNone:=by
 obtain ⟨a,b,c,e⟩:=x;cases e<;>rfl
def aW8 (d:Nat) (h:aA) {hs:List Dd} {i:Nat} (hi:i < hs.length) (s a:PyData):aD T (d+1) "entry" [.d (.tuple (hs.map Dd.dat)),.d (.int i),.d s,.d a] h=some (.tuple [.tuple [s,a,.str (Str.ofString (wdS (gD hs i).fin.isNone))],.int i],h):=by
 have eS:∀ z:PyData,aM h (.rt (.d z),h)=some (z,h):=fun z=>aT (fun _ _=>rfl) (Nat.le_refl _);have ai:=kO hi h;have d2:=bX5 (gD hs i) h;have ie:=aN7 (gD hs i);generalize PyData.tuple (hs.map Dd.dat)=hd at *;rw [aV0];generalize (gD hs i).fin.isNone=b at *;cases b<;>simp [ai,d2,ie,szl,wdS,eS]
def bL4 (d:Nat) (h:aA) (x:Dd):aD T (d+1) "_law_word" [.d x.dat] h=some (.str (Str.ofString (wdS x.fin.isNone)),h):=by
 have eS:∀ z:PyData,aM h (.rt (.d z),h)=some (z,h):=fun z=>aT (fun _ _=>rfl) (Nat.le_refl _);have d2:=bX5 x h;have ie:=aN7 x;generalize x.fin.isNone=b at *;rw [tG];cases b<;>simp [d2,ie,szl,wdS,eS,aC0,asW]
end K46

namespace K46
open PySem PySem.Spec PyProof.Rows L2 DL CI SJ
def lG (hs:List Dd):(tk hs).Perm (nums hs):=nF _ _
def kP {hs:List Dd} {i:Nat} (h:i∈tk hs):i < hs.length:=eJ ((lG hs).mem_iff.mp h)
def yL {hs:List Dd} {i:Nat} (h:i∈tk hs):(gD hs i).keep=true:=(List.mem_filter.mp ((lG hs).mem_iff.mp h)).2
def nH {hs:List Dd} (ok:HOk hs):(tk hs).length<=60:=by rw [(lG hs).length_eq];exact nG ok
def bX8 {hs:List Dd} (ok:HOk hs):(tk hs).Pairwise fun i j=>bgI hs i < bgI hs j:=by
 have h1:=bK7 (bgI hs) (nums hs);have h2:(tk hs).Nodup:=(lG hs).nodup_iff.mpr (rG hs);have h3:=h1.and h2;refine h3.imp_of_mem fun {i j} hi hj h=>?_;have:=wB ok (kP hi) (kP hj) h.2;have:=h.1;omega
variable (d:Nat)
def aW9 {hs:List Dd} (ok:HOk hs) {H:aA} {ts:List (Pos×Str)} (ht:H[0]?=some (.t ts)) (hts:wD ts) (q:Int):aD T (d+3) "hand_entries" [.d (.tuple (hs.map Dd.dat)),.d (.int q)] H=some (.list ((ents hs q).map bO),H.set 0 (.t tE)):=by
 have ai:=fun {i} hi H=>kO (hs:=hs) (i:=i) hi H;have en:=fun {i} hi s a H=>aW8 (d+1) H (hs:=hs) (i:=i) hi s a;have hl:=(List.getElem?_eq_some_iff.mp ht).1;have ct:=tQ (d+1) ok (H:=H++[.l []]) (ts:=ts) (by rw [List.getElem?_append_left hl];exact ht) hts;obtain ⟨hd,ehd⟩:∃ hd,hd=PyData.tuple (hs.map Dd.dat):=⟨_,rfl⟩;rw [<- ehd] at ai en ct;obtain ⟨G,hG⟩:∃ G,G=H.set 0 (.t tE):=⟨_,rfl⟩;have gl:G.length=H.length:=by rw [hG];simp
 have ap:∀ c,(H++[c]).set 0 (.t tE)=G++[c]:=fun c=>by rw [hG,List.set_append_left _ _ hl]
 rw [ap] at ct;rw [<- ehd,<- hG,show d+3=(d+2)+1 from rfl,mX];have lp:∃ δ' h',bB (YG 3) (bZ (d+2)) none ((tk hs).map nI) ((tk hs).map nI) [some (.d hd),some (.d (.int q)),some (.c H.length),none,none] (G++[.l []])=some (.nx δ',h')/\((∃ x3 x4,δ'=[some (.d hd),some (.d (.int q)),some (.c H.length),x3,x4])/\h'=G++[.l ((ents hs q).map bO)]):=by
  refine dJ (fun m δ h'=>(∃ x3 x4,δ=[some (.d hd),some (.d (.int q)),some (.c H.length),x3,x4])/\h'=G++[.l ((((tk hs).take m).filterMap (cQ hs q)).map bO)]) ⟨⟨_,_,rfl⟩,rfl⟩ (fun δ h'=>by rw [List.length_map,List.take_length];exact id) fun m hm δ h'=>?_;rintro ⟨⟨x3,x4,rfl⟩,rfl⟩;have hm':m < (tk hs).length:=by simpa using hm
  obtain ⟨i,ei⟩:∃ i,i=(tk hs)[m]:=⟨_,rfl⟩;have him:i∈tk hs:=by rw [ei];exact List.getElem_mem hm'
  have hi:=kP him;have hk:=yL him;have ak:=tS hk;rw [List.getElem_map,<- ei,List.take_succ_eq_append_getElem hm',<- ei,List.filterMap_append,List.map_append];have al:(((tk hs).take m).filterMap (cQ hs q)).length<=60:=by
   have h1:=List.length_filterMap_le (cQ hs q) ((tk hs).take m);rw [List.length_take] at h1;have:=nH ok;omega
  generalize ((tk hs).take m).filterMap (cQ hs q)=acc at al;have al':acc.length < 16777216:=by omega
  have mp:iV "append" (.c H.length) (G++[.l (acc.map bO)])=true:=by rw [<- gl];exact CI.mpre_last G _
  have gt:(G++[Cell.l (acc.map bO)])[H.length]?=some (.l (acc.map bO)):=by rw [<- gl];simp
  have st:∀ c,(G++[Cell.l (acc.map bO)]).set H.length c=G++[c]:=fun c=>by rw [<- gl];simp
  have aI:=ai hi (G++[.l (acc.map bO)]);have e1:=fun a=>en hi (gD hs i).call.dat a (G++[.l (acc.map bO)]);have d0:=wE (gD hs i) (G++[.l (acc.map bO)]);have d3:=bX6 (gD hs i) (G++[.l (acc.map bO)]);have d4:=aW6 (gD hs i) (G++[.l (acc.map bO)]);have cm:=bX7 d (G++[.l (acc.map bO)]) (ok.ok _ (rD hi)).call;rw [ak] at d4;have ef:∀ o,[i].filterMap (fun _=>o)=(o:Option (It×Nat)).toList:=fun o=>by cases o<;>rfl
  have ee:([i].filterMap (cQ hs q))=(cQ hs q i).toList:=by cases z:cQ hs q i<;>simp [z]
  rw [ee];unfold cQ;generalize gD hs i=x at *;refine ⟨_,_,rfl,?_⟩;unfold bZ;refine sys [some (.d hd),some (.d (.int q)),some (.c H.length),some (.d (nI i)),some (.d x.dat)] (G++[.l (acc.map bO)]) (by simp [nI,aI]) ?_
  by_cases c1:(x.hand:Int)=q
  ·refine ⟨[some (.d hd),some (.d (.int q)),some (.c H.length),some (.d (nI i)),some (.d x.dat)],G++[.l (acc.map bO++[bO (⟨x.call,aN6 x,x.fin.isNone⟩,i)])],?_,⟨_,_,rfl⟩,?_⟩
   ·simp [d0,d3,d4,c1,mp,e1,gt,st,szl,al',nI,bO,It.dat]
   ·simp [c1]
  ·have c1':¬ ((x.hand:Int)=q):=c1;cases c2:kZ x.call with
   | true =>
    refine ⟨[some (.d hd),some (.d (.int q)),some (.c H.length),some (.d (nI i)),some (.d x.dat)],G++[.l (acc.map bO++[bO (⟨x.call,none,x.fin.isNone⟩,i)])],?_,⟨_,_,rfl⟩,?_⟩
    ·rw [c2] at cm;simp [d0,d3,d4,c1',mp,e1,gt,st,szl,al',nI,bO,It.dat,cm,tD]
    ·simp [c1]
   | false =>
    refine ⟨[some (.d hd),some (.d (.int q)),some (.c H.length),some (.d (nI i)),some (.d x.dat)],G++[.l (acc.map bO)],?_,⟨_,_,rfl⟩,?_⟩
    ·rw [c2] at cm;simp [d0,d3,c1',cm,nI]
    ·simp [c1]
 obtain ⟨_,_,e,⟨x3,x4,rfl⟩,rfl⟩:=lp;have eE:aM H (.rt (.c H.length),G++[.l ((ents hs q).map bO)])=some (.list ((ents hs q).map bO),G):=by
  have ok:okP H (G++[.l ((ents hs q).map bO)]):=kD _ gl fun i c hi e=>by
   rw [hG] at e
   by_cases z:i=0
   ·subst z;rw [List.getElem?_set_self hi] at e;injection e with e
    subst e;exact .inl (fun _ z=>nomatch z)
   ·rw [List.getElem?_set_ne (fun q=>z q.symm)] at e;exact .inr e
  have g1:(G++[Cell.l ((ents hs q).map bO)])[H.length]?=some (.l ((ents hs q).map bO)):=by rw [<- gl];simp
  have g2:(G++[Cell.l ((ents hs q).map bO)]).take H.length=G:=by rw [<- gl];simp
  unfold aM;rw [if_pos ok];simp only [g1,g2];rw [if_pos (Nat.le_refl _)]
 refine sq (.rt (.c H.length),G++[.l ((ents hs q).map bO)]) ?_ eE;refine sy [some (.d hd),some (.d (.int q)),some (.c H.length),none,none] (H++[.l []]) (by simp [szl]) ?_;refine sy [some (.d hd),some (.d (.int q)),some (.c H.length),x3,x4] (G++[.l ((ents hs q).map bO)]) ?_ (by simp);exact ypS (((tk hs).map nI,none),G++[.l []]) (by simp [ct]) e
end K46

namespace K46
open PySem PySem.Spec PyProof.Rows L2 DL CI SJ
theorem fI {α:Type} {g:XG} {tb:XS} {all:List PyData} (F:α->PyData) (outs:α->List PyData) (C:List PyData->aA) (I:DSt->Prop) (N k:Nat) (hk:∀ q,(outs q).length<=k):∀ (qs:List α) (acc:List PyData) (δ:DSt),I δ->acc.length+k*qs.length<=N ->
  (∀ q∈qs,∀ acc δ,I δ->acc.length+k<=N->∃ δ1,g (.d (F q)) δ (C acc)=some (δ1,C acc)/\∃ δ2,tb δ1 (C acc)=some (.nx δ2,C (acc++outs q))/\I δ2) ->
  ∃ δ',bB g tb none all (qs.map F) δ (C acc)=some (.nx δ',C (acc++(qs.map outs).flatten))/\I δ'
 | [],acc,δ,i,_,_=>⟨δ,by simp [bB],i⟩
 | q::r,acc,δ,i,hN,ht=>by
  rw [List.length_cons,Nat.mul_succ] at hN;obtain ⟨δ1,e1,δ2,e2,i2⟩:=ht q List.mem_cons_self acc δ i (by omega);have hq:=hk q;obtain ⟨δ3,e3,i3⟩:=fI (all:=all) F outs C I N k hk r (acc++outs q) δ2 i2 (by rw [List.length_append];omega) fun y hy=>ht y (List.mem_cons_of_mem _ hy);refine ⟨δ3,?_,i3⟩;rw [List.map_cons,bB,cJ,if_pos rfl,e1];simp only [CI.bs,e2];rw [e3,List.map_cons,List.flatten_cons,List.append_assoc]
theorem exI {P Q:DSt->Prop} {x:Option (Fl×aA)} {H:aA} (e:∃ δ',x=some (.nx δ',H)/\P δ') (k:∀ δ,P δ->Q δ):∃ δ',x=some (.nx δ',H)/\Q δ':=by
 obtain ⟨δ',e,p⟩:=e;exact ⟨δ',e,k δ' p⟩
def yeE {P:DSt->Prop} {x:Option (Fl×aA)} {H:aA} (e:∃ δ',x=some (.nx δ',H)/\P δ'):∃ δ',YP x YE=some (.nx δ',H)/\P δ':=by
 obtain ⟨δ',e,p⟩:=e;exact ⟨δ',by rw [e];rfl,p⟩
def ypF {α:Type} {P:DSt->Prop} {x:Option α} {f:α->Option (Fl×aA)} {g:Fl×aA->Option (Fl×aA)} {H:aA} (a:α) (e:x=some a) (k:∃ δ',YP (f a) g=some (.nx δ',H)/\P δ'):∃ δ',YP (YP x f) g=some (.nx δ',H)/\P δ':=by
 rw [e];exact k
noncomputable def nxN (ns:List Nat) (x:Nat):Nat:=ns.getD x 0
def nmN (ns:List Nat) (x:Nat):PyData:=.tuple [.int x,.int (nxN ns x)]
def aX0 (ns:List Nat):cR (ns.map nI)=(List.range ns.length).map (nmN ns):=by
 unfold cR;rw [rE,List.length_map];refine List.map_congr_left fun i hi=>?_;have hi:=List.mem_range.mp hi;simp [nmN,nxN,nI,List.getD,hi]
def dW (hs:List Dd) (i j:Nat):Bool:=decide ((gD hs i).hand=(gD hs j).hand)&&decide ((gD hs i).beg < (gD hs j).beg)
variable (d:Nat) (h:aA)
def aX1 {hs:List Dd} {i j:Nat} (hi:i < hs.length) (hj:j < hs.length):aD T (d+1) "ahead_by_hand" [.d (.tuple (hs.map Dd.dat)),.d (.int i),.d (.int j)] h=some (.bool (dW hs i j),h):=by
 have eS:∀ z:PyData,aM h (.rt (.d z),h)=some (z,h):=fun z=>aT (fun _ _=>rfl) (Nat.le_refl _);have a1:=kO hi h;have a2:=kO hj h;have b1:=wE (gD hs i) h;have b2:=wE (gD hs j) h;have b3:=aW5 (gD hs i) h;have b4:=aW5 (gD hs j) h;unfold dW;generalize PyData.tuple (hs.map Dd.dat)=hd at *;generalize gD hs i=x at *;generalize gD hs j=y at *;rw [kY]
 by_cases c:x.hand=y.hand
 ·have c':(x.hand:Int)=y.hand:=by omega
  simp [a1,a2,b1,b2,b3,b4,c,eS]
 ·have c':¬ (x.hand:Int)=y.hand:=by omega
  simp [a1,a2,b1,b2,b3,b4,c,c',eS]
def aN8 (D:Str->XF):fnT T D (Str.ofString "ahead_by_hand")=some (D (Str.ofString "ahead_by_hand")):=by
 kernel_rfl
def bA5 (g:Str):gJ [(.none,.str g)]=some g:=rfl
noncomputable def p2 (p:Nat×Nat):PyData:=.tuple [.int p.1,.int p.2]
def rI (hs:List Dd) (ns:List Nat) (x:Nat):List PyData:=((List.range ns.length).map fun y=>if dW hs (nxN ns x) (nxN ns y)=true then [p2 (x,y)] else []).flatten
def gI (hs:List Dd) (ns:List Nat):List PyData:=((List.range ns.length).map (rI hs ns)).flatten
theorem jO {α:Type} (f:α->List PyData) (k:Nat) (hk:∀ a,(f a).length<=k):∀ qs:List α,((qs.map f).flatten).length<=k*qs.length
 | []=>by simp
 | a::r=>by
  have:=jO f k hk r;have:=hk a;rw [List.map_cons,List.flatten_cons,List.length_append,List.length_cons,Nat.mul_succ];omega
def yM (hs:List Dd) (ns:List Nat) (x:Nat):(rI hs ns x).length<=ns.length:=by
 have:=jO (fun y=>if dW hs (nxN ns x) (nxN ns y)=true then [p2 (x,y)] else []) 1 (fun y=>by split<;>simp) (List.range ns.length)
 simpa [rI] using this
def rJ {ns:List Nat} {x:Nat} (hx:x < ns.length):nxN ns x∈ns:=by
 unfold nxN;rw [List.getD_eq_getElem?_getD,List.getElem?_eq_getElem hx];exact List.getElem_mem hx
def aX2 {hs:List Dd} {ns:List Nat} (hn:∀ i∈ns,i < hs.length) (hl:ns.length<=60):aD T (d+2) "pairs_where" [.d (.tuple (hs.map Dd.dat)),.d (.tuple (ns.map nI)),.d (fkD (Str.ofString "ahead_by_hand"))] h=some (.tuple (gI hs ns),h):=by
 have ca:=fun {i j} hi hj h=>aX1 d h (hs:=hs) (i:=i) (j:=j) hi hj;obtain ⟨hd,ehd⟩:∃ hd,hd=PyData.tuple (hs.map Dd.dat):=⟨_,rfl⟩;obtain ⟨nd,end_⟩:∃ nd,nd=PyData.tuple (ns.map nI):=⟨_,rfl⟩;have xe:∀ H,jT (.d nd) H=some (((List.range ns.length).map (nmN ns),none),H):=fun H=>by rw [end_,vM,aX0]
 have ec:=fun z=>aT (z:=z) (h:=h) (H:=h++[.l (gI hs ns)]) (fun i hi=>List.getElem?_append_left hi) (by simp);have fa:=aN8 fun y=>aD T (d+1) y;rw [<- ehd] at ca;rw [<- ehd,<- end_,show d+2=(d+1)+1 from rfl,nX];have mp:=fun acc=>CI.mpre_last h acc;have gl:=fun acc=>CI.get_last h (.l acc);have sl:=fun acc acc'=>CI.set_last h (.l acc) (.l acc');have lp:∃ δ',bB (aP [YG 4,YG 5]) (cF (d+1)) none ((List.range ns.length).map (nmN ns)) ((List.range ns.length).map (nmN ns)) [some (.d hd),some (.d nd),some (.d (fkD (Str.ofString "ahead_by_hand"))),some (.c h.length),none,none,none,none] (h++[.l []])=some (.nx δ',h++[.l ([]++((List.range ns.length).map (rI hs ns)).flatten)])/\∃ x4 x5 x6 x7,δ'=[some (.d hd),some (.d nd),some (.d (fkD (Str.ofString "ahead_by_hand"))),some (.c h.length),x4,x5,x6,x7]:=by
  refine fI (nmN ns) (rI hs ns) (fun acc=>h++[.l acc]) (fun δ=>∃ x4 x5 x6 x7,δ=[some (.d hd),some (.d nd),some (.d (fkD (Str.ofString "ahead_by_hand"))),some (.c h.length),x4,x5,x6,x7]) 10000 60 (fun q=>Nat.le_trans (yM hs ns q) hl) (List.range ns.length) [] _ ⟨_,_,_,_,rfl⟩ (by rw [List.length_range,List.length_nil];omega) ?_;rintro x hx acc δ ⟨x4,x5,x6,x7,rfl⟩ ha;have hx:=List.mem_range.mp hx;refine ⟨[some (.d hd),some (.d nd),some (.d (fkD (Str.ofString "ahead_by_hand"))),some (.c h.length),some (.d (.int x)),some (.d (.int (nxN ns x))),x6,x7],by simp [nmN,aP,cT],?_⟩;unfold cF;refine ypF (((List.range ns.length).map (nmN ns),none),h++[.l acc]) (by simp [xe]) (yeE (exI (fI (nmN ns) (fun y=>if dW hs (nxN ns x) (nxN ns y)=true then [p2 (x,y)] else []) (fun acc=>h++[.l acc]) (fun δ=>∃ x6 x7,δ=[some (.d hd),some (.d nd),some (.d (fkD (Str.ofString "ahead_by_hand"))),some (.c h.length),some (.d (.int x)),some (.d (.int (nxN ns x))),x6,x7]) 10100 1 (fun q=>by split<;>simp) _ _ _ ⟨_,_,rfl⟩ (by simp;omega) ?_) fun δ hδ=>by obtain ⟨x6,x7,rfl⟩:=hδ;exact ⟨_,_,_,_,rfl⟩));rintro y hy acc δ ⟨x6,x7,rfl⟩ ha;have hy:=List.mem_range.mp hy;refine ⟨[some (.d hd),some (.d nd),some (.d (fkD (Str.ofString "ahead_by_hand"))),some (.c h.length),some (.d (.int x)),some (.d (.int (nxN ns x))),some (.d (.int y)),some (.d (.int (nxN ns y)))],by simp [nmN,aP,cT],?_⟩;have c:=ca (hn _ (rJ hx)) (hn _ (rJ hy)) (h++[.l acc]);have al:acc.length < 16777216:=by omega
  refine ⟨[some (.d hd),some (.d nd),some (.d (fkD (Str.ofString "ahead_by_hand"))),some (.c h.length),some (.d (.int x)),some (.d (.int (nxN ns x))),some (.d (.int y)),some (.d (.int (nxN ns y)))],?_,_,_,rfl⟩;cases z:dW hs (nxN ns x) (nxN ns y) with
  | true =>
   rw [z] at c;simp [fkD,bA5,fa,c,mp,gl,sl,al,szl,p2]
  | false =>
   rw [z] at c;simp [fkD,bA5,fa,c]
 obtain ⟨_,e,x4,x5,x6,x7,rfl⟩:=lp;refine sq (.rt (.d (.tuple (gI hs ns))),h++[.l (gI hs ns)]) ?_ (ec _);refine sy [some (.d hd),some (.d nd),some (.d (fkD (Str.ofString "ahead_by_hand"))),some (.c h.length),none,none,none,none] (h++[.l []]) (by simp) ?_;refine sy [some (.d hd),some (.d nd),some (.d (fkD (Str.ofString "ahead_by_hand"))),some (.c h.length),x4,x5,x6,x7] (h++[.l (gI hs ns)]) ?_ ?_
 ·exact ypS (((List.range ns.length).map (nmN ns),none),h++[.l []]) (by simp [xe]) e
 ·simp [aZ,ref]
end K46

namespace K46
open PySem PySem.Spec PyProof.Rows L2 DL CI SJ
variable (d:Nat)
noncomputable def aA9:PyData:=.tuple [.int 0,.int 0,.int 0,.int 0,.int 0,.int 0,.int 0,.int 0]
def pbD (hs:List Dd) (es:List (It×Nat)):PyData:=.tuple [aA9,.tuple (es.map fun e=>e.1.dat),.tuple (gI hs (es.map (·.2))),.tuple []]
def nsD (es:List (It×Nat)):PyData:=.tuple ((es.map (·.2)).map nI)
def frD (hs:List Dd) (q:Int) (es:List (It×Nat)):PyData:=.tuple [.int q,pbD hs es,nsD es]
def aX3 (h:aA) {hs:List Dd} {es:List (It×Nat)} (hn:∀ e∈es,e.2 < hs.length) (hl:es.length<=60) (q:Int):aD T (d+3) "frame" [.d (.tuple (hs.map Dd.dat)),.d (.str "hand"),.d (.int q),.d (.list (es.map bO))] h=some (frD hs q es,h):=by
 have eS:∀ z:PyData,aM h (.rt (.d z),h)=some (z,h):=fun z=>aT (fun _ _=>rfl) (Nat.le_refl _);have cp:=aX2 d h (hs:=hs) (ns:=es.map (·.2)) (fun i hi=>by obtain ⟨e,he,rfl⟩:=List.mem_map.mp hi;exact hn e he) (by simpa using hl);have m1:aG (aP [YG 0,YG 1]) (aC true) (aB 0) none (es.map bO) (es.map bO) [none,none] h []=some (es.map fun e=>e.1.dat,h):=by
  refine cmM bO (fun e=>e.1.dat) (fun δ=>∃ u v,δ=[u,v]) _ _ ⟨_,_,rfl⟩ fun e he δ hδ=>?_;obtain ⟨u,v,rfl⟩:=hδ;exact ⟨[some (.d e.1.dat),some (.d (.int e.2))],by simp [bO,aP,cT],⟨_,_,rfl⟩,rfl⟩
 have m2:aG (aP [YG 0,YG 1]) (aC true) (aB 1) none (es.map bO) (es.map bO) [none,none] h []=some ((es.map (·.2)).map nI,h):=by
  rw [List.map_map];refine cmM bO (nI ∘ fun e=>e.2) (fun δ=>∃ u v,δ=[u,v]) _ _ ⟨_,_,rfl⟩ fun e he δ hδ=>?_;obtain ⟨u,v,rfl⟩:=hδ;exact ⟨[some (.d e.1.dat),some (.d (.int e.2))],by simp [bO,aP,cT],⟨_,_,rfl⟩,rfl⟩
 have e1:frD hs q es=.tuple [.int q,.tuple [.tuple [.int 0,.int 0,.int 0,.int 0,.int 0,.int 0,.int 0,.int 0],.tuple (es.map fun e=>e.1.dat),.tuple (gI hs (es.map (·.2))),.tuple []],.tuple ((es.map (·.2)).map nI)]:=rfl;rw [e1];have cp:aD T (d+2) (Str.ofString "pairs_where") [.d (.tuple (hs.map Dd.dat)),.d (.tuple ((es.map (·.2)).map nI)),.d (fkD (Str.ofString "ahead_by_hand"))] h=some (.tuple (gI hs (es.map (·.2))),h):=cp;generalize gI hs (es.map (·.2))=P at *;generalize (es.map (·.2)).map nI=N at *;generalize (es.map fun e=>e.1.dat)=Q at *;generalize es.map bO=E at *;generalize PyData.tuple (hs.map Dd.dat)=hd at *;simp only [dR,fF,fU,fT,fV,fW,fX,hO,hU,hV,fR,fS,gX,hJ,gH,gY,gZ,hH,bdi] at m1 m2;rw [show d+3=(d+2)+1 from rfl,aU9];simp [m1,m2,cp,szl,eS]
def hdL (hs:List Dd):List Int:=ST.srt (ST.dd ((tk hs).map fun i=>((gD hs i).hand:Int)))
def yN {hs:List Dd} {q:Int}:∀ e∈ents hs q,e.2∈tk hs:=fun e he=>by
 obtain ⟨i,hi,z⟩:=List.mem_filterMap.mp he;unfold cQ at z;split at z
 ·injection z with z;subst z;exact hi
 ·split at z
  ·injection z with z;subst z;exact hi
  ·cases z
def nJ {hs:List Dd} (ok:HOk hs) (q:Int):(ents hs q).length<=60:=Nat.le_trans (List.length_filterMap_le _ _) (nH ok)
def yO (d:Nat) (h:aA) {hs:List Dd} (ok:HOk hs):(aG (YG 0) (aC true) (xb (xb (aB 1) fun x=>xb (aB 0) (YX x)) (YI 0)) none ((tk hs).map nI) ((tk hs).map nI) [none,some (.d (.tuple (hs.map Dd.dat)))] h []=some ((tk hs).map fun i=>.int ((gD hs i).hand:Int),h))/\xSS [.d (.list ((tk hs).map fun i=>.int ((gD hs i).hand:Int)))] h=some ((hdL hs).map .int,h):=by
 have ai:=fun {i} hi H=>kO (hs:=hs) (i:=i) hi H;generalize PyData.tuple (hs.map Dd.dat)=hd at *;refine ⟨cmM nI (fun i=>.int ((gD hs i).hand:Int)) (fun δ=>∃ u,δ=[u,some (.d hd)]) _ _ ⟨_,rfl⟩ fun i hi δ hδ=>?_,?_⟩
 ·obtain ⟨u,rfl⟩:=hδ;have ai:=ai (kP hi);have d0:=wE (gD hs i) h;refine ⟨_,rfl,⟨_,rfl⟩,?_⟩;simp [nI,ai,d0]
 ·have e:xSS [.d (.list ((tk hs).map fun i=>.int ((gD hs i).hand:Int)))] h=(cA ((tk hs).map fun i=>.int ((gD hs i).hand:Int))).bind fun ns=>if ns.length<=62 then some ((ST.srt (ST.dd ns)).map .int,h) else none:=rfl
  rw [e,wC (fun i=>((gD hs i).hand:Int)) (tk hs)];simp only [CI.bs];rw [if_pos (by rw [List.length_map];have:=nH ok;omega)];rfl
def wG (hs:List Dd):List PyData:=(hdL hs).map fun q=>frD hs q (ents hs q)
def aN9 {hs:List Dd} (ok:HOk hs) {H:aA} {ts:List (Pos×Str)} (ht:H[0]?=some (.t ts)) (hts:wD ts):aD T (d+4) "framed" [.d (.tuple (hs.map Dd.dat)),.d (.str "hand")] H=some (.list (wG hs),H.set 0 (.t tE)):=by
 have hl:=(List.getElem?_eq_some_iff.mp ht).1;obtain ⟨G,hG⟩:∃ G,G=H.set 0 (.t tE):=⟨_,rfl⟩;have g0:G[0]?=some (.t tE):=by rw [hG];exact List.getElem?_set_self hl
 have gs:G.set 0 (.t tE)=G:=dU g0;have eE:∀ z,aM H (.rt (.d z),G)=some (z,G):=fun z=>by rw [hG];exact wF
 have ct:=tQ (d+2) ok ht hts;obtain ⟨h1,h2⟩:=yO d G ok;have m:aG (YG 0) (aC true) (xb (Y4 (aB 1) (aB 2) (aB 0) (xb (Y2 (aB 1) (aB 0)) (YF (d+3) "hand_entries"))) (YF (d+3) "frame")) none ((hdL hs).map .int) ((hdL hs).map .int) [none,some (.d (.tuple (hs.map Dd.dat))),some (.d (.str (Str.ofString "hand")))] G []=some (wG hs,G):=by
  refine cmM PyData.int (fun q=>frD hs q (ents hs q)) (fun δ=>∃ u,δ=[u,some (.d (.tuple (hs.map Dd.dat))),some (.d (.str (Str.ofString "hand")))]) _ _ ⟨_,rfl⟩ fun q hq δ hδ=>?_;obtain ⟨u,rfl⟩:=hδ;refine ⟨_,rfl,⟨_,rfl⟩,?_⟩;have e1:=aW9 d ok g0 (.inr rfl) q;rw [gs] at e1;have e2:=aX3 d G (es:=ents hs q) (fun e he=>kP (yN e he)) (nJ ok q) q;generalize PyData.tuple (hs.map Dd.dat)=hd at *;simp [e1,e2]
 rw [<- hG] at ct ⊢;rw [show d+4=(d+3)+1 from rfl,aL2];generalize PyData.tuple (hs.map Dd.dat)=hd at *;simp only [dR,fF,fU,fT,fV,fW,fX,hO,hU,hV,fR,fS,gX,hJ,gH,gY,gZ,hH,bdi] at m h1;simp [szl,xIn,ref,PyData.eqv,ct,h1,h2,m,eE]
def aX4 (h:aA):aD T (d+1) "check_promise" [.d (.str "hand")] h=some (.none,h):=by
 have eS:∀ δ:DSt,aM h (.nx δ,h)=some (.none,h):=fun δ=>by
  rw [aK7,if_pos (cY h),List.take_of_length_le (Nat.le_refl _)]
 simp [kX,isi,fJ,xIn,ref,PyData.eqv,eS]
def tT {hs:List Dd} (ok:HOk hs) {H:aA} {ts:List (Pos×Str)} (ht:H[0]?=some (.t ts)) (hts:wD ts):aD T (d+12) "frames_of" [.d (.tuple (hs.map Dd.dat)),.d (.str "hand")] H=some (.list (wG hs),H.set 0 (.t tE)):=by
 have e1:=tP d H ok;have e2:=aX4 (d+10) H;have e3:=aN9 (d+7) ok ht hts;generalize PyData.tuple (hs.map Dd.dat)=hd at *;rw [show d+12=(d+11)+1 from rfl,tA];have eE:∀ z,aM H (.rt (.d z),H.set 0 (.t tE))=some (z,H.set 0 (.t tE)):=fun z=>wF;simp [e1,e2,e3,eE]
def pnD (hs:List Dd) (q:Int):PyData:=.tuple [.int q,pbD hs (ents hs q)]
def nK {hs:List Dd} (ok:HOk hs) {H:aA} {ts:List (Pos×Str)} (ht:H[0]?=some (.t ts)) (hts:wD ts):callW T (d+13) "problems_of" [.d (.tuple (hs.map Dd.dat)),.d (.str "hand")] H=some (.c H.length,H.set 0 (.t tE)++[.l ((hdL hs).map (pnD hs))]):=by
 have e1:=tT d ok ht hts;have m:aG (aP [YG 0,YG 1,YG 2]) (aC true) (xb (xPl (Y2 (aB 0) (aB 1))) YT) none (wG hs) (wG hs) [none,none,none] (H.set 0 (.t tE)) []=some ((hdL hs).map (pnD hs),H.set 0 (.t tE)):=by
  refine cmM (fun q=>frD hs q (ents hs q)) (pnD hs) (fun δ=>∃ u v w,δ=[u,v,w]) _ _ ⟨_,_,_,rfl⟩ fun q hq δ hδ=>?_;obtain ⟨u,v,w,rfl⟩:=hδ;exact ⟨[some (.d (.int q)),some (.d (pbD hs (ents hs q))),some (.d (nsD (ents hs q)))],by simp [frD,aP,cT],⟨_,_,_,rfl⟩,by simp [pnD,szl]⟩
 generalize PyData.tuple (hs.map Dd.dat)=hd at *;simp only [dR,fF,fU,fT,fV,fW,fX,hO,hU,hV,fR,fS,gX,hJ,gH,gY,gZ,hH,bdi] at m;rw [show d+13=(d+12)+1 from rfl,mY];simp [e1,m,iO]
def yP {hs:List Dd} (ok:HOk hs) {H:aA} {ts:List (Pos×Str)} (ht:H[0]?=some (.t ts)) (hts:wD ts):callW T (d+13) "deeds_of" [.d (.tuple (hs.map Dd.dat)),.d (.str "hand")] H=some (.c H.length,H.set 0 (.t tE)++[.l ((hdL hs).map fun q=>nsD (ents hs q))]):=by
 have e1:=tT d ok ht hts;have m:aG (aP [YG 0,YG 1,YG 2]) (aC true) (aB 2) none (wG hs) (wG hs) [none,none,none] (H.set 0 (.t tE)) []=some ((hdL hs).map fun q=>nsD (ents hs q),H.set 0 (.t tE)):=by
  refine cmM (fun q=>frD hs q (ents hs q)) (fun q=>nsD (ents hs q)) (fun δ=>∃ u v w,δ=[u,v,w]) _ _ ⟨_,_,_,rfl⟩ fun q hq δ hδ=>?_;obtain ⟨u,v,w,rfl⟩:=hδ;exact ⟨[some (.d (.int q)),some (.d (pbD hs (ents hs q))),some (.d (nsD (ents hs q)))],by simp [frD,aP,cT],⟨_,_,_,rfl⟩,rfl⟩
 generalize PyData.tuple (hs.map Dd.dat)=hd at *;simp only [dR,fF,fU,fT,fV,fW,fX,hO,hU,hV,fR,fS,gX,hJ,gH,gY,gZ,hH,bdi] at m;rw [show d+13=(d+12)+1 from rfl,tF];simp [e1,m,iO]
end K46

namespace K46
open PySem PySem.Spec PyProof.Rows L2 DL CI SJ
theorem tU (hs:List Dd) (q:Int):∀ l:List Nat,((l.filterMap (cQ hs q)).map (·.2)).Sublist l
 | []=>.slnil
 | i::r=>by
  have ih:=tU hs q r;have h2:∀ e,cQ hs q i=some e->e.2=i:=fun e z=>by
   unfold cQ at z;split at z
   ·injection z with z;subst z;rfl
   ·split at z
    ·injection z with z;subst z;rfl
    ·cases z
  cases z:cQ hs q i with
  | none =>
   have:(i::r).filterMap (cQ hs q)=r.filterMap (cQ hs q):=by simp [z]
   rw [this];exact .cons _ ih
  | some e =>
   have:(i::r).filterMap (cQ hs q)=e::r.filterMap (cQ hs q):=by simp [z]
   rw [this,List.map_cons,h2 e z];exact .cons₂ _ ih
def tV (hs:List Dd) (ns:List Nat) (x:Nat):List PyData:=((List.range (ns.length - (x+1))).map fun z=>if decide ((gD hs (nxN ns x)).hand=(gD hs (nxN ns (x+1+z))).hand)=true then [p2 (x,x+1+z)] else []).flatten
def bL5 {hs:List Dd} {ns:List Nat} (hp:ns.Pairwise fun i j=>bgI hs i < bgI hs j) {x:Nat} (hx:x < ns.length):tV hs ns x=rI hs ns x:=by
 have gx:∀ k (hk:k < ns.length),nxN ns k=ns[k]:=fun k hk=>by simp [nxN,List.getD,hk]
 have lt:∀ i j,i < j->j < ns.length->(gD hs (nxN ns i)).beg < (gD hs (nxN ns j)).beg:=fun i j hij hj=>by
  have:=List.pairwise_iff_getElem.mp hp i j (by omega) hj hij;rw [gx i (by omega),gx j hj];unfold bgI at this;omega
 have e:ns.length=(x+1)+(ns.length - (x+1)):=by omega
 unfold rI;rw [e,List.range_add,List.map_append,List.flatten_append];have e1:((List.range (x+1)).map fun y=>if dW hs (nxN ns x) (nxN ns y)=true then [p2 (x,y)] else []).flatten=[]:=by
  rw [List.flatten_eq_nil_iff];intro l hl;obtain ⟨y,hy,rfl⟩:=List.mem_map.mp hl;have hy:=List.mem_range.mp hy;have:dW hs (nxN ns x) (nxN ns y)=false:=by
   unfold dW;rw [Bool.and_eq_false_iff];right;rw [decide_eq_false_iff_not]
   by_cases c:y=x
   ·subst c;omega
   ·have:=lt y x (by omega) hx;omega
  rw [this];rfl
 rw [e1,List.nil_append,List.map_map];unfold tV
 congr 1
 refine List.map_congr_left fun z hz=>?_;have hz:=List.mem_range.mp hz;have:=lt x (x+1+z) (by omega) (by omega);simp [dW,this]
def aO0 (hs:List Dd) (ns:List Nat):List PyData:=((List.range ns.length).map (tV hs ns)).flatten
def bL6 {hs:List Dd} {ns:List Nat} (hp:ns.Pairwise fun i j=>bgI hs i < bgI hs j):aO0 hs ns=gI hs ns:=by
 unfold aO0 gI
 congr 1
 exact List.map_congr_left fun x hx=>bL5 hp (List.mem_range.mp hx)
def aO1 (hs:List Dd) (ns:List Nat) (x:Nat):(tV hs ns x).length<=ns.length:=by
 have:=jO (fun z=>if decide ((gD hs (nxN ns x)).hand=(gD hs (nxN ns (x+1+z))).hand)=true then [p2 (x,x+1+z)] else []) 1 (fun y=>by split<;>simp) (List.range (ns.length - (x+1)));have e:tV hs ns x=((List.range (ns.length - (x+1))).map fun z=>if decide ((gD hs (nxN ns x)).hand=(gD hs (nxN ns (x+1+z))).hand)=true then [p2 (x,x+1+z)] else []).flatten:=rfl;rw [e];rw [List.length_range,Nat.one_mul] at this;exact Nat.le_trans this (Nat.sub_le _ _)
variable (d:Nat) (h:aA)
noncomputable def g2 (A B:List PyData):aA:=h++[.l A,.l B]
def g20 (A B:List PyData):(g2 h A B)[h.length]?=some (.l A):=by simp [g2]
def g21 (A B:List PyData):(g2 h A B)[h.length+1]?=some (.l B):=by simp [g2]
def s20 (A B C:List PyData):(g2 h A B).set h.length (.l C)=g2 h C B:=by simp [g2]
def s21 (A B C:List PyData):(g2 h A B).set (h.length+1) (.l C)=g2 h A C:=by simp [g2]
noncomputable def g3 (A B C:List PyData):aA:=h++[.l A,.l B,.l C]
def g30 (A B C:List PyData):(g3 h A B C)[h.length]?=some (.l A):=by simp [g3]
def g31 (A B C:List PyData):(g3 h A B C)[h.length+1]?=some (.l B):=by simp [g3]
def g32 (A B C:List PyData):(g3 h A B C)[h.length+2]?=some (.l C):=by simp [g3]
def s32 (A B C D:List PyData):(g3 h A B C).set (h.length+2) (.l D)=g3 h A B D:=by simp [g3]
def bL7 {H:aA} {j:Nat} {xs:List PyData} (e:H[j]?=some (.l xs)):iV "append" (.c j) H=true:=by simp [iV,e]
def aO2 {H:aA} {j:Nat} {xs:List PyData} (e:H[j]?=some (.l xs)):aY [.c j] H=some (.d (.int xs.length),H):=by simp [aY,ref,e]
def wH {H:aA} {j:Nat} {xs:List PyData} (e:H[j]?=some (.l xs)):aZ [.c j] H=some (.d (.tuple xs),H):=by simp [aZ,ref,e]
def bL8 {hs:List Dd} (ok:HOk hs) (q:Int):aD T (d+3) "_law_hand" [.d (.tuple (hs.map Dd.dat)),.d (.int q)] h=some (.tuple [pnD hs q,nsD (ents hs q)],h):=by
 have ai:=fun {i} hi H=>kO (hs:=hs) (i:=i) hi H;have cb:=tR (d+1) (g2 h [] []) ok;obtain ⟨hd,ehd⟩:∃ hd,hd=PyData.tuple (hs.map Dd.dat):=⟨_,rfl⟩;rw [<- ehd] at ai cb;have l1:∃ δ' h',bB (YG 4) (cW (d+2)) none ((tk hs).map nI) ((tk hs).map nI) [some (.d hd),some (.d (.int q)),some (.c h.length),some (.c (h.length+1)),none,none,none,none,none] (g2 h [] [])=some (.nx δ',h')/\((∃ x4 x5,δ'=[some (.d hd),some (.d (.int q)),some (.c h.length),some (.c (h.length+1)),x4,x5,none,none,none])/\h'=g2 h (((ents hs q).map (·.2)).map nI) ((ents hs q).map fun e=>e.1.dat)):=by
  refine dJ (fun m δ h'=>(∃ x4 x5,δ=[some (.d hd),some (.d (.int q)),some (.c h.length),some (.c (h.length+1)),x4,x5,none,none,none])/\h'=g2 h (((((tk hs).take m).filterMap (cQ hs q)).map (·.2)).map nI) ((((tk hs).take m).filterMap (cQ hs q)).map fun e=>e.1.dat)) ⟨⟨_,_,rfl⟩,rfl⟩ (fun δ h'=>by rw [List.length_map,List.take_length];exact id) fun m hm δ h'=>?_;rintro ⟨⟨x4,x5,rfl⟩,rfl⟩;have hm':m < (tk hs).length:=by simpa using hm
  obtain ⟨i,ei⟩:∃ i,i=(tk hs)[m]:=⟨_,rfl⟩;have him:i∈tk hs:=by rw [ei];exact List.getElem_mem hm'
  have hi:=kP him;have hk:=yL him;have ak:=tS hk;rw [List.getElem_map,<- ei,List.take_succ_eq_append_getElem hm',<- ei,List.filterMap_append];simp only [List.map_append];have al:(((tk hs).take m).filterMap (cQ hs q)).length<=60:=by
   have h1:=List.length_filterMap_le (cQ hs q) ((tk hs).take m);rw [List.length_take] at h1;have:=nH ok;omega
  generalize ((tk hs).take m).filterMap (cQ hs q)=acc at al;have al':acc.length < 16777216:=by omega
  have cm:=fun H=>aA8 d H (ok.ok _ (rD hi)).call;have cw:=fun H=>bL4 (d+1) H (gD hs i);have aI:=fun H=>ai hi H;have d0:=wE (gD hs i);have d3:=bX6 (gD hs i);have d4:=aW6 (gD hs i);rw [ak] at d4;have ee:([i].filterMap (cQ hs q))=(cQ hs q i).toList:=by cases z:cQ hs q i<;>simp [z]
  rw [ee];unfold cQ;generalize gD hs i=x at *;obtain ⟨N,hN⟩:∃ N,N=(acc.map (·.2)).map nI:=⟨_,rfl⟩;obtain ⟨I,hI⟩:∃ I,I=acc.map fun e=>e.1.dat:=⟨_,rfl⟩;have lN:N.length < 16777216:=by rw [hN];simpa using al'
  have lI:I.length < 16777216:=by rw [hI];simpa using al'
  rw [<- hN,<- hI];have k0:=g20 h N I;have mp0:=bL7 k0;have k1:=fun N'=>g21 h N' I;have mp1:=fun N'=>bL7 (k1 N');have t0:=s20 h N I;have t1:=fun N'=>s21 h N' I;refine ⟨_,_,rfl,?_⟩;unfold cW;refine sys [some (.d hd),some (.d (.int q)),some (.c h.length),some (.c (h.length+1)),some (.d (nI i)),some (.d x.dat),none,none,none] (g2 h N I) (by simp [nI,aI]) ?_
  by_cases c1:(x.hand:Int)=q
  ·refine ⟨[some (.d hd),some (.d (.int q)),some (.c h.length),some (.c (h.length+1)),some (.d (nI i)),some (.d x.dat),none,none,none],g2 h (N++[nI i]) (I++[(It.mk x.call (aN6 x) x.fin.isNone).dat]),?_,⟨_,_,rfl⟩,?_⟩
   ·simp [d0,d3,d4,c1,mp0,mp1,k0,k1,t0,t1,szl,lN,lI,It.dat,cw]
   ·simp [c1]
  ·cases c2:kZ x.call with
   | true =>
    rw [c2] at cm;refine ⟨[some (.d hd),some (.d (.int q)),some (.c h.length),some (.c (h.length+1)),some (.d (nI i)),some (.d x.dat),none,none,none],g2 h (N++[nI i]) (I++[(It.mk x.call none x.fin.isNone).dat]),?_,⟨_,_,rfl⟩,?_⟩
    ·simp [d0,d3,d4,c1,mp0,mp1,k0,k1,t0,t1,szl,lN,lI,It.dat,cw,cm,tD]
    ·simp [c1]
   | false =>
    rw [c2] at cm;refine ⟨[some (.d hd),some (.d (.int q)),some (.c h.length),some (.c (h.length+1)),some (.d (nI i)),some (.d x.dat),none,none,none],g2 h N I,?_,⟨_,_,rfl⟩,?_⟩
    ·simp [d0,d3,c1,cm]
    ·simp [c1]
 obtain ⟨_,_,e1,⟨x4,x5,rfl⟩,rfl⟩:=l1;have nl:((ents hs q).map (·.2)).length<=60:=by rw [List.length_map];exact nJ ok q
 have nlt:∀ i∈(ents hs q).map (·.2),i < hs.length:=fun i hi=>by
  obtain ⟨e,he,rfl⟩:=List.mem_map.mp hi;exact kP (yN e he)
 have npw:((ents hs q).map (·.2)).Pairwise fun i j=>bgI hs i < bgI hs j:=(bX8 ok).sublist (tU hs q (tk hs));have pe:=bL6 npw;have eF:PyData.tuple [pnD hs q,nsD (ents hs q)]=.tuple [.tuple [.int q,.tuple [.tuple [.int 0,.int 0,.int 0,.int 0,.int 0,.int 0,.int 0,.int 0],.tuple ((ents hs q).map fun e=>e.1.dat),.tuple (aO0 hs ((ents hs q).map (·.2))),.tuple []]],.tuple (((ents hs q).map (·.2)).map nI)]:=by rw [pe];rfl
 rw [eF];obtain ⟨I,hI⟩:∃ I,I=(ents hs q).map fun e=>e.1.dat:=⟨_,rfl⟩;rw [<- hI] at e1 ⊢;generalize (ents hs q).map (·.2)=ns at nl nlt e1 ⊢;have nx:∀ k,k < ns.length->atI (ns.map nI) (k:Int)=some (.int (nxN ns k)):=fun k hk=>eH (by simp [nI,nxN,List.getD,hk]);have l2:∃ δ',bB (YG 7) (cV (d+2)) none ((List.range ns.length).map nI) ((List.range ns.length).map nI) [some (.d hd),some (.d (.int q)),some (.c h.length),some (.c (h.length+1)),x4,x5,some (.c (h.length+2)),none,none] (g3 h (ns.map nI) I [])=some (.nx δ',g3 h (ns.map nI) I ([]++((List.range ns.length).map (tV hs ns)).flatten))/\∃ x7 x8,δ'=[some (.d hd),some (.d (.int q)),some (.c h.length),some (.c (h.length+1)),x4,x5,some (.c (h.length+2)),x7,x8]:=by
  refine fI nI (tV hs ns) (fun acc=>g3 h (ns.map nI) I acc) (fun δ=>∃ x7 x8,δ=[some (.d hd),some (.d (.int q)),some (.c h.length),some (.c (h.length+1)),x4,x5,some (.c (h.length+2)),x7,x8]) 10000 60 (fun q=>Nat.le_trans (aO1 hs ns q) nl) (List.range ns.length) [] _ ⟨_,_,rfl⟩ (by rw [List.length_range,List.length_nil];omega) ?_;rintro x hx acc δ ⟨x7,x8,rfl⟩ ha;have hx:=List.mem_range.mp hx;refine ⟨_,rfl,?_⟩;have k0:=fun acc=>g30 h (ns.map nI) I acc;have er:cU ((x:Int)+1) ns.length=true:=jM (i:=x+1) (by omega) (by omega);have tn:((ns.length:Int) - ((x:Int)+1)).toNat=ns.length - (x+1):=by omega
  have er':rng ((x:Int)+1) (ns.length - (x+1))=(List.range (ns.length - (x+1))).map fun z=>nI (x+1+z):=by
   simp [rng,nI]
  have le:=aO2 (k0 acc);rw [List.length_map] at le;unfold cV;refine ypF (((List.range (ns.length - (x+1))).map (fun z=>nI (x+1+z)),none),g3 h (ns.map nI) I acc) (by simp [nI,le,er,tn,er']) (yeE (exI (fI (fun z=>nI (x+1+z)) (fun z=>if decide ((gD hs (nxN ns x)).hand=(gD hs (nxN ns (x+1+z))).hand)=true then [p2 (x,x+1+z)] else []) (fun acc=>g3 h (ns.map nI) I acc) (fun δ=>∃ x8,δ=[some (.d hd),some (.d (.int q)),some (.c h.length),some (.c (h.length+1)),x4,x5,some (.c (h.length+2)),some (.d (nI x)),x8]) 10100 1 (fun q=>by split<;>simp) _ _ _ ⟨_,rfl⟩ (by simp;omega) ?_) fun δ hδ=>by obtain ⟨x8,rfl⟩:=hδ;exact ⟨_,_,rfl⟩));rintro z hz acc δ ⟨x8,rfl⟩ ha;have hz:=List.mem_range.mp hz;have hy:x+1+z < ns.length:=by omega
  refine ⟨_,rfl,?_⟩;generalize x+1+z=y at hy ⊢;have al:acc.length < 16777216:=by omega
  have ix:∀ k:Nat,k < ns.length->xIx (.c h.length) (.d (.int k)) (g3 h (ns.map nI) I acc)=some (.d (.int (nxN ns k)),g3 h (ns.map nI) I acc):=fun k hk=>by rw [iR (k0 acc) (k:Int),nx k hk];rfl
  have i1:=ix x hx;have i2:=ix y hy;have a1:=ai (nlt _ (rJ hx)) (g3 h (ns.map nI) I acc);have a2:=ai (nlt _ (rJ hy)) (g3 h (ns.map nI) I acc);have d1:=wE (gD hs (nxN ns x)) (g3 h (ns.map nI) I acc);have d2:=wE (gD hs (nxN ns y)) (g3 h (ns.map nI) I acc);have k2:=g32 h (ns.map nI) I acc;have mp:=bL7 k2;have st:=s32 h (ns.map nI) I acc;refine ⟨[some (.d hd),some (.d (.int q)),some (.c h.length),some (.c (h.length+1)),x4,x5,some (.c (h.length+2)),some (.d (nI x)),some (.d (nI y))],?_,_,rfl⟩
  by_cases c:(gD hs (nxN ns x)).hand=(gD hs (nxN ns y)).hand
  ·have c':((gD hs (nxN ns x)).hand:Int)=(gD hs (nxN ns y)).hand:=by omega
   simp [nI,i1,i2,a1,a2,d1,d2,c,mp,k2,st,al,szl,p2]
  ·have c':¬ ((gD hs (nxN ns x)).hand:Int)=(gD hs (nxN ns y)).hand:=by omega
   simp [nI,i1,i2,a1,a2,d1,d2,c,c']
 obtain ⟨_,e2,x7,x8,rfl⟩:=l2;rw [List.nil_append] at e2;have eP:((List.range ns.length).map (tV hs ns)).flatten=aO0 hs ns:=rfl;rw [eP] at e2;obtain ⟨P,hP⟩:∃ P,P=aO0 hs ns:=⟨_,rfl⟩;rw [<- hP] at e2 ⊢;have er:cU 0 ns.length=true:=cL (by omega) (by omega);have len0:=aO2 (g30 h (ns.map nI) I []);rw [List.length_map] at len0;have t0:=wH (g30 h (ns.map nI) I P);have t1:=wH (g31 h (ns.map nI) I P);have t2:=wH (g32 h (ns.map nI) I P);have ek:=fun z=>aT (z:=z) (h:=h) (H:=g3 h (ns.map nI) I P) (fun i hi=>by unfold g3;exact List.getElem?_append_left hi) (by simp [g3]);rw [<- ehd,show d+3=(d+2)+1 from rfl,tH];refine sq (.rt (.d (.tuple [.tuple [.int q,.tuple [.tuple [.int 0,.int 0,.int 0,.int 0,.int 0,.int 0,.int 0,.int 0],.tuple I,.tuple P,.tuple []]],.tuple (ns.map nI)])),g3 h (ns.map nI) I P) ?_ (ek _);refine sy [some (.d hd),some (.d (.int q)),some (.c h.length),none,none,none,none,none,none] (h++[.l []]) (by simp) ?_;refine sy [some (.d hd),some (.d (.int q)),some (.c h.length),some (.c (h.length+1)),none,none,none,none,none] (g2 h [] []) (by simp [g2]) ?_;refine sy [some (.d hd),some (.d (.int q)),some (.c h.length),some (.c (h.length+1)),x4,x5,none,none,none] (g2 h (ns.map nI) I) (ypS (((tk hs).map nI,none),g2 h [] []) (by simp [cb]) e1) ?_;refine sy [some (.d hd),some (.d (.int q)),some (.c h.length),some (.c (h.length+1)),x4,x5,some (.c (h.length+2)),none,none] (g3 h (ns.map nI) I []) (by simp [g2,g3]) ?_;refine sy [some (.d hd),some (.d (.int q)),some (.c h.length),some (.c (h.length+1)),x4,x5,some (.c (h.length+2)),x7,x8] (g3 h (ns.map nI) I P) (ypS (((List.range ns.length).map nI,none),g3 h (ns.map nI) I []) (by simp [len0,er,vY]) e2) ?_;simp [szl,t0,t1,t2]
end K46

namespace K46
open PySem PySem.Spec PyProof.Rows L2 DL CI SJ
variable (d:Nat) (h:aA)
def bA6 (x:It):nD x.dat=true:=by
 obtain ⟨c,t,w⟩:=x;cases t with
 | none=>simp [It.dat,tD]
 | some a=>simp [It.dat,tD,aL6]
def aO3 (w:Bool):xIn (.d (.str (Str.ofString (wdS w)))) (.d (.tuple [.str (Str.ofString "must"),.str (Str.ofString "may"),.str (Str.ofString "out")])) h=some true:=by
 cases w<;>simp [xIn,ref,PyData.eqv,wdS]
def aB0 {x:It} (hx:x.ok):aD T (d+10) "is_item" [.d x.dat] h=some (.bool true,h):=by
 have e0:=bS (d+8) x.dat h 3 (bA6 x);have e1:=pH (d+1) x.c.dat h (nE hx.c) (rA x.c);rw [(fE hx.c).2.1] at e1;have ew:=aO3 h x.w;obtain ⟨c,t,w⟩:=x;dsimp only at e1 ew;cases t with
 | none =>
  simp only [It.dat,tD] at e0 ⊢;simp [pD,fB,e0,e1,isi,fJ,ew]
 | some a =>
  have e2:=aZ8 d h hx.c (a:=some a) (fun b e=>hx.t b e);have isn:=bX0 a;simp only [It.dat,tD,anD] at e0 e2 ⊢;generalize a.dat=t at *;simp [pD,fB,e0,e1,e2,isi,fJ,ew,isn]
def tW {xs:List It} (hx:∀ x∈xs,x.ok) (hl:xs.length<=60):aD T (d+11) "are_items" [.d (.tuple (xs.map It.dat))] h=some (.bool true,h):=by
 have hl':(xs.length:Int)<=120:=by omega
 have cm:aG (YG 0) (aC true) (xb (Y1 (aB 0)) (YF (d+10) "is_item")) none (xs.map It.dat) (xs.map It.dat) [none] h []=some (xs.map fun _=>.bool true,h):=by
  refine cmM It.dat (fun _=>.bool true) (fun δ=>∃ u,δ=[u]) _ _ ⟨_,rfl⟩ fun x hx' δ hδ=>?_;obtain ⟨u,rfl⟩:=hδ;refine ⟨_,rfl,⟨_,rfl⟩,?_⟩;simp [aB0 d h (hx x hx')]
 have bc:=iH true xs;simp only [dR,fF,fU,fT,fV,fW,fX,hO,hU,hV,fR,fS,gX,hJ,gH,gY,gZ,hH,bdi] at cm;simp [tB,isi,fJ,hl',aN,cm,bc]
def aB1 {ns:List Int} {n:Int} (hb:∀ x∈ns,0<=x/\x < n):aD T (d+3) "are_numbers" [.d (.tuple (ns.map .int)),.d (.int n)] h=some (.bool true,h):=by
 have cm:aG (YG 0) (aC true) (xb (Y3 (aB 0) (YJ 0) (xb (aB 1) (YB .Sub 1))) (YF (d+2) "is_between")) none (ns.map PyData.int) (ns.map PyData.int) [none,some (.d (.int n))] h []=some (ns.map fun _=>.bool true,h):=by
  refine cmM PyData.int (fun _=>.bool true) (fun δ=>∃ u,δ=[u,some (.d (.int n))]) _ _ ⟨_,rfl⟩ fun x hx' δ hδ=>?_;obtain ⟨u,rfl⟩:=hδ;refine ⟨_,rfl,⟨_,rfl⟩,?_⟩;have:=hb x hx';have cb:=gB d (.int x) h 0 (n - 1) rfl;have bt:dF (.int x) 0 (n - 1)=true:=by simp [dF];omega
  rw [bt] at cb;simp [cb]
 have bc:=iH true ns;simp only [dR,fF,fU,fT,fV,fW,fX,hO,hU,hV,fR,fS,gX,hJ,gH,gY,gZ,hH,bdi] at cm;simp [nY,aN,cm,bc]
def aO4 {ns:List Int} (h:ns.Nodup):ST.dd ns=ns:=by
 unfold ST.dd
 suffices H:∀ (l ac:List Int),(ac++l).Nodup->l.foldl step_dedup ac=ac++l by simpa using H ns [] (by simpa using h)
 intro l;induction l with
 | nil=>simp
 | cons a r ih =>
  intro ac hn;rw [List.foldl_cons];have hna:a∉ac:=fun hm=>by
   have:=(List.nodup_append.mp hn).2.2 a hm a List.mem_cons_self;exact this rfl
  have e:step_dedup ac a=ac++[a]:=by
   unfold step_dedup;simp [hna]
  rw [e,ih (ac++[a]) (by simpa using hn)];simp
def lsT (xs:List PyData) (h:aA):xLS [.d (.tuple xs)] h=(match cA xs with | some ns=>if ns.length<=62 then some (.d (.int (ST.dd ns).length),h) else none | none=>none):=rfl
def aB2 {x y n:Nat} (hx:x < n) (hy:y < n) (hn:x≠y):aD T (d+4) "are_unlike" [.d (p2 (x,y)),.d (.int 2),.d (.int n)] h=some (.bool true,h):=by
 have e:=aB1 d h (ns:=[(x:Int),(y:Int)]) (n:=n) (by simp;omega);have e0:=bS (d+2) (p2 (x,y)) h 2 rfl;have nd:([(x:Int),(y:Int)]).Nodup:=by simp;omega
 have ls:xLS [.d (.tuple [.int x,.int y])] h=some (.d (.int 2),h):=by
  rw [lsT];have:cA [PyData.int x,.int y]=some [(x:Int),(y:Int)]:=rfl;rw [this];dsimp only;rw [aO4 nd];rfl
 have e:aD T (d+3) (Str.ofString "are_numbers") [.d (.tuple [.int x,.int y]),.d (.int n)] h=some (.bool true,h):=e;simp only [p2] at e0 ⊢;simp [qW,fB,e0,e,ls]
def tX {P:List PyData} {n:Nat} (hl:P.length<=4000) (hp:∀ z∈P,∃ x y,x < n/\y < n/\x≠y/\z=p2 (x,y)):aD T (d+5) "are_pairs" [.d (.tuple P),.d (.int n)] h=some (.bool true,h):=by
 have hl':¬ (4000:Int) < P.length:=by omega
 have cm:aG (YG 0) (aC true) (xb (Y3 (aB 0) (YJ 2) (aB 1)) (YF (d+4) "are_unlike")) none P P [none,some (.d (.int n))] h []=some (P.map fun _=>.bool true,h):=by
  refine aK6 (fun _=>.bool true) (fun δ=>∃ u,δ=[u,some (.d (.int n))]) _ _ ⟨_,rfl⟩ fun z hz δ hδ=>?_;obtain ⟨u,rfl⟩:=hδ;obtain ⟨x,y,hx,hy,hn,rfl⟩:=hp z hz;refine ⟨_,rfl,⟨_,rfl⟩,?_⟩;simp [aB2 d h hx hy hn]
 have bc:=iH true P;simp only [dR,fF,fU,fT,fV,fW,fX,hO,hU,hV,fR,fS,gX,hJ,gH,gY,gZ,hH,bdi] at cm;simp [tC,isi,fJ,hl',aN,cm,bc]
def rK (x:PyData):aD T (d+1) "are_triples" [.d (.tuple []),.d x] h=some (.bool true,h):=by
 simp [nZ,isi,fJ,aN,aG,show cZ []=some [] from rfl]
def rL {hs:List Dd} {ns:List Nat} {z:PyData} (hz:z∈gI hs ns):∃ x y,x < ns.length/\y < ns.length/\x≠y/\z=p2 (x,y):=by
 unfold gI at hz;obtain ⟨l,hl,hz⟩:=List.mem_flatten.mp hz;obtain ⟨x,hx,rfl⟩:=List.mem_map.mp hl;unfold rI at hz;obtain ⟨l,hl,hz⟩:=List.mem_flatten.mp hz;obtain ⟨y,hy,rfl⟩:=List.mem_map.mp hl;split at hz
 ·rename_i a;refine ⟨x,y,List.mem_range.mp hx,List.mem_range.mp hy,fun e=>?_,List.mem_singleton.mp hz⟩;subst e;simp [dW] at a
 ·cases hz
def prs_len (hs:List Dd) {ns:List Nat} (hl:ns.length<=60):(gI hs ns).length<=4000:=by
 have:=jO (rI hs ns) 60 (fun x=>Nat.le_trans (yM hs ns x) hl) (List.range ns.length);rw [List.length_range] at this;unfold gI;omega
def aX5 {hs:List Dd} (ok:HOk hs) {q:Int}:∀ e∈ents hs q,e.1.ok:=fun e he=>by
 obtain ⟨i,hi,z⟩:=List.mem_filterMap.mp he;have o:=ok.ok _ (rD (kP hi));unfold cQ at z;split at z
 ·injection z with z
  subst z;refine ⟨o.call,fun a ea=>?_⟩;dsimp only at ea ⊢;unfold aN6 at ea;cases f:(gD hs i).fin with
  | none=>rw [f] at ea;cases ea
  | some p =>
   rw [f] at ea;exact (o.fin p f).2 a ea
 ·split at z
  ·injection z with z
   subst z;exact ⟨o.call,fun _ z=>nomatch z⟩
  ·cases z
def rM {hs:List Dd} (ok:HOk hs) (q:Int):aD T (d+12) "is_problem" [.d (pbD hs (ents hs q))] h=some (.bool true,h):=by
 have hl:=nJ ok q;have e2:=tW d h (xs:=(ents hs q).map (·.1)) (fun x hx=>by obtain ⟨e,he,rfl⟩:=List.mem_map.mp hx;exact aX5 ok e he) (by simpa using hl);have e3:=tX (d+6) h (P:=gI hs ((ents hs q).map (·.2))) (n:=(ents hs q).length) (prs_len hs (by simpa using hl)) (fun z hz=>by have:=rL hz;rwa [List.length_map] at this);have e4:=fun x=>rK (d+10) h x;have nd:nD (pbD hs (ents hs q))=true:=by
  simp only [pbD,nDt,List.all_cons,List.all_nil,Bool.and_true,Bool.and_eq_true];refine ⟨rfl,?_,?_⟩
  ·rw [List.all_eq_true];intro z hz;obtain ⟨e,_,rfl⟩:=List.mem_map.mp hz;exact bA6 _
  ·rw [List.all_eq_true];intro z hz;obtain ⟨x,y,_,_,_,rfl⟩:=rL hz;rfl
 have e0:=bS (d+10) (pbD hs (ents hs q)) h 4 nd;have e5:aD T (d+11) (Str.ofString "is_stand") [.d aA9] h=some (.bool true,h):=by
  have a:=bS (d+9) aA9 h 8 rfl;have b:=dA (d+8) h [.int 0,.int 0,.int 0,.int 0,.int 0,.int 0,.int 0,.int 0] rfl;simp only [aA9] at a ⊢;simp [vP,a,b,fB,fP]
 rw [List.map_map] at e2;have e2:aD T (d+11) (Str.ofString "are_items") [.d (.tuple ((ents hs q).map fun e=>e.1.dat))] h=some (.bool true,h):=e2;have li:((ents hs q).map fun e=>e.1.dat).length=(ents hs q).length:=List.length_map _;simp only [pbD] at e0 ⊢;generalize gI hs ((ents hs q).map (·.2))=P at *;generalize ((ents hs q).map fun e=>e.1.dat)=I at *;generalize aA9=F at *;generalize (ents hs q).length=n at *;simp [qX,fB,e0,e2,e3,e4,e5,li]
end K46

namespace K46
open PySem PySem.Spec PyProof.Rows L2 DL CI SJ
mutual
theorem aO5:∀ (n:Nat) (d:PyData),aJ n d=true->CI.peq d d=true/\PyData.eqv d d=true
 | _,.none,_=>⟨rfl,by simp [PyData.eqv]⟩
 | _,.bool b,_=>⟨by simp [CI.peq],by simp [PyData.eqv]⟩
 | _,.int i,_=>⟨by simp [CI.peq],by simp [PyData.eqv]⟩
 | _,.str x,_=>⟨by simp [CI.peq],by simp [PyData.eqv]⟩
 | 0,.list _,h=>nomatch h
 | 0,.tuple _,h=>nomatch h
 | n+1,.list xs,h=>by
  have:=peqs_pl n xs h;exact ⟨by simpa [CI.peq] using this.1,by simpa [PyData.eqv] using this.2⟩
 | n+1,.tuple xs,h=>by
  have:=peqs_pl n xs h;exact ⟨by simpa [CI.peq] using this.1,by simpa [PyData.eqv] using this.2⟩
 | n,.dict _,h=>by cases n<;>cases h
theorem peqs_pl:∀ (n:Nat) (d:List PyData),plainsB n d=true->CI.peqs d d=true/\PyData.eqvAll d d=true
 | _,[],_=>⟨rfl,by simp [PyData.eqvAll]⟩
 | n,x::xs,h=>by
  rw [sR,Bool.and_eq_true] at h;have a:=aO5 n x h.1;have b:=peqs_pl n xs h.2;exact ⟨by simp [CI.peqs,a.1,b.1],by simp [PyData.eqvAll,a.2,b.2]⟩
end
theorem iK:∀ {n:Nat} {xs:List PyData},(∀ x∈xs,aJ n x=true)->plainsB n xs=true
 | _,[],_=>aT9 _
 | n,x::xs,h=>by rw [sR,h x List.mem_cons_self,iK fun y hy=>h y (List.mem_cons_of_mem _ hy)];rfl
def aX6 (c:SJ.Call) (n:Nat):aJ (n+3) c.dat=true:=by
 cases c with
 | one o=>exact aN5 o (n+2)
 | span lo hi=>simp [Call.dat]
 | deal cs=>simp [Call.dat,rH]
def bX9 (t:Option SJ.Ans) (n:Nat):aJ (n+3) (tD t)=true:=by
 cases t with
 | none=>simp [tD]
 | some a =>
  cases a with
  | one a=>exact wA a (n+2)
  | all ns=>simp [tD,Ans.dat,lF]
  | each as=>simp [tD,Ans.dat,rF]
def bY0 (x:It) (n:Nat):aJ (n+4) x.dat=true:=by simp [It.dat,aX6,bX9]
def bY1 (hs:List Dd) (q:Int) (n:Nat):aJ (n+6) (pbD hs (ents hs q))=true:=by
 have a:plainsB (n+4) ((ents hs q).map fun e=>e.1.dat)=true:=iK fun x hx=>by
  obtain ⟨e,_,rfl⟩:=List.mem_map.mp hx;exact bY0 e.1 n
 have b:plainsB (n+4) (gI hs ((ents hs q).map (·.2)))=true:=iK fun x hx=>by
  obtain ⟨x,y,_,_,_,rfl⟩:=rL hx;simp [p2]
 simp only [pbD];simp [aA9,a,b]
def PL (hs:List Dd):List PyData:=(hdL hs).map (pnD hs)
def NL (hs:List Dd):List PyData:=(hdL hs).map fun q=>nsD (ents hs q)
def aO6 (hs:List Dd) (n:Nat):plainsB (n+7) (PL hs)=true:=iK fun x hx=>by
 obtain ⟨q,_,rfl⟩:=List.mem_map.mp hx;simp [pnD,bY1 hs q n]
def bA7 (hs:List Dd) (n:Nat):plainsB (n+1) (NL hs)=true:=iK fun x hx=>by
 obtain ⟨q,_,rfl⟩:=List.mem_map.mp hx;simp only [nsD,aK5];exact iK fun y hy=>by
  obtain ⟨k,_,rfl⟩:=List.mem_map.mp hy;simp [nI]
def yQ {H:aA} {j:Nat} {xs:List PyData} (e:H[j]?=some (.l xs)) (p:plainsB 63 xs=true):xEq (.c j) (.d (.list xs)) H=some true:=by
 have:xEq (.c j) (.d (.list xs)) H=if (aJ 64 (.list xs)&&aJ 64 (.list xs))=true then some (PyData.eqv (.list xs) (.list xs)) else none:=by
  simp only [xEq,ref,e]
 have q:aJ 64 (.list xs)=true:=p;rw [this,q,(aO5 64 _ q).2];rfl
def bL9 {H:aA} {k:Nat} {xs:List PyData} (e:H[k]?=some (.l xs)) (hp:peqs xs xs=true):CI.condB (some (k,false)) xs H=true:=by
 simp [CI.condB,e,hp]
theorem cmN {α:Type} {g:XG} {tt:XR Bool} {te:XR W} {c:Cw} {all:List PyData} {h:aA} (hc:CI.condB c all h=true) (F:α->PyData) (I:DSt->Prop):∀ (qs:List α) (δ:DSt) (ac:List PyData),I δ ->
  (∀ q∈qs,∀ δ,I δ->∃ δ',g (.d (F q)) δ h=some (δ',h)/\I δ'/\tt δ' h=some (false,h))->aG g tt te c all (qs.map F) δ h ac=some (ac,h)
 | [],δ,ac,_,_=>by simp [aG,hc]
 | q::r,δ,ac,i,hx=>by
  obtain ⟨δ',e1,i',e2⟩:=hx q List.mem_cons_self δ i;rw [List.map_cons,aG,if_pos hc,e1];simp only [CI.bs,e2];rw [if_neg (by simp)];exact cmN hc F I r δ' ac i' fun y hy=>hx y (List.mem_cons_of_mem _ hy)
def bM0 (xs:List PyData) (x:PyData):cut (xs++[x]) none (some (-1))=xs:=by
 have e1:HT.sIx (xs++[x]).length 0 none=0:=by simp [HT.sIx]
 have e2:HT.sIx (xs++[x]).length (xs++[x]).length (some (-1))=xs.length:=by
  unfold HT.sIx;simp only [List.length_append,List.length_cons,List.length_nil];rw [if_pos (by omega)];omega
 rw [cut,e1,e2];simp
def RT (x:Option (Fl×aA)):Prop:=∃ L,x=some (.rt (.d (.bool true)),.t tE::L)
def cK4 {x:Option (Fl×aA)} (e:RT x):x.bind (aM [.t []])=some (.bool true,[.t tE]):=by
 obtain ⟨L,rfl⟩:=e;have ok:okP [.t []] (.t tE::L):=fun i c hi e'=>by
  have:i=0:=by simpa using hi
  subst this;simp at e';subst e';exact .inl (fun _ z=>nomatch z)
 rw [CI.bs,qS,if_pos ok];rfl
def aX7 (c:Int):∃ m:Nat,m<=60/\atI [PyData.int 4,.int 8,.int 20,.int 60] (c%4)=some (.int m):=by
 have:c%4=0\/c%4=1\/c%4=2\/c%4=3:=by omega
 rcases this with z | z | z | z<;>rw [z]
 ·exact ⟨4,by decide,by simp⟩
 ·exact ⟨8,by decide,by simp⟩
 ·exact ⟨20,by decide,by simp⟩
 ·exact ⟨60,by decide,by simp⟩
theorem dd_len:∀ (l ac:List Int),(l.foldl step_dedup ac).length<=ac.length+l.length
 | [],ac=>by simp
 | a::r,ac=>by
  rw [List.foldl_cons];have:=dd_len r (step_dedup ac a);have h2:(step_dedup ac a).length<=ac.length+1:=by
   unfold step_dedup;split<;>simp
  rw [List.length_cons];omega
theorem hd_len {hs:List Dd} (ok:HOk hs):(hdL hs).length<=62:=by
 have:=dd_len ((tk hs).map fun i=>((gD hs i).hand:Int)) [];have h2:=nH ok;unfold hdL ST.srt ST.dd;rw [List.length_mergeSort];simp at this;omega
def dT (sd:PyData) (m:Nat) (hd:PyData) (x3 x4 x5 x6:Option W):DSt:=[some (.d sd),some (.d (.int m)),some (.d hd),x3,x4,x5,x6]
def bM1 (S:List Int) (d:Nat):aD T (d+16) "law" [.d (.list (S.map .int))] [.t []]=some (.bool true,[.t tE]):=by
 have e4:cG 4=true:=by decide
 have c1:∀ h,aD T (d+15) (Str.ofString "_law_cell_at") [.d (.list (S.map .int)),.d (.int 1)] h=some (.int (clS S 1),h):=fun h=>aL7 (d+14) h S 1;have dw:=iI (d+14) [.t []] (clS S 1) 50;obtain ⟨m,hm,am⟩:=aX7 (clS S 1);obtain ⟨hn,h0,h6,eh⟩:∃ n:Nat,0 < n/\n<=6/\1+clS S 1 / 4%6=(n:Int):=⟨(1+clS S 1 / 4%6).toNat,by omega,by omega,by omega⟩;obtain ⟨hs1,ok1,sm1,g1⟩:=aA7 (d+10) [.t []] S (f:=2) (by decide) hm h0 h6;obtain ⟨hs2,ok2,sm2,g2⟩:=aW4 (d+10) [.t []] S (am:=40) (by decide) h0 h6;have g1:aD T (d+15) (Str.ofString "_law_history") [.d (.list (S.map .int)),.d (.int 2),.d (.int m),.d (.int hn)] [.t []]=some (.tuple (hs1.map Dd.dat),[.t []]):=g1;have g2:aD T (d+15) (Str.ofString "_law_dense") [.d (.list (S.map .int)),.d (.int 40),.d (.int hn)] [.t []]=some (.tuple (hs2.map Dd.dat),[.t []]):=g2;obtain ⟨sd,esd⟩:∃ sd,sd=PyData.list (S.map .int):=⟨_,rfl⟩;rw [<- esd] at c1 g1 g2;rw [<- esd,show d+16=(d+15)+1 from rfl,bW1];refine cK4 ?_;refine syP [some (.d sd),some (.d (.int m)),none,none,none,none,none] [.t []] (by simp [c1,am,szl]) ?_;refine syP (dT sd m (.tuple (hs1.map Dd.dat)) none none none none) [.t []] (by simp [c1,e4,eh,g1,dT]) ?_;obtain ⟨hs3,ok3,sm3,e3⟩:∃ hs3,HOk hs3/\Sm hs3/\hs3=if m=60 then hs2 else hs1:=⟨_,by split;exact ok2;exact ok1,by split;exact sm2;exact sm1,rfl⟩
 refine syP (dT sd m (.tuple (hs3.map Dd.dat)) none none none none) [.t []] (by
  by_cases z:m=60
  ·subst z;simp [c1,e4,eh,g2,dT,e3]
  ·have z':¬ ((m:Int)=60):=by omega
   simp [dT,e3,z,z']) ?_
 have cf:=bX4 (d+14) [.t []] ok3 sm3 (dwF (clS S 1) 50);have ok:=ok3.far (bL1 (dwF (clS S 1) 50));generalize hs3.map (fD (frF (dwF (clS S 1) 50)))=hs at cf ok;refine syP (dT sd m (.tuple (hs.map Dd.dat)) none none none none) [.t []] (by simp [dT,c1,dw,cf]) ?_;have cb:=tR (d+14) [.t []] ok;obtain ⟨ch1,ch2⟩:=yO 0 [.t []] ok;obtain ⟨hd,ehd⟩:∃ hd,hd=PyData.tuple (hs.map Dd.dat):=⟨_,rfl⟩;rw [<- ehd] at cb ch1 ⊢;simp only [dR,fF,fU,fT,fV,fW,fX,hO,hU,hV,fR,fS,gX,hJ,gH,gY,gZ,hH,bdi] at ch1;refine syP (dT sd m hd (some (.d (.list ((hdL hs).map .int)))) none none none) [.t []] (by simp [dT,cb,ch1,ch2]) ?_;have cd:aG (YG 0) (aC true) (xb (Y2 (aB 1) (aB 0)) (YF (d+15) "_law_hand")) none ((hdL hs).map .int) ((hdL hs).map .int) [none,some (.d hd)] [.t []] []=some ((hdL hs).map fun q=>.tuple [pnD hs q,nsD (ents hs q)],[.t []]):=by
  refine cmM PyData.int (fun q=>.tuple [pnD hs q,nsD (ents hs q)]) (fun δ=>∃ u,δ=[u,some (.d hd)]) _ _ ⟨_,rfl⟩ fun q hq δ hδ=>?_;obtain ⟨u,rfl⟩:=hδ;refine ⟨_,rfl,⟨_,rfl⟩,?_⟩;have:=bL8 (d+12) [.t []] ok q;rw [<- ehd] at this;simp [this]
 simp only [dR,fF,fU,fT,fV,fW,fX,hO,hU,hV,fR,fS,gX,hJ,gH,gY,gZ,hH,bdi] at cd;refine syP (dT sd m hd (some (.d (.list ((hdL hs).map .int)))) (some (.d (.list ((hdL hs).map fun q=>.tuple [pnD hs q,nsD (ents hs q)])))) none none) [.t []] (by simp [dT,cd]) ?_;have w1:=nK (d+2) ok (H:=[.t []]) (ts:=[]) rfl (.inl rfl);have w2:=yP (d+2) ok (H:=[.t tE,.l (PL hs)]) (ts:=tE) rfl (.inr rfl);rw [<- ehd] at w1 w2;have w1:callW T (d+15) (Str.ofString "problems_of") [.d hd,.d (.str (Str.ofString "hand"))] [.t []]=some (.c 1,[.t tE,.l (PL hs)]):=w1;have w2:callW T (d+15) (Str.ofString "deeds_of") [.d hd,.d (.str (Str.ofString "hand"))] [.t tE,.l (PL hs)]=some (.c 2,[.t tE,.l (PL hs),.l (NL hs)]):=w2;obtain ⟨x3,ex3⟩:∃ x3,x3=some (W.d (.list ((hdL hs).map .int))):=⟨_,rfl⟩;rw [<- ex3];obtain ⟨due,edue⟩:∃ due,due=(hdL hs).map fun q=>PyData.tuple [pnD hs q,nsD (ents hs q)]:=⟨_,rfl⟩;rw [<- edue];refine syP (dT sd m hd x3 (some (.d (.list due))) (some (.c 1)) none) [.t tE,.l (PL hs)] (by simp [dT,w1]) ?_;refine syP (dT sd m hd x3 (some (.d (.list due))) (some (.c 1)) (some (.c 2))) [.t tE,.l (PL hs),.l (NL hs)] (by simp [dT,w2]) ?_;have f1:∀ H,aG (aP [YG 0,YG 1]) (aC true) (aB 0) none due due [none,none] H []=some (PL hs,H):=fun H=>by
  rw [edue];refine cmM (fun q=>PyData.tuple [pnD hs q,nsD (ents hs q)]) (pnD hs) (fun δ=>∃ u v,δ=[u,v]) _ _ ⟨_,_,rfl⟩ fun q hq δ hδ=>?_;obtain ⟨u,v,rfl⟩:=hδ;exact ⟨[some (.d (pnD hs q)),some (.d (nsD (ents hs q)))],by simp [aP,cT],⟨_,_,rfl⟩,rfl⟩
 have f2:∀ H,aG (aP [YG 0,YG 1]) (aC true) (aB 1) none due due [none,none] H []=some (NL hs,H):=fun H=>by
  rw [edue];refine cmM (fun q=>PyData.tuple [pnD hs q,nsD (ents hs q)]) (fun q=>nsD (ents hs q)) (fun δ=>∃ u v,δ=[u,v]) _ _ ⟨_,_,rfl⟩ fun q hq δ hδ=>?_;obtain ⟨u,v,rfl⟩:=hδ;exact ⟨[some (.d (pnD hs q)),some (.d (nsD (ents hs q)))],by simp [aP,cT],⟨_,_,rfl⟩,rfl⟩
 simp only [dR,fF,fU,fT,fV,fW,fX,hO,hU,hV,fR,fS,gX,hJ,gH,gY,gZ,hH,bdi] at f1 f2;have q1:∀ H:aA,H[1]?=some (.l (PL hs))->xEq (.c 1) (.d (.list (PL hs))) H=some true:=fun H e=>yQ e (aO6 hs 56);have q2:∀ H:aA,H[2]?=some (.l (NL hs))->xEq (.c 2) (.d (.list (NL hs))) H=some true:=fun H e=>yQ e (bA7 hs 62);have q1':=q1 [.t tE,.l (PL hs),.l (NL hs)] rfl;have q2':=q2 [.t tE,.l (PL hs),.l (NL hs)] rfl;refine syP (dT sd m hd x3 (some (.d (.list due))) (some (.c 1)) (some (.c 2))) [.t tE,.l (PL hs),.l (NL hs)] (by simp [dT,f1,f2,q1',q2']) ?_
 -- none that is no problem
 have nn:aG (aP [YG 0,YG 1]) (xb (xb (xb (Y1 (aB 1)) (YF (d+15) "is_problem")) YD) fun (b:Bool)=>aC !b) (aB 1) (some (1,false)) (PL hs) (PL hs) [none,none] [.t tE,.l (PL hs),.l (NL hs)] []=some ([],[.t tE,.l (PL hs),.l (NL hs)]):=by
  refine cmN (bL9 rfl (peqs_pl 63 _ (aO6 hs 56)).1) (pnD hs) (fun δ=>∃ u v,δ=[u,v]) (hdL hs) _ _ ⟨_,_,rfl⟩ fun q hq δ hδ=>?_;obtain ⟨u,v,rfl⟩:=hδ;refine ⟨[some (.d (.int q)),some (.d (pbD hs (ents hs q)))],by simp [pnD,aP,cT],⟨_,_,rfl⟩,?_⟩;have:=rM (d+3) [.t tE,.l (PL hs),.l (NL hs)] ok q;simp [this]
 simp only [dR,fF,fU,fT,fV,fW,fX,hO,hU,hV,fR,fS,gX,hJ,gH,gY,gZ,hH,bdi,cK1] at nn;have ee:xEq (.d (.list [])) (.d (.list [])) [.t tE,.l (PL hs),.l (NL hs)]=some true:=by simp [xEq,ref,PyData.eqv,PyData.eqvAll]
 refine syP (dT sd m hd x3 (some (.d (.list due))) (some (.c 1)) (some (.c 2))) [.t tE,.l (PL hs),.l (NL hs)] (by simp [dT,nn,ee]) ?_;have hl:=hd_len ok;have lP:(PL hs).length < 16777216:=by simp [PL];omega
 have lN:(NL hs).length < 16777216:=by simp [NL];omega
 refine syP (dT sd m hd x3 (some (.d (.list due))) (some (.c 1)) (some (.c 2))) [.t tE,.l (PL hs++[.none]),.l (NL hs)] (by simp [dT,iV,szl,lP]) ?_;refine syP (dT sd m hd x3 (some (.d (.list due))) (some (.c 1)) (some (.c 2))) [.t tE,.l (PL hs++[.none]),.l (NL hs++[.tuple []])] (by simp [dT,iV,szl,lN]) ?_;have v1:=nK (d+2) ok (H:=[.t tE,.l (PL hs++[.none]),.l (NL hs++[.tuple []])]) (ts:=tE) rfl (.inr rfl);have v2:=yP (d+2) ok (H:=[.t tE,.l (PL hs++[.none]),.l (NL hs++[.tuple []]),.l (PL hs)]) (ts:=tE) rfl (.inr rfl);rw [<- ehd] at v1 v2;have v1:callW T (d+15) (Str.ofString "problems_of") [.d hd,.d (.str (Str.ofString "hand"))] [.t tE,.l (PL hs++[.none]),.l (NL hs++[.tuple []])]=some (.c 3,[.t tE,.l (PL hs++[.none]),.l (NL hs++[.tuple []]),.l (PL hs)]):=v1;have v2:callW T (d+15) (Str.ofString "deeds_of") [.d hd,.d (.str (Str.ofString "hand"))] [.t tE,.l (PL hs++[.none]),.l (NL hs++[.tuple []]),.l (PL hs)]=some (.c 4,[.t tE,.l (PL hs++[.none]),.l (NL hs++[.tuple []]),.l (PL hs),.l (NL hs)]):=v2;have r1:xEq (.c 3) (.d (.list (PL hs))) [.t tE,.l (PL hs++[.none]),.l (NL hs++[.tuple []]),.l (PL hs)]=some true:=yQ rfl (aO6 hs 56);have r2:xEq (.c 4) (.d (.list (NL hs))) [.t tE,.l (PL hs++[.none]),.l (NL hs++[.tuple []]),.l (PL hs),.l (NL hs)]=some true:=yQ rfl (bA7 hs 62);have sl:xSl (.c 2) none (some (-1)) [.t tE,.l (PL hs++[.none]),.l (NL hs++[.tuple []]),.l (PL hs),.l (NL hs)]=some (.d (.list (NL hs)),[.t tE,.l (PL hs++[.none]),.l (NL hs++[.tuple []]),.l (PL hs),.l (NL hs)]):=by
  have:xSl (.c 2) none (some (-1)) [.t tE,.l (PL hs++[.none]),.l (NL hs++[.tuple []]),.l (PL hs),.l (NL hs)]=some (.d (.list (cut (NL hs++[.tuple []]) none (some (-1)))),[.t tE,.l (PL hs++[.none]),.l (NL hs++[.tuple []]),.l (PL hs),.l (NL hs)]):=rfl;rw [this,bM0]
 refine ⟨[.l (PL hs++[.none]),.l (NL hs++[.tuple []]),.l (PL hs),.l (NL hs)],?_⟩;simp [dT,v1,v2,f1,r1,r2,sl]
end K46

namespace K46
open PySem PySem.Spec PyProof.Rows L2 DL CI
def top (k:Nat):Stmt:=PySem.Challenge.pw_storejudge_k46_what_each_hand_sees.main.body.getD k (.Pass ⟨0,0,0,0⟩)
abbrev s_0:Stmt:=top 1
abbrev s_1:Stmt:=top 2
abbrev s_2:Stmt:=top 3
abbrev s_3:Stmt:=top 4
abbrev s_4:Stmt:=top 5
abbrev s_5:Stmt:=top 12
abbrev s_6:Stmt:=top 13
abbrev s_7:Stmt:=top 14
abbrev s_8:Stmt:=top 15
abbrev s_9:Stmt:=top 16
abbrev bY2:Stmt:=top 17
abbrev bY3:Stmt:=top 18
abbrev bY4:Stmt:=top 19
abbrev bY5:Stmt:=top 20
abbrev bY6:Stmt:=top 21
abbrev bY7:Stmt:=top 22
abbrev bY8:Stmt:=top 23
abbrev bY9:Stmt:=top 24
abbrev bZ0:Stmt:=top 25
abbrev bZ1:Stmt:=top 26
abbrev bZ2:Stmt:=top 27
abbrev bZ3:Stmt:=top 28
abbrev bZ4:Stmt:=top 29
abbrev bZ5:Stmt:=top 30
abbrev bZ6:Stmt:=top 38
abbrev bZ7:Stmt:=top 39
abbrev bZ8:Stmt:=top 40
abbrev bZ9:Stmt:=top 41
abbrev cA0:Stmt:=top 42
abbrev cA1:Stmt:=top 43
abbrev bM2:Stmt:=top 44
abbrev cA2:Stmt:=top 47
abbrev cA3:Stmt:=top 50
abbrev cA4:Stmt:=top 51
abbrev cA5:Stmt:=top 52
abbrev cA6:Stmt:=top 53
abbrev cA7:Stmt:=top 54
abbrev cA8:Stmt:=top 55
abbrev cA9:Stmt:=top 56
abbrev cB0:Stmt:=top 57
abbrev cB1:Stmt:=top 58
abbrev cB2:Stmt:=top 59
abbrev cB3:Stmt:=top 60
abbrev cB4:Stmt:=top 61
abbrev cB5:Stmt:=top 62
abbrev bM3:Stmt:=top 63
abbrev cB6:Stmt:=top 64
abbrev cB7:Stmt:=top 65
abbrev cB8:Stmt:=top 66
abbrev cB9:Stmt:=top 67
abbrev cC0:Stmt:=top 68
abbrev cC1:Stmt:=top 74
abbrev cC2:Stmt:=top 75
abbrev cC3:Stmt:=top 76
abbrev cC4:Stmt:=top 77
abbrev cC5:Stmt:=top 78
abbrev cC6:Stmt:=top 79
abbrev cC7:Stmt:=top 80
abbrev cC8:Stmt:=top 82
abbrev cC9:Stmt:=top 83
abbrev cD0:Stmt:=top 84
abbrev cD1:Stmt:=top 85
abbrev cD2:Stmt:=top 86
abbrev cD3:Stmt:=top 87
abbrev cD4:Stmt:=top 88
abbrev cD5:Stmt:=top 89
abbrev cD6:Stmt:=top 90
abbrev cD7:Stmt:=top 91
abbrev cD8:Stmt:=top 93
abbrev cD9:Stmt:=top 94
abbrev cE0:Stmt:=top 95
abbrev cE1:Stmt:=top 96
abbrev cE2:Stmt:=top 97
abbrev cE3:Stmt:=top 98
abbrev cE4:Stmt:=top 99
abbrev tY:Stmt:=top 100
def cE5:gcl body=([(Str.ofString "LAST_KEY",PyData.int 7),(Str.ofString "MOST_PARTS",PyData.int 4),(Str.ofString "CHANGING",PyData.tuple [PyData.str (Str.ofString "write"),PyData.str (Str.ofString "add"),PyData.str (Str.ofString "swap")]),(Str.ofString "REFUSED",PyData.tuple [PyData.str (Str.ofString "refused")]),(Str.ofString "LAST_HAND",PyData.int 5),(Str.ofString "MOST_DEEDS",PyData.int 60),(Str.ofString "FIRST",PyData.tuple [PyData.int 0,PyData.int 0,PyData.int 0,PyData.int 0,PyData.int 0,PyData.int 0,PyData.int 0,PyData.int 0]),(Str.ofString "PROMISES",PyData.tuple [PyData.str (Str.ofString "real"),PyData.str (Str.ofString "row"),PyData.str (Str.ofString "any"),PyData.str (Str.ofString "snap"),PyData.str (Str.ofString "stand"),PyData.str (Str.ofString "hand"),PyData.str (Str.ofString "thing"),PyData.str (Str.ofString "kept")]),(Str.ofString "WORDS",PyData.tuple [PyData.str (Str.ofString "must"),PyData.str (Str.ofString "may"),PyData.str (Str.ofString "out")]),(Str.ofString "MOST_ITEMS",PyData.int 120),(Str.ofString "MOST_PAIRS",PyData.int 4000),(Str.ofString "MOST_TRIPLES",PyData.int 4000)]:List (Str×PyData)):=by kernel_rfl
def cE6:tkl body=([(Str.ofString "NUMBERS_BEHIND",[(Str.ofString "read",PyData.int 0),(Str.ofString "write",PyData.int 1),(Str.ofString "add",PyData.int 1),(Str.ofString "swap",PyData.int 2)])]:List (Str×List (Str×PyData))):=by kernel_rfl
abbrev DFL:List (Str×Stmt):=[(Str.ofString "is_whole",s_0),(Str.ofString "is_between",s_1),(Str.ofString "is_tuple_of",s_2),(Str.ofString "are_whole",s_3),(Str.ofString "are_rising",s_4),(Str.ofString "is_key",s_5),(Str.ofString "word_of",s_6),(Str.ofString "is_worded",s_7),(Str.ofString "is_single",s_8),(Str.ofString "is_span",s_9),(Str.ofString "is_deal",bY2),(Str.ofString "is_call",bY3),(Str.ofString "is_look",bY4),(Str.ofString "is_value_pair",bY5),(Str.ofString "is_lay",bY6),(Str.ofString "is_step",bY7),(Str.ofString "is_answer",bY8),(Str.ofString "is_own_answer",bY9),(Str.ofString "may_change",bZ0),(Str.ofString "keys_of",bZ1),(Str.ofString "parts_of",bZ2),(Str.ofString "value_left",bZ3),(Str.ofString "left_by",bZ4),(Str.ofString "part_on",bZ5),(Str.ofString "is_time",bZ6),(Str.ofString "is_deed",bZ7),(Str.ofString "times_of",bZ8),(Str.ofString "ended_below",bZ9),(Str.ofString "go_together",cA0),(Str.ofString "look_over",cA1),(Str.ofString "really_ahead",bM2),(Str.ofString "is_stand",cA2),(Str.ofString "check_promise",cA3),(Str.ofString "problems_of",cA4),(Str.ofString "deeds_of",cA5),(Str.ofString "frames_of",cA6),(Str.ofString "framed",cA7),(Str.ofString "frame",cA8),(Str.ofString "taking_part",cA9),(Str.ofString "entry",cB0),(Str.ofString "whole_entries",cB1),(Str.ofString "look_entries",cB2),(Str.ofString "hand_entries",cB3),(Str.ofString "key_entries",cB4),(Str.ofString "writes_alone",cB5),(Str.ofString "ahead_by_hand",bM3),(Str.ofString "pairs_where",cB6),(Str.ofString "looks_with_lays",cB7),(Str.ofString "triples_of",cB8),(Str.ofString "change_one_key",cB9),(Str.ofString "keys_changed",cC0),(Str.ofString "is_item",cC1),(Str.ofString "are_items",cC2),(Str.ofString "are_numbers",cC3),(Str.ofString "are_unlike",cC4),(Str.ofString "are_pairs",cC5),(Str.ofString "are_triples",cC6),(Str.ofString "is_problem",cC7),(Str.ofString "_law_cell_at",cC8),(Str.ofString "_law_drawn",cC9),(Str.ofString "_law_plain_call",cD0),(Str.ofString "_law_call",cD1),(Str.ofString "_law_done_plainly",cD2),(Str.ofString "_law_done",cD3),(Str.ofString "_law_bent",cD4),(Str.ofString "_law_moved",cD5),(Str.ofString "_law_history",cD6),(Str.ofString "_law_parts",cD7),(Str.ofString "_law_changes",cD8),(Str.ofString "_law_by_begins",cD9),(Str.ofString "_law_word",cE0),(Str.ofString "_law_hand",cE1),(Str.ofString "_law_free",cE2),(Str.ofString "_law_dense",cE3),(Str.ofString "_law_far",cE4),(Str.ofString "law",tY)]
def cE7:dfl body=DFL:=by kernel_rfl
def aX8:T.defs "law"=some tY:=by kernel_rfl
def cE8:parsOf tY=([Str.ofString "_law_script"]:List Str):=by kernel_rfl
abbrev T0:Top:=aZ4 body (fun _=>[]) cv 100000 60 wf (qn:=qn)
def all_mk {l:PySem.W.OpenLaw} {w:World} {os:OsState} {K:PySem.W.Frag} {h:Heap} {mg:Str->Option Value} {fa:Addr} (X:K.In h) (G:h.Ns mainGlobals mg) (hfa:mg "law"=some (.ref fa))
  (a0:FI K "is_whole" s_0)
  (a1:FI K "is_between" s_1)
  (a2:FI K "is_tuple_of" s_2)
  (a3:FI K "are_whole" s_3)
  (a4:FI K "are_rising" s_4)
  (a5:FI K "is_key" s_5)
  (a6:FI K "word_of" s_6)
  (a7:FI K "is_worded" s_7)
  (a8:FI K "is_single" s_8)
  (a9:FI K "is_span" s_9)
  (a10:FI K "is_deal" bY2)
  (a11:FI K "is_call" bY3)
  (a12:FI K "is_look" bY4)
  (a13:FI K "is_value_pair" bY5)
  (a14:FI K "is_lay" bY6)
  (a15:FI K "is_step" bY7)
  (a16:FI K "is_answer" bY8)
  (a17:FI K "is_own_answer" bY9)
  (a18:FI K "may_change" bZ0)
  (a19:FI K "keys_of" bZ1)
  (a20:FI K "parts_of" bZ2)
  (a21:FI K "value_left" bZ3)
  (a22:FI K "left_by" bZ4)
  (a23:FI K "part_on" bZ5)
  (a24:FI K "is_time" bZ6)
  (a25:FI K "is_deed" bZ7)
  (a26:FI K "times_of" bZ8)
  (a27:FI K "ended_below" bZ9)
  (a28:FI K "go_together" cA0)
  (a29:FI K "look_over" cA1)
  (a30:FI K "really_ahead" bM2)
  (a31:FI K "is_stand" cA2)
  (a32:FI K "check_promise" cA3)
  (a33:FI K "problems_of" cA4)
  (a34:FI K "deeds_of" cA5)
  (a35:FI K "frames_of" cA6)
  (a36:FI K "framed" cA7)
  (a37:FI K "frame" cA8)
  (a38:FIT K "taking_part" cA9 301)
  (a39:FI K "entry" cB0)
  (a40:FI K "whole_entries" cB1)
  (a41:FI K "look_entries" cB2)
  (a42:FI K "hand_entries" cB3)
  (a43:FI K "key_entries" cB4)
  (a44:FI K "writes_alone" cB5)
  (a45:FI K "ahead_by_hand" bM3)
  (a46:FI K "pairs_where" cB6)
  (a47:FI K "looks_with_lays" cB7)
  (a48:FI K "triples_of" cB8)
  (a49:FI K "change_one_key" cB9)
  (a50:FI K "keys_changed" cC0)
  (a51:FI K "is_item" cC1)
  (a52:FI K "are_items" cC2)
  (a53:FI K "are_numbers" cC3)
  (a54:FI K "are_unlike" cC4)
  (a55:FI K "are_pairs" cC5)
  (a56:FI K "are_triples" cC6)
  (a57:FI K "is_problem" cC7)
  (a58:FI K "_law_cell_at" cC8)
  (a59:FI K "_law_drawn" cC9)
  (a60:FI K "_law_plain_call" cD0)
  (a61:FI K "_law_call" cD1)
  (a62:FI K "_law_done_plainly" cD2)
  (a63:FI K "_law_done" cD3)
  (a64:FI K "_law_bent" cD4)
  (a65:FI K "_law_moved" cD5)
  (a66:FI K "_law_history" cD6)
  (a67:FI K "_law_parts" cD7)
  (a68:FI K "_law_changes" cD8)
  (a69:FI K "_law_by_begins" cD9)
  (a70:FI K "_law_word" cE0)
  (a71:FI K "_law_hand" cE1)
  (a72:FI K "_law_free" cE2)
  (a73:FI K "_law_dense" cE3)
  (a74:FI K "_law_far" cE4)
  (a75:FI K "law" tY)
  {tg0:Tok} (cg0:PySem.W.nsIn K mainGlobals "LAST_KEY"=some (some (.int 7 tg0)))
  {tg1:Tok} (cg1:PySem.W.nsIn K mainGlobals "MOST_PARTS"=some (some (.int 4 tg1)))
  {q2:Addr} {nq2:Nat} {tq2_0 tq2_1 tq2_2:Tok} (aQ2:PySem.W.nsIn K mainGlobals "CHANGING"=some (some (.ref q2))) (lQ2:K.lookup q2=some ⟨.type "tuple",none,.seq #[.str "write" tq2_0,.str "add" tq2_1,.str "swap" tq2_2] nq2,#[]⟩)
  {q3:Addr} {nq3:Nat} {tq3_0:Tok} (aQ3:PySem.W.nsIn K mainGlobals "REFUSED"=some (some (.ref q3))) (lQ3:K.lookup q3=some ⟨.type "tuple",none,.seq #[.str "refused" tq3_0] nq3,#[]⟩)
  {tg4:Tok} (cg4:PySem.W.nsIn K mainGlobals "LAST_HAND"=some (some (.int 5 tg4)))
  {tg5:Tok} (cg5:PySem.W.nsIn K mainGlobals "MOST_DEEDS"=some (some (.int 60 tg5)))
  {q6:Addr} {nq6:Nat} {tq6_0 tq6_1 tq6_2 tq6_3 tq6_4 tq6_5 tq6_6 tq6_7:Tok} (aQ6:PySem.W.nsIn K mainGlobals "FIRST"=some (some (.ref q6))) (lQ6:K.lookup q6=some ⟨.type "tuple",none,.seq #[.int 0 tq6_0,.int 0 tq6_1,.int 0 tq6_2,.int 0 tq6_3,.int 0 tq6_4,.int 0 tq6_5,.int 0 tq6_6,.int 0 tq6_7] nq6,#[]⟩)
  {q7:Addr} {nq7:Nat} {tq7_0 tq7_1 tq7_2 tq7_3 tq7_4 tq7_5 tq7_6 tq7_7:Tok} (aQ7:PySem.W.nsIn K mainGlobals "PROMISES"=some (some (.ref q7))) (lQ7:K.lookup q7=some ⟨.type "tuple",none,.seq #[.str "real" tq7_0,.str "row" tq7_1,.str "any" tq7_2,.str "snap" tq7_3,.str "stand" tq7_4,.str "hand" tq7_5,.str "thing" tq7_6,.str "kept" tq7_7] nq7,#[]⟩)
  {q8:Addr} {nq8:Nat} {tq8_0 tq8_1 tq8_2:Tok} (aQ8:PySem.W.nsIn K mainGlobals "WORDS"=some (some (.ref q8))) (lQ8:K.lookup q8=some ⟨.type "tuple",none,.seq #[.str "must" tq8_0,.str "may" tq8_1,.str "out" tq8_2] nq8,#[]⟩)
  {tg9:Tok} (cg9:PySem.W.nsIn K mainGlobals "MOST_ITEMS"=some (some (.int 120 tg9)))
  {tg10:Tok} (cg10:PySem.W.nsIn K mainGlobals "MOST_PAIRS"=some (some (.int 4000 tg10)))
  {tg11:Tok} (cg11:PySem.W.nsIn K mainGlobals "MOST_TRIPLES"=some (some (.int 4000 tg11)))
  {p0:Addr} {n0:Nat} {hh0_0 hh0_1 hh0_2 hh0_3:Int} {tk0_0 tv0_0 tk0_1 tv0_1 tk0_2 tv0_2 tk0_3 tv0_3:Tok} (aT0:PySem.W.nsIn K mainGlobals "NUMBERS_BEHIND"=some (some (.ref p0))) (lT0:K.lookup p0=some ⟨.type "dict",none,.dict #[⟨hh0_0,.str "read" tk0_0,.int 0 tv0_0⟩,⟨hh0_1,.str "write" tk0_1,.int 1 tv0_1⟩,⟨hh0_2,.str "add" tk0_2,.int 1 tv0_2⟩,⟨hh0_3,.str "swap" tk0_3,.int 2 tv0_3⟩] n0,#[]⟩) (kT0:PySem.W.KeysLit w.params [⟨hh0_0,.str "read" tk0_0,.int 0 tv0_0⟩,⟨hh0_1,.str "write" tk0_1,.int 1 tv0_1⟩,⟨hh0_2,.str "add" tk0_2,.int 1 tv0_2⟩,⟨hh0_3,.str "swap" tk0_3,.int 2 tv0_3⟩]) (sT0:(p0==sysModules)=false)
  (zb:∀ b∈blAll,PySem.W.nsIn K mainGlobals b=some none) :
  ∃ fd:FuncData,(∀ (s:Shared) (v:Value),BindsTo s fd ⟨[v],[]⟩ [("_law_script",v)])/\∀ base:Heap,K.In base->base.Ns mainGlobals mg->base.BuiltinsAt mg 301->FnS ⟨l.prog,w,K,mg,base,os,#[],301⟩ 16 fa fd ["_law_script"] (toW (aD T 16 "law")):=by
 have aL:=a75;obtain ⟨f75,od75,an75,sl75,oc75,kV75,dc75,pm75,cd75,ct75,b75,l75,c75,kk75⟩:=aL;have e:=hfa.symm.trans (PySem.W.mg_of X G b75);cases e;have F75:=aK0 (st:=tY) l75 c75 kk75;refine ⟨PySem.W.fnOf "law" "law" (cB tY) (bG tY) (defScope tY) .none kV75 dc75 pm75 an75 cd75 ct75,fun s v=>.of_eq rfl,fun base XB GB BM=>?_⟩;have aW:=a38.fi;have TT:TopOk T0 ⟨l.prog,w,K,mg,base,os,#[],301⟩:=by
  refine ⟨fun x hx=>?_,fun x z hz=>?_,fun x f hf=>?_,fun x s hs=>?_,fun x C s hs=>?_,fun x C s hs=>?_,fun C f hf=>?_,fun x q hs=>?_⟩
  ·have hx:blAll.contains x=true:=hx;rw [List.contains_iff_mem] at hx;exact PySem.W.mg_none_of XB GB (zb x hx)
  ·have hm:=bI7 (show bI4 body x=some z from hz);rw [cE5] at hm;simp only [List.mem_cons,List.not_mem_nil,or_false,Prod.mk.injEq] at hm;rcases hm with ⟨rfl,rfl⟩ | ⟨rfl,rfl⟩ | ⟨rfl,rfl⟩ | ⟨rfl,rfl⟩ | ⟨rfl,rfl⟩ | ⟨rfl,rfl⟩ | ⟨rfl,rfl⟩ | ⟨rfl,rfl⟩ | ⟨rfl,rfl⟩ | ⟨rfl,rfl⟩ | ⟨rfl,rfl⟩ | ⟨rfl,rfl⟩
   ·exact ⟨_,PySem.W.mg_of XB GB cg0,rep_i.mpr ⟨tg0,rfl⟩⟩
   ·exact ⟨_,PySem.W.mg_of XB GB cg1,rep_i.mpr ⟨tg1,rfl⟩⟩
   ·exact ⟨_,PySem.W.mg_of XB GB aQ2,qQ (ws:=["write","add","swap"]) XB lQ2 (.cons ⟨⟨_,rfl⟩,by decide +kernel⟩ (.cons ⟨⟨_,rfl⟩,by decide +kernel⟩ (.cons ⟨⟨_,rfl⟩,by decide +kernel⟩ .nil))) (show 3<=16777216 by decide)⟩
   ·exact ⟨_,PySem.W.mg_of XB GB aQ3,qQ (ws:=["refused"]) XB lQ3 (.cons ⟨⟨_,rfl⟩,by decide +kernel⟩ .nil) (show 1<=16777216 by decide)⟩
   ·exact ⟨_,PySem.W.mg_of XB GB cg4,rep_i.mpr ⟨tg4,rfl⟩⟩
   ·exact ⟨_,PySem.W.mg_of XB GB cg5,rep_i.mpr ⟨tg5,rfl⟩⟩
   ·exact ⟨_,PySem.W.mg_of XB GB aQ6,bJ0 (ws:=[0,0,0,0,0,0,0,0]) XB lQ6 (.cons ⟨_,rfl⟩ (.cons ⟨_,rfl⟩ (.cons ⟨_,rfl⟩ (.cons ⟨_,rfl⟩ (.cons ⟨_,rfl⟩ (.cons ⟨_,rfl⟩ (.cons ⟨_,rfl⟩ (.cons ⟨_,rfl⟩ .nil)))))))) (show 8<=16777216 by decide)⟩
   ·exact ⟨_,PySem.W.mg_of XB GB aQ7,qQ (ws:=["real","row","any","snap","stand","hand","thing","kept"]) XB lQ7 (.cons ⟨⟨_,rfl⟩,by decide +kernel⟩ (.cons ⟨⟨_,rfl⟩,by decide +kernel⟩ (.cons ⟨⟨_,rfl⟩,by decide +kernel⟩ (.cons ⟨⟨_,rfl⟩,by decide +kernel⟩ (.cons ⟨⟨_,rfl⟩,by decide +kernel⟩ (.cons ⟨⟨_,rfl⟩,by decide +kernel⟩ (.cons ⟨⟨_,rfl⟩,by decide +kernel⟩ (.cons ⟨⟨_,rfl⟩,by decide +kernel⟩ .nil)))))))) (show 8<=16777216 by decide)⟩
   ·exact ⟨_,PySem.W.mg_of XB GB aQ8,qQ (ws:=["must","may","out"]) XB lQ8 (.cons ⟨⟨_,rfl⟩,by decide +kernel⟩ (.cons ⟨⟨_,rfl⟩,by decide +kernel⟩ (.cons ⟨⟨_,rfl⟩,by decide +kernel⟩ .nil))) (show 3<=16777216 by decide)⟩
   ·exact ⟨_,PySem.W.mg_of XB GB cg9,rep_i.mpr ⟨tg9,rfl⟩⟩
   ·exact ⟨_,PySem.W.mg_of XB GB cg10,rep_i.mpr ⟨tg10,rfl⟩⟩
   ·exact ⟨_,PySem.W.mg_of XB GB cg11,rep_i.mpr ⟨tg11,rfl⟩⟩
  ·obtain ⟨t,hm,rfl⟩:=bI8 (show bI6 body x=some f from hf);rw [cE6] at hm;simp only [List.mem_cons,List.not_mem_nil,or_false,Prod.mk.injEq] at hm;rcases hm with ⟨rfl,rfl⟩
   ·refine ⟨p0,PySem.W.mg_of XB GB aT0,⟨⟨_,n0,lT0,kT0,fun y i hy=>?_,fun y hy=>?_⟩,sT0⟩⟩
    ·repeat rw [sO]
     simp only [List.lookup] at hy;split at hy
     ·rename_i q;rw [if_pos (eq_of_beq q).symm];cases hy;exact ⟨_,rfl,rep_i.mpr ⟨_,rfl⟩⟩
     rename_i q;rw [if_neg (fun z=>(beq_eq_false_iff_ne.mp q) z.symm)];clear q;split at hy
     ·rename_i q;rw [if_pos (eq_of_beq q).symm];cases hy;exact ⟨_,rfl,rep_i.mpr ⟨_,rfl⟩⟩
     rename_i q;rw [if_neg (fun z=>(beq_eq_false_iff_ne.mp q) z.symm)];clear q;split at hy
     ·rename_i q;rw [if_pos (eq_of_beq q).symm];cases hy;exact ⟨_,rfl,rep_i.mpr ⟨_,rfl⟩⟩
     rename_i q;rw [if_neg (fun z=>(beq_eq_false_iff_ne.mp q) z.symm)];clear q;split at hy
     ·rename_i q;rw [if_pos (eq_of_beq q).symm];cases hy;exact ⟨_,rfl,rep_i.mpr ⟨_,rfl⟩⟩
     rename_i q;rw [if_neg (fun z=>(beq_eq_false_iff_ne.mp q) z.symm)];clear q;cases hy
    ·repeat rw [sO]
     simp only [List.lookup] at hy
     repeat (split at hy;(cases hy);(rename_i q;rw [if_neg (fun z=>(beq_eq_false_iff_ne.mp q) z.symm)]))
     rfl
  ·have hm:=bI9 (show vL body x=some s from hs);rw [cE7] at hm;have key:∀ p∈DFL,FR K mg p.1 p.2:=by
    repeat (refine cH6 (P:=FR K mg) ?_ ?_;(first | exact FI.ok1 (by assumption) XB GB (by kernel_rfl) (fun _ =>fun _ _ _ _ _ _=>rfl) | exact FI.ok2 (by assumption) XB GB (by kernel_rfl) (fun _ _ =>fun _ _ _ _ _ _=>rfl) | exact FI.ok3 (by assumption) XB GB (by kernel_rfl) (fun _ _ _ =>fun _ _ _ _ _ _=>rfl) | exact FI.ok4 (by assumption) XB GB (by kernel_rfl) (fun _ _ _ _ =>fun _ _ _ _ _ _=>rfl) | exact FI.ok5 (by assumption) XB GB (by kernel_rfl) (fun _ _ _ _ _ =>fun _ _ _ _ _ _=>rfl)))
    exact cH5
   exact key _ hm
  ·have h:(none:Option (Addr×Stmt))=some (C,s):=hs;cases h
  ·have h:(none:Option (Addr×Stmt))=some (C,s):=hs;cases h
  ·have h:false=true:=hf;cases h
  ·have h:(if x="taking_part" then some ((("taking_part.<locals>.":Str),(⟨200,31,200,64⟩:Pos))) else none)=some q:=hs;split at h
   ·rename_i e;cases h;subst e;exact ⟨by kernel_rfl,by kernel_rfl,fun s f fd F hf=>⟨by decide +kernel,a38.code (S:=⟨l.prog,w,K,mg,base,os,#[],301⟩) XB GB F hf rfl BM _⟩⟩
   ·cases h
 have TF:TopOk T ⟨l.prog,w,K,mg,base,os,#[],301⟩:=CI.TopOk.fv TT fun x hx=>by
  rw [List.contains_iff_mem] at hx;simp only [List.mem_cons,List.not_mem_nil,or_false] at hx;rcases hx with rfl | rfl
  ·exact ⟨bM2,by kernel_rfl⟩
  ·exact ⟨bM3,by kernel_rfl⟩
 have q:=bJ1 (k:=15) TF aX8 F75 (by kernel_rfl);rw [cE8] at q;exact q
def walk {l:PySem.W.OpenLaw} {q:Program} {loose:List Str} {XP:(Str->Option Value)->Heap->Prop} {YP:World->Heap->Prop} {d:DefRec} {K:Params->PySem.W.Frag} {c0:Addr} (hn:l.most=some 63) (hdf:d.params.defaults=[])
  (hY:∀ (w:World) (h:Heap),YP w h->(K w.params).In h/\h.get? 301=some (PySem.W.tabObj #[])) (hKP:∀ w:World,(K w.params).lookup 301=none) (hcd:∀ w:World,PySem.W.codeHdIn (K w.params) c0 301=true)
  (F:∀ (w:World) (mg:Str->Option Value) (fa:Addr) (h:Heap) (os:OsState),(K w.params).In h->h.Ns mainGlobals mg->mg d.name=some (.ref fa) ->
   ∃ fd:FuncData,(∀ (s:Shared) (u:Value),BindsTo s fd ⟨[u],[]⟩ [("_law_script",u)])/\∀ base:Heap,(K w.params).In base->base.Ns mainGlobals mg->base.BuiltinsAt mg 301->FnS ⟨l.prog,w,K w.params,mg,base,os,#[],301⟩ 16 fa fd ["_law_script"] (toW (aD T 16 "law"))) :
  PySem.W.WalkO q loose XP YP l.row.toRowW d [] (fun f vs=>PySem.call f vs) :=
 aK1 (n:=63) (k:=16) (x:="_law_script") (m:=aD T 16 "law") hn (by decide) hdf ⟨rfl,by decide,by decide⟩ hY hKP hcd F fun ns _=>⟨_,bM1 ns 0⟩
end K46

open PySem PySem.W PyProof.Rows
theorem PySem.Challenge.cw_storejudge_k46_what_each_hand_sees_holds : PySem.Challenge.rw_storejudge_k46_what_each_hand_sees.Holds := by
 refine hd ?_
 k_fill
 refine K46.walk (l:=PySem.Challenge.rw_storejudge_k46_what_each_hand_sees) rfl rfl (fun w h Y=>⟨PySem.W.km_in_of Y,PySem.W.km_tabs_of Y 301 (by simp)⟩) (c0:=303) (fun w=>by kernel_rfl) (fun w=>by kernel_rfl) ?F
 case F =>
  intro w mg fa h os KX G hmg;refine' K46.all_mk KX G hmg ?a0 ?a1 ?a2 ?a3 ?a4 ?a5 ?a6 ?a7 ?a8 ?a9 ?a10 ?a11 ?a12 ?a13 ?a14 ?a15 ?a16 ?a17 ?a18 ?a19 ?a20 ?a21 ?a22 ?a23 ?a24 ?a25 ?a26 ?a27 ?a28 ?a29 ?a30 ?a31 ?a32 ?a33 ?a34 ?a35 ?a36 ?a37 ?a38 ?a39 ?a40 ?a41 ?a42 ?a43 ?a44 ?a45 ?a46 ?a47 ?a48 ?a49 ?a50 ?a51 ?a52 ?a53 ?a54 ?a55 ?a56 ?a57 ?a58 ?a59 ?a60 ?a61 ?a62 ?a63 ?a64 ?a65 ?a66 ?a67 ?a68 ?a69 ?a70 ?a71 ?a72 ?a73 ?a74 ?a75 ?cg0 ?cg1 ?aQ2 ?lQ2 ?aQ3 ?lQ3 ?cg4 ?cg5 ?aQ6 ?lQ6 ?aQ7 ?lQ7 ?aQ8 ?lQ8 ?cg9 ?cg10 ?cg11 ?aT0 ?lT0 ?kT0 ?sT0 ?zb
  (case a38=>refine' CI.fit_mk (c0:=303) ?a ?l ?c ?k ?hd;(case a=>k_is);(case l=>k_is);(case c=>k_is);(case k=>k_is);(case hd=>kernel_rfl))
  all_goals try (refine' CI.fi_mk ?a ?l ?c ?k;(case a=>k_is);(case l=>k_is);(case c=>k_is);(case k=>k_is))
  (case cg0=>k_is)
  (case cg1=>k_is)
  (case aQ2=>k_is);(case lQ2=>k_is)
  (case aQ3=>k_is);(case lQ3=>k_is)
  (case cg4=>k_is)
  (case cg5=>k_is)
  (case aQ6=>k_is);(case lQ6=>k_is)
  (case aQ7=>k_is);(case lQ7=>k_is)
  (case aQ8=>k_is);(case lQ8=>k_is)
  (case cg9=>k_is)
  (case cg10=>k_is)
  (case cg11=>k_is)
  (case aT0=>k_is);(case lT0=>k_is);(case kT0=>k_keys);(case sT0=>first | rfl | decide | k_is)
  (case zb=>intro b hb;simp only [CI.blAll,List.mem_cons,List.not_mem_nil,or_false] at hb;rcases hb with rfl | rfl | rfl | rfl | rfl | rfl | rfl | rfl | rfl | rfl | rfl | rfl | rfl | rfl | rfl | rfl | rfl | rfl | rfl | rfl<;>k_is)
