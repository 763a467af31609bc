import PyProof.Rows.All
import Wide.All
import OpenK.AllK
import Wide.FinOn
import Lean
import PyProof.EqAt
import PyProof.EqKinds
import PyProof.TupleCall
import PyProof.ListRange
import PyProof.Conv_int_bool
import PyProof.SetRoads
import PyProof.Rows.SetFrom
import PyProof.WalksMore
import KE.KLam
import KE.KNestM
import KE.KRevSl
import PyProof.ZipIter
import PyProof.EnumIter
import PyProof.EnumFor
import PyProof.EnumStmt
import KE.KSortTup
import PyProof.TupleOfSeq
import KE.KDictList
import KE.KItemsList
import KE.KSortKey
import PyProof.WalkInts
import PyProof.EqLayable
import PySem.Challenge.RW_storejudge_k47_what_was_seen_and_laid
set_option genInjectivity false
set_option compiler.extract_closed false
set_option bootstrap.genMatcherCode false
set_option genSizeOf false
section
open PySem PySem.W PyProof.Rows
set_option Elab.async false
set_option maxRecDepth 100000
set_option maxHeartbeats 0
structure PySem.W.Fast:Prop where
 (tw414952305486264866 tw861502493610598483 tw6830661539357928910 tw7774113678449685934 tw15804592802058374323 tw15063340032272140987 tw11592902740619675445 tw17590196521536335332 tw17426987436379436081 tw1985161075807479808 tw16216476560635493584 tw8318101203651539667 tw2407462832516094465 tw4705034193704625203 tw18067563643224944008 tw12960429369202013873 tw7701650113140490549 tw126342902990734186 tw14221096863170989933 tw12670982853097334264 tw9615563845995560447 tw8997383693586321770 tw18418582437962087742 tw6216382948874008006 tw17267597263503486738 tw3897268976836264337 tw9399754086935153974 tw7480016910919988345 tw384561282630992784 tw8737599933303070863 tw14760874974797668852 tw8047209995159408440 tw12768989823518198380 tw13956191218907399338 tw140001813534094272 tw16003985067176294414 tw1717767836212652739 tw5274481202262711730 tw2913531160240911109 tw17348111734160510231 tw16203366879757453535 tw4906484309439969231 tw12287027617447088827 tw13831308528885131752 tw4849480874435393781 tw13343918040275786880 tw15590096980072825465 tw14782954611325821827 tw16226643914720891334 tw17691633702590694504 tw18146532975450069615 tw14074196154385387334 tw14592624751514493413 tw14847308668706973960 tw4699756791338806529 tw514280064592716601 tw12188032599808994241 tw14961746396406840608 tw16607193741793207195 tw10295913840692754127 tw12147665669636231765 tw15895094517606616290 tw2135409205425526673 tw6542358382571353910 tw9387514328989991554 tw11962351593759143498 tw10510019762269167821 tw16753820520455620202 tw1142673529048489019 tw7086961617601330827 tw7424060955962978353 tw3671519592330383864 tw4046790133079468173 tw354308444213283272 tw14537775516033599862 tw11513857634932158529 tw3365755272349913518 tw4562827626845409882 tw9947508896943372755 tw9848817304349107530 tw5101696844757716304 tw1956260828630720203 tw977512076041815475 tw16860917588515726111 tw12314708539913122752 tw3713540243193553862 tw17334828202450815106 tw2827255003249426055 tw12798174099139212305 tw6030501089693204938 tw87601786513091389 tw6782663255696616371 tw16203965252921439515 tw14391293386007564604 tw14746253646979254834 tw1915925776726481438 tw6248682570935725439 tw247591363613054380 tw17338325484393633139 tw8171798328758944481 tw12843764043397292189 tw3049343062529576306 tw9536688357841153863 tw15166322114958858414 tw11907897558876765624 tw15577281813014381367 tw11502921971960690029 tw14196522196718054806 tw9977182230042388008 tw4547051000311932777 tw6557801498797044033 tw8422229294311615681 tw12488014758255163090 tw18183970276198133131 tw10879749546641988924 tw2595585439558603231 tw10988312798546598065 tw12772213712371865176 tw14424681132571578402 tw5362036446546632119 tw17292613610259460706 tw2399617604181995578 tw14261769069557060686 tw12903330217458380548 tw991626836265849350 tw772564365185477556 tw256976265262469064 tw11692469974320434101 tw547895379624588593 tw12770481643036789091 tw6128106870883400570 tw2474200967059427378 tw14226173905949225808 tw10294118229990073760 tw561727478393794602 tw9806118890596472461 tw8733291241859026926 tw1979317910248211280 tw2741014181512449073 tw3042748168174471775 tw15779231459743154856 tw18367749455379333440 tw6128145076113358165 tw6229817132586351632 tw16864618592142003386 tw12297992134047619483 tw12382822922155266910 tw14611616552423853409 tw4884199854448574 tw2244103112122482387 tw15433366417846715934 tw14022695629967993375 tw15042883488752021643 tw11898673842065290130 tw5622701340561072331 tw6549852094080907030 tw5217270863462422736 tw3985964047577975286 tw7164969610272591079 tw1205604411410820431 tw17659185236578331656 tw14564479935002850509 tw3382625519597670723 tw17351735930882485243 tw4635989785427082552 tw14664691819916384248 tw6472337539984862722 tw14842496431369740429 tw13622603851894308203 tw4309217394794523951 tw12652081859355081885 tw11564986514327137767 tw10792498714594961201 tw523537741815420091 tw4039707410889071942 tw17435391645217708394 tw10510056951384868246 tw896239598344801917 tw4334401890000744311 tw12740759652641322565 tw7220529860990300233 tw740290905518256060 tw5002640475654186023 tw14958820412457663293 tw7933485763601977624 tw14689541978594310382 tw4684226298888400098 tw4804111812005502284 tw3300257896294614128 tw2295934692909999376 tw5667099127317398114 tw11853640710764476214 tw13674586047789940208 tw6822071536725586909 tw1825952489489211193 tw896878414759379649 tw14387916025512776202 tw6858818405166986180 tw2080317491765294665 tw13953587524928339648 tw15805137534098808535 tw3374319085511977134 tw17464319187374939960 tw17318462890700432884 tw4493901809537577575 tw9972681490609642005 tw9950792792127014553 tw2483420100392427323 tw12408111787983249662 tw6702445572142316249 tw12138319994727072339 tw5872530126848033075 tw17817366049700826239 tw17613222154834848340 tw2931988195819169919 tw7322748291113730364 tw12099505692703838030 tw9456574344343218679 tw1401067106901849026 tw9331231397406362311 tw5285915839522022235 tw3953844824629472508 tw9646623106273453227 tw855453113358079251 tw16654469307462801742 tw1922157984580058403 tw2358075552688931204 tw11429584451438056573 tw9919008367099125623 tw17590705303994421779 tw2187251505897268136 tw6162269159774324313 tw16493865465440409018 tw16053306600634468012 tw8331849164307833061 tw13437419889732721216 tw5323657890516693427 tw15127105006835628225 tw3110587219445414310 tw4075453323654395381 tw726351398001015727 tw5702276774652866934 tw6060609690816243450 tw10910644110388302437 tw2400638427578300857 tw10519837036962490867 tw3992765435912101610 tw1708089923452030704 tw7374399212775623666 tw11153475782318119604 tw16217903435359918192 tw8186657734068701312 tw4971374062829452455 tw18293242582946804979 tw14703100239697439463 tw9689729476882780088 tw4321966507151631593 tw1864683662541468164 tw15254633091992210921 tw2646887283097553488 tw8222940686941784037 tw16248296213531012650 tw9116068151291705539 tw11266997524610791606 tw8739830900816887780 tw443766864951011646 tw2466311954974566718 tw11421057715548341654 tw6575520176995025181 tw2789304352393801511 tw2144661209622563809 tw12528533614272120300 tw6690350156832105676 tw2455152089536381482 tw1495895850433845275 tw1293241653719404408 tw5000232492035539693 tw6469784823511061222 tw14560624547652848805 tw6170744672141170255 tw16670775579421159206 tw4561898282857576226 tw9402243437249704421 tw5832305185047221409 tw1158361714356455011 tw1998347030407657756 tw11738243743197964597 tw3721919958574915784 tw16636501806038632012 tw8899516883271353254 tw16298917771340976007 tw2692750590507578028 tw819570635367399668 tw6607644564249050058 tw4490611911172417597 tw1719895430356276633 tw2353497105660221152 tw13711697494001597007 tw3543459598558145280 tw1467881925912835984:True)
open_top hd for PySem.Challenge.rw_storejudge_k47_what_was_seen_and_laid
end
noncomputable section
theorem ZR0 (h:True:=by rfl):True:=h
def ZR:Lean.Syntax:=ZR0._auto_1
theorem ZD0 (h:True:=by decide):True:=h
def ZD:Lean.Syntax:=ZD0._auto_1
theorem ZI0 (h:True:=by intro _;rfl):True:=h
def ZI:Lean.Syntax:=ZI0._auto_1
theorem ZW0 (h:True:=by with_unfolding_all rfl):True:=h
def ZW:Lean.Syntax:=ZW0._auto_1
set_option Elab.async false
set_option linter.all false
set_option maxRecDepth 100000
set_option maxHeartbeats 4000000
namespace L2
open PySem PySem.Spec PyProof.Rows

abbrev Key:=Sum Int Str
noncomputable def keyIs:Key->Value->Bool
 | .inl k,v=>Value.isInt k v
 | .inr x,v=>Value.isStrOf x v
noncomputable def cL3 (w:World):Key->Int
 | .inl k=>hashInt k
 | .inr x=>hashStr w x
theorem keyIs_shape:∀ {k:Key} {v:Value},keyIs k v=true->(∃ i t,k=Sum.inl i/\v=Value.int i t)\/(∃ x t,k=Sum.inr x/\v=Value.str x t)
 | .inl i,v,h=>by
  obtain ⟨t,e⟩:=Value.isInt_shape (k:=i) (v:=v) h;exact .inl ⟨i,t,rfl,e⟩
 | .inr x,v,h=>by
  obtain ⟨t,e⟩:=Value.isStrOf_shape (x:=x) (v:=v) h;exact .inr ⟨x,t,rfl,e⟩
def zP (i:Int) (t:Tok):keyIs (.inl i) (.int i t)=true:=by simp [keyIs,Value.isInt]
def zQ (x:Str) (t:Tok):keyIs (.inr x) (.str x t)=true:=by simp [keyIs,Value.isStrOf]
def bF5 (a b:Int):decide ((Sum.inl a:Key)=Sum.inl b)=(a==b):=by
 by_cases e:a=b
 ·subst e;simp
 ·have h:¬ (Sum.inl a:Key)=Sum.inl b:=fun q=>e (Sum.inl.inj q);rw [decide_eq_false h];exact (beq_eq_false_iff_ne.mpr e).symm
def bF6 (a b:Str):decide ((Sum.inr a:Key)=Sum.inr b)=decide (a=b):=by
 by_cases e:a=b
 ·subst e;simp
 ·have h:¬ (Sum.inr a:Key)=Sum.inr b:=fun q=>e (Sum.inr.inj q);rw [decide_eq_false h,decide_eq_false e]
def bF7 (a:Int) (b:Str):decide ((Sum.inl a:Key)=Sum.inr b)=false:=decide_eq_false (fun q=>nomatch q)
def bF8 (a:Str) (b:Int):decide ((Sum.inr a:Key)=Sum.inl b)=false:=decide_eq_false (fun q=>nomatch q)

def bX (prog:Program) (w:World):PySem.KeyKind prog w Key where
 is:=keyIs
 hash:=cL3 w
 inj:=fun v a b ha hb=>by
  rcases keyIs_shape ha with ⟨i,t,rfl,rfl⟩ | ⟨x,t,rfl,rfl⟩
  ·rcases keyIs_shape hb with ⟨j,u,rfl,e⟩ | ⟨y,u,rfl,e⟩
   ·injection e with e1 _;rw [e1]
   ·exact nomatch e
  ·rcases keyIs_shape hb with ⟨j,u,rfl,e⟩ | ⟨y,u,rfl,e⟩
   ·exact nomatch e
   ·injection e with e1 _;rw [e1]
 byValue:=fun k v h=>by
  rcases keyIs_shape h with ⟨i,t,rfl,rfl⟩ | ⟨x,t,rfl,rfl⟩<;>rfl
 pyHash:=fun hv h=>by
  rcases keyIs_shape hv with ⟨i,t,rfl,rfl⟩ | ⟨x,t,rfl,rfl⟩
  ·exact wpAny_pyHash_int h
  ·exact wpAny_pyHash_str h
 eqBool:=fun hu hv h=>by
  rcases keyIs_shape hu with ⟨i,t,rfl,rfl⟩ | ⟨x,t,rfl,rfl⟩
  ·rcases keyIs_shape hv with ⟨j,u,rfl,rfl⟩ | ⟨y,u,rfl,rfl⟩
   ·rw [bF5] at h;exact wpAny_eqBool_int h
   ·rw [bF7] at h;exact SeqAt.EqAt.int_str i t y u _ _ _ _ h
  ·rcases keyIs_shape hv with ⟨j,u,rfl,rfl⟩ | ⟨y,u,rfl,rfl⟩
   ·rw [bF8] at h;exact SeqAt.EqAt.str_int x t j u _ _ _ _ h
   ·rw [bF6] at h;exact wpAny_eqBool_str h
 «strs»:=fun k x t v h=>by
  rcases keyIs_shape h with ⟨i,u,rfl,e⟩ | ⟨y,u,rfl,e⟩
  ·exact nomatch e
  ·injection e with e1 _
   subst e1;cases v<;>rfl

def rR (prog:Program) (w:World) (i:Int) (t:Tok):(bX prog w).is (.inl i) (.int i t)=true:=zP i t
def rS (prog:Program) (w:World) (x:Str) (t:Tok):(bX prog w).is (.inr x) (.str x t)=true:=zQ x t
end L2

namespace HT
open PySem PyProof.Rows

section
open PySem.SeqAt
open PySem.AutoSeq1 (wpAny_loadPart')
open PySem.MeetsSeq PySem.MeetsSeq2 PySem.MeetsSeq3

end

section
variable {prog:Program} {w:World} {A:Around} {E:Value->Shared->Prop} {s:Shared}

def cat_tup {t b:Addr} {vs ws:List Value} {Q:Value->Shared->Prop} (ht:IsTup s.heap t vs.toArray) (hb:IsTup s.heap b ws.toArray) (hv:vs≠[])
  (h1:ws=[]->Q (.ref t) s) (h2:ws≠[]->Q (.ref s.heap.objs.size) { s with heap:=s.heap.push { cls:=.type "tuple",data:=.seq (vs++ws).toArray } })
  (hsz:vs.length+ws.length<=sizeLine):wpAny (model prog w) A (binaryOp .Add (.ref t) (.ref b)) Q E s:=by
 obtain ⟨⟨cls,dd,data,sl⟩,ho,hc,n,hd⟩:=id ht;obtain ⟨⟨cls2,dd2,data2,sl2⟩,ho2,hc2,n2,hd2⟩:=id hb;simp only at hc hd hc2 hd2;subst hc hd hc2 hd2;have e:vs.toArray++ws.toArray=(vs++ws).toArray:=by simp
 by_cases hw:ws=[]
 ·exact concat_meets ⟨_,ho,rfl⟩ ⟨_,ho2,rfl⟩ noFill_tuple_add seq_tuple_add PySem.F.slot_tuple_add PySem.F.entry_tuple_add (PySem.F.args_tuple_add_2 _ _)
   (tuple_addW1 t b vs.toArray ws.toArray n n2 dd dd2 sl sl2 (by simpa using hv) (by simp [hw])) ⟨ho,ho2,h1 hw⟩
 ·refine concat_meets ⟨_,ho,rfl⟩ ⟨_,ho2,rfl⟩ noFill_tuple_add seq_tuple_add PySem.F.slot_tuple_add PySem.F.entry_tuple_add (PySem.F.args_tuple_add_2 _ _)
   (tuple_addW2 t b vs.toArray ws.toArray n n2 dd dd2 sl sl2 (by simpa using hv) (by simpa using hw) (by rw [List.size_toArray,List.size_toArray];exact hsz)) ⟨ho,ho2,?_⟩
  rw [e];exact h2 hw

noncomputable def sIx (n d:Nat):Option Int->Nat
 | none=>d
 | some v=>if v < 0 then (v+(n:Int)).toNat else min v.toNat n
def bF9 (n d:Nat) (hd:d<=n) (o:Option Int):sIx n d o<=n:=by
 cases o with
 | none=>exact hd
 | some v =>
  show (if v < 0 then (v+(n:Int)).toNat else min v.toNat n)<=n
  by_cases hv:v < 0
  ·rw [if_pos hv];omega
  ·rw [if_neg hv];exact Nat.min_le_right _ _
def wL (v:Int) (n d:Nat):(if v < 0 then max (v+(n:Int)) 0 else min v (n:Int))=((sIx n d (some v):Nat):Int):=by
 show (if v < 0 then max (v+(n:Int)) 0 else min v (n:Int))=(((if v < 0 then (v+(n:Int)).toNat else min v.toNat n):Nat):Int)
 by_cases hv:v < 0
 ·simp only [if_pos hv];omega
 ·simp only [if_neg hv];omega
def uG (lo hi:Option Int) (n:Nat):Builtin.Slice.sliceAdjust lo hi 1 (n:Int)=(((sIx n 0 lo:Nat):Int),((sIx n n hi:Nat):Int)):=by
 have h1:¬ ((1:Int) < 0):=by omega
 unfold Builtin.Slice.sliceAdjust;simp only [h1,if_false];refine Prod.ext ?_ ?_
 ·cases lo with
  | none=>rfl
  | some v=>exact wL v n 0
 ·cases hi with
  | none=>rfl
  | some v=>exact wL v n n
def uH (i j:Nat):Builtin.Slice.slicePlaces (i:Int) (j:Int) 1=j - i:=by
 unfold Builtin.Slice.slicePlaces;have h1:(1:Int) > 0:=by omega
 simp only [h1,if_true,Int.ediv_one];split<;>omega
def lX {v:Value} {o:Option Int} {Q:Option Int->Shared->Prop} (p:IsPart v o) (h:Q o s):wpAny (model prog w) A (Builtin.Slice.slicePartIndex v) Q E s:=by
 cases p with
 | none=>exact slicePart_none h
 | int i t=>exact slicePart_int h
def sliceApplied_gen {sl:Addr} {vl vu:Value} {lo hi:Option Int} {n:Nat} {Q:Int×Int×Nat->Shared->Prop} (hs:s.heap.IsSliceOf sl vl vu .none) (pl:IsPart vl lo) (pu:IsPart vu hi)
  (h:Q (((sIx n 0 lo:Nat):Int),1,sIx n n hi - sIx n 0 lo) s):wpAny (model prog w) A (Builtin.Slice.sliceApplied (.ref sl) (pure (n:Int))) Q E s:=by
 obtain ⟨os,hos,hcs,hds⟩:=id hs;unfold Builtin.Slice.sliceApplied Builtin.Slice.sliceFields;refine wpAny_bind (wpAny_bind (wpAny_field hos hds (x:=vl) rfl (wpAny_bind (wpAny_field hos hds (x:=vu) rfl (wpAny_bind (wpAny_field hos hds (x:=.none) rfl (wpAny_pure ?_)))))));refine wpAny_bind (slicePart_none ?_);show wpAny _ _ (if ((1:Int)==0)=true then _ else _) _ _ s;rw [if_neg (by decide)];refine wpAny_bind (lX pl (wpAny_bind (lX pu (wpAny_bind (wpAny_pure ?_)))));show wpAny _ _ (match Builtin.Slice.sliceAdjust lo hi 1 (n:Int) with | (lo,hi)=>pure (lo,(1:Int),Builtin.Slice.slicePlaces lo hi 1)) _ _ s;rw [uG lo hi n];show wpAny _ _ (pure (((sIx n 0 lo:Nat):Int),(1:Int),Builtin.Slice.slicePlaces ((sIx n 0 lo:Nat):Int) ((sIx n n hi:Nat):Int) 1)) _ _ s;rw [uH];exact wpAny_pure h
def aE9 (xs:Array Value) (i k:Nat):((List.range k).filterMap fun (m:Nat)=>xs[((i:Int)+(m:Int)*1).toNat]?).toArray=((xs.toList.drop i).take k).toArray:=by
 have e:(fun (m:Nat)=>xs[((i:Int)+(m:Int)*1).toNat]?)=fun m=>xs[i+m]?:=by
  funext m
  have:((i:Int)+(m:Int)*1).toNat=i+m:=by omega
  rw [this]
 rw [e];have:=pick_run xs i k;rw [List.filterMap_map] at this;have e2:((fun x=>xs[x]?) ∘ fun x=>i+x)=fun m=>xs[i+m]?:=rfl;rw [e2] at this;rw [this]

def getItem_tuple_cut {t sl:Addr} {items:Array Value} {vl vu:Value} {lo hi:Option Int} {Q:Value->Shared->Prop} (ht:IsTup s.heap t items) (hs:s.heap.IsSliceOf sl vl vu .none) (pl:IsPart vl lo) (pu:IsPart vu hi)
  (hw:¬ (sIx items.size 0 lo=0/\sIx items.size items.size hi=items.size))
  (h:Q (.ref s.heap.objs.size) { s with heap:=s.heap.push { cls:=.type "tuple",data:=.seq ((items.toList.drop (sIx items.size 0 lo)).take (sIx items.size items.size hi - sIx items.size 0 lo)).toArray } })
  (hsz:items.size<=sizeLine):wpAny (model prog w) A (getItem (.ref t) (.ref sl)) Q E s:=by
 have htake:sizeOk (.seq ((items.toList.drop (sIx items.size 0 lo)).take (sIx items.size items.size hi - sIx items.size 0 lo)).toArray):=by
  show ((items.toList.drop (sIx items.size 0 lo)).take (sIx items.size items.size hi - sIx items.size 0 lo)).toArray.size<=sizeLine;rw [List.size_toArray,List.length_take,List.length_drop,Array.length_toList];omega
 have hj:sIx items.size items.size hi<=items.size:=bF9 _ _ (Nat.le_refl _) hi;obtain ⟨os,hos,hcs,hds⟩:=id hs;have hTs:s.TypeIs (.ref sl) "slice":=⟨os,hos,hcs⟩;unfold getItem;try with_reducible refine wpAny_holding ?_
 first | refine wpAny_bind (wpAny_pure ?_) | skip
 refine wpAny_bind (wpAny_sequenceKey ht.typeIs (by decide) ?_);refine wpAny_bind (wpAny_callSpecial?_slot (name:=Str.ofString "__getitem__") ht.typeIs PyProof.Rows.slot_tuple_getitem
  (wpAny_call_entry PyProof.Rows.slot_tuple_getitem ht.typeIs entry_tuple_getitem ?_ (args_tuple_getitem _ _)))
 show wpAny _ _ (Builtin.Tuple.tupleItemsOf (.ref t) >>= _) _ _ s;refine wpAny_bind (tupleItemsOf_ ht ?_);refine wpAny_bind (wpAny_typeOf hTs ?_);rw [if_pos (by decide)];refine wpAny_bind (sliceApplied_gen hs pl pu ?_);have hno:¬ ((((sIx items.size 0 lo:Nat):Int)==0&&(1:Int)==1&&(sIx items.size items.size hi - sIx items.size 0 lo)==items.size)=true):=by
  intro q;rw [Bool.and_eq_true,Bool.and_eq_true] at q;have q1:((sIx items.size 0 lo:Nat):Int)=0:=eq_of_beq q.1.1;have q2:sIx items.size items.size hi - sIx items.size 0 lo=items.size:=eq_of_beq q.2;exact hw ⟨by omega,by omega⟩
 show wpAny _ _ (if (((sIx items.size 0 lo:Nat):Int)==0&&(1:Int)==1&&(sIx items.size items.size hi - sIx items.size 0 lo)==items.size)=true then _ else _) _ _ s;rw [if_neg hno,aE9]
 first
  | exact wpAny_bind (m:=Builtin.Tuple.tupleExact _) (wpAny_newObj_type (wpAny_pure ⟨_,rfl,wpAny_pure h⟩) htake)
  | exact wpAny_bind (m:=Builtin.Tuple.tupleExact _) (wpAny_newObj_type (wpAny_bind (wpAny_pure (wpAny_pure ⟨_,rfl,wpAny_pure h⟩))) htake)
  | exact wpAny_bind (wpAny_bind (m:=Builtin.Tuple.tupleExact _) (wpAny_newObj_type (wpAny_pure (wpAny_pure ⟨_,rfl,wpAny_pure h⟩)) htake))
  | exact wpAny_bind (wpAny_bind (m:=Builtin.Tuple.tupleExact _) (wpAny_newObj_type (wpAny_pure ⟨_,rfl,wpAny_pure h⟩) htake))
end
end HT

namespace DL
open PySem PySem.Spec PyProof.Rows L2
set_option genInjectivity true in
inductive W where
 | d (x:PyData)
 | c (i:Nat)
set_option genInjectivity true in
inductive Cell where
 | l (xs:List PyData)
 | k (kvs:List (PyData×PyData))
 | o (C:Addr) (fs:List (Str×W))
 | r (ws:List W)
 | n (kvs:List (PyData×PyData))
 | t (qs:List (Pos×Str))
 | p (ws:List W)
abbrev aA:=List Cell
abbrev DSt:=List (Option W)
noncomputable def bI:PyData->Option Key
 | .int i=>some (.inl i)
 | .str x=>if PyData.strOk x=true then some (.inr x) else none
 | _=>none
section
variable {α β γ:Type} {F G:α->β->Prop}
theorem pY (f:∀ a b,F a b->G a b):∀ {l:List α} {r:List β},Paired F l r->Paired G l r
 | _,_,.nil=>.nil
 | _,_,.cons h t=>.cons (f _ _ h) (pY f t)
theorem iQ:∀ {l:List α} {r:List β} {i:Nat} {a:α},Paired F l r->l[i]?=some a->∃ b,r[i]?=some b/\F a b
 | _,_,_,_,.nil,e=>by simp at e
 | _,_,0,_,.cons h _,e=>by simp at e;subst e;exact ⟨_,rfl,h⟩
 | _,_,i+1,a,.cons _ t,e=>by
  obtain ⟨b,h1,h2⟩:=iQ (i:=i) (a:=a) t (by simpa using e);exact ⟨b,by simpa using h1,h2⟩
theorem bG0 {a:α} {b:β} (h:F a b):∀ {l:List α} {r:List β} (i:Nat),Paired F l r->Paired F (l.set i a) (r.set i b)
 | _,_,_,.nil=>.nil
 | _,_,0,.cons _ t=>.cons h t
 | _,_,i+1,.cons q t=>.cons q (bG0 h i t)
theorem aF0:∀ {l l':List α} {r r':List β},Paired F l r->Paired F l' r'->Paired F (l++l') (r++r')
 | _,_,_,_,.nil,s=>s
 | _,_,_,_,.cons h t,s=>.cons h (aF0 t s)
theorem aF1:∀ {l:List α} {r:List β} (n:Nat),Paired F l r->Paired F (l.take n) (r.take n)
 | _,_,0,_=>.nil
 | _,_,_+1,.nil=>.nil
 | _,_,n+1,.cons h t=>.cons h (aF1 n t)
theorem aF2:∀ {l:List α} {r:List β} (n:Nat),Paired F l r->Paired F (l.drop n) (r.drop n)
 | _,_,0,h=>h
 | _,_,_+1,.nil=>.nil
 | _,_,n+1,.cons _ t=>aF2 n t
theorem rT {f:γ->α}:∀ {l:List γ} {r:List β},Paired (fun a b=>F (f a) b) l r->Paired F (l.map f) r
 | _,_,.nil=>.nil
 | _,_,.cons h t=>.cons h (rT t)
theorem bC5 {f:γ->α}:∀ {l:List γ} {r:List β},Paired F (l.map f) r->Paired (fun a b=>F (f a) b) l r
 | [],_,h=>by cases h;exact .nil
 | _::_,_,h=>by cases h with | cons h t=>exact .cons h (bC5 t)
end
structure Sx where
 P:Program
 w:World
 K:PySem.W.Frag
 mg:Str->Option Value
 base:Heap
 os:OsState
 tb:Array Value
 tp:Addr
abbrev Zm:=Addr->Option Obj
structure Mp where
 Z:Zm
 m:List (Addr×Addr)
abbrev Kp:=Addr->Option (Bool×Obj)
def SqO (n:String) (o:Obj) (us:List Value):Prop:=(∃ k,o={ cls:=.type n,data:=.seq us.toArray k })/\us.length<=sizeLine
def DcO (S:Sx) (a:Addr) (o:Obj) (vs:List (Key×Value)):Prop:=(a==sysModules)=false/\vs.length<=sizeLine/\∀ h:Heap,h.get? a=some o->h.DictOf (bX S.P S.w) a vs
noncomputable def fP:List (PyData×PyData)->Option Str
 | [(.none,.str g)]=>some g
 | _=>none
noncomputable def fkD (g:Str):PyData:=.dict [(.none,.str g)]
def wM {kvs:List (PyData×PyData)} {g:Str} (e:fP kvs=some g):kvs=[(.none,.str g)]:=by
 unfold fP at e;split at e
 ·cases e;rfl
 ·cases e
mutual
noncomputable def Rep (S:Sx) (Z:Zm):PyData->Value->Prop
 | .none,u=>u=.none
 | .bool b,u=>u=.bool b
 | .int i,u=>∃ t,u=.int i t
 | .str x,u=>(∃ t,u=.str x t)/\PyData.strOk x=true
 | .list xs,u=>∃ a o us,u=.ref a/\Z a=some o/\SqO "list" o us/\Reps S Z xs us
 | .tuple xs,u=>∃ a o us,u=.ref a/\Z a=some o/\SqO "tuple" o us/\Reps S Z xs us
 | .dict kvs,u=>(∃ g a,fP kvs=some g/\u=.ref a/\S.mg g=some u)\/∃ a o vs,u=.ref a/\Z a=some o/\DcO S a o vs/\RepKs S Z kvs vs
noncomputable def Reps (S:Sx) (Z:Zm):List PyData->List Value->Prop
 | [],us=>us=[]
 | x::xs,us=>∃ u r,us=u::r/\Rep S Z x u/\Reps S Z xs r
noncomputable def RepKs (S:Sx) (Z:Zm):List (PyData×PyData)->List (Key×Value)->Prop
 | [],vs=>vs=[]
 | p::kvs,vs=>∃ q r,vs=q::r/\RepP S Z p q/\RepKs S Z kvs r
noncomputable def RepP (S:Sx) (Z:Zm):PyData×PyData->Key×Value->Prop
 | (k,x),q=>bI k=some q.1/\Rep S Z x q.2
end
section
variable {S:Sx} {Z Z':Zm}
theorem reps_iff:∀ {xs:List PyData} {us:List Value},Reps S Z xs us ↔ Paired (Rep S Z) xs us
 | [],us=>by rw [Reps];exact ⟨fun e=>e ▸ .nil,fun h=>by cases h;rfl⟩
 | x::xs,us=>by
  rw [Reps];exact ⟨fun ⟨u,r,e,h,t⟩=>e ▸ .cons h (reps_iff.mp t),fun h=>by cases h with | cons h t=>exact ⟨_,_,rfl,h,reps_iff.mpr t⟩⟩
abbrev RepK (S:Sx) (Z:Zm):List (PyData×PyData)->List (Key×Value)->Prop:=Paired fun p q=>bI p.1=some q.1/\Rep S Z p.2 q.2
theorem repks_iff:∀ {xs:List (PyData×PyData)} {us:List (Key×Value)},RepKs S Z xs us ↔ RepK S Z xs us
 | [],us=>by rw [RepKs];exact ⟨fun e=>e ▸ .nil,fun h=>by cases h;rfl⟩
 | (k,x)::xs,us=>by
  rw [RepKs];exact ⟨fun ⟨u,r,e,h,t⟩=>by rw [RepP] at h;exact e ▸ .cons h (repks_iff.mp t),fun h=>by cases h with | cons h t=>exact ⟨_,_,rfl,by rw [RepP];exact h,repks_iff.mpr t⟩⟩
def rep_l {xs:List PyData} {u:Value}:Rep S Z (.list xs) u ↔ ∃ a o us,u=.ref a/\Z a=some o/\SqO "list" o us/\Paired (Rep S Z) xs us:=by rw [Rep];simp only [reps_iff]
def rep_t {xs:List PyData} {u:Value}:Rep S Z (.tuple xs) u ↔ ∃ a o us,u=.ref a/\Z a=some o/\SqO "tuple" o us/\Paired (Rep S Z) xs us:=by rw [Rep];simp only [reps_iff]
def wN {xs:List (PyData×PyData)} {vs:List (Key×Value)} (r:RepK S Z xs vs):fP xs=none:=by
 cases e:fP xs with
 | none=>rfl
 | some g=>rw [wM e] at r;cases r with | cons h _=>cases h.1
def aF3 {xs:List (PyData×PyData)} {u:Value} (hf:fP xs=none):Rep S Z (.dict xs) u ↔ ∃ a o vs,u=.ref a/\Z a=some o/\DcO S a o vs/\RepK S Z xs vs:=by
 rw [Rep];simp only [repks_iff];exact ⟨fun h=>h.elim (fun ⟨g,_,e,_⟩=>by rw [hf] at e;cases e) id,.inr⟩
def aF4 {xs:List (PyData×PyData)} {u:Value} {g:Str} (hf:fP xs=some g):Rep S Z (.dict xs) u ↔ (∃ a,u=.ref a)/\S.mg g=some u:=by
 rw [Rep];simp only [repks_iff];refine ⟨fun h=>h.elim (fun ⟨g',a,e,e2,e3⟩=>?_) (fun ⟨a,o,vs,_,_,_,r⟩=>?_),fun ⟨⟨a,e⟩,h⟩=>.inl ⟨g,a,hf,e,h⟩⟩
 ·rw [hf] at e;cases e;exact ⟨⟨a,e2⟩,e3⟩
 ·rw [wN r] at hf;cases hf
def rep_n {u:Value}:Rep S Z .none u ↔ u=.none:=by rw [Rep]
def rep_b {b:Bool} {u:Value}:Rep S Z (.bool b) u ↔ u=.bool b:=by rw [Rep]
def rep_i {i:Int} {u:Value}:Rep S Z (.int i) u ↔ ∃ t,u=.int i t:=by rw [Rep]
def rep_s {x:Str} {u:Value}:Rep S Z (.str x) u ↔ (∃ t,u=.str x t)/\PyData.strOk x=true:=by rw [Rep]
mutual
theorem Rep.go (hs:∀ a o,Z a=some o->Z' a=some o):∀ {d:PyData} {v:Value},Rep S Z d v->Rep S Z' d v
 | .none,_,h=>by rw [Rep] at h ⊢;exact h
 | .bool _,_,h=>by rw [Rep] at h ⊢;exact h
 | .int _,_,h=>by rw [Rep] at h ⊢;exact h
 | .str _,_,h=>by rw [Rep] at h ⊢;exact h
 | .list xs,_,h=>by rw [Rep] at h ⊢;obtain ⟨a,o,us,e,z,q,r⟩:=h;exact ⟨a,o,us,e,hs _ _ z,q,Reps.go hs r⟩
 | .tuple xs,_,h=>by rw [Rep] at h ⊢;obtain ⟨a,o,us,e,z,q,r⟩:=h;exact ⟨a,o,us,e,hs _ _ z,q,Reps.go hs r⟩
 | .dict xs,_,h=>by rw [Rep] at h ⊢;exact h.elim .inl fun ⟨a,o,us,e,z,q,r⟩=>.inr ⟨a,o,us,e,hs _ _ z,q,RepKs.go hs r⟩
theorem Reps.go (hs:∀ a o,Z a=some o->Z' a=some o):∀ {ds:List PyData} {vs:List Value},Reps S Z ds vs->Reps S Z' ds vs
 | [],_,h=>by rw [Reps] at h ⊢;exact h
 | x::xs,_,h=>by rw [Reps] at h ⊢;obtain ⟨v,r,e,h1,h2⟩:=h;exact ⟨v,r,e,Rep.go hs h1,Reps.go hs h2⟩
theorem RepKs.go (hs:∀ a o,Z a=some o->Z' a=some o):∀ {ds:List (PyData×PyData)} {vs:List (Key×Value)},RepKs S Z ds vs->RepKs S Z' ds vs
 | [],_,h=>by rw [RepKs] at h ⊢;exact h
 | x::xs,_,h=>by rw [RepKs] at h ⊢;obtain ⟨v,r,e,h1,h2⟩:=h;exact ⟨v,r,e,RepP.go hs h1,RepKs.go hs h2⟩
theorem RepP.go (hs:∀ a o,Z a=some o->Z' a=some o):∀ {p:PyData×PyData} {q:Key×Value},RepP S Z p q->RepP S Z' p q
 | (k,x),q,h=>by rw [RepP] at h ⊢;exact ⟨h.1,Rep.go hs h.2⟩
end
end
def RepW (S:Sx) (M:Mp):W->Value->Prop
 | .d x,u=>Rep S M.Z x u
 | .c i,u=>∃ p,M.m[i]?=some p/\u=.ref p.1
abbrev Reps' (S:Sx) (M:Mp):List PyData->List Value->Prop:=Paired (Rep S M.Z)
abbrev RepWs (S:Sx) (M:Mp):List W->List Value->Prop:=Paired (RepW S M)
structure Le (M M':Mp):Prop where
 z:∀ a o,M.Z a=some o->M'.Z a=some o
 m:∃ n,M'.m=M.m++n
def Le.refl {M:Mp}:Le M M:=⟨fun _ _ e=>e,[],by simp⟩
def Le.trans {M N O:Mp} (a:Le M N) (b:Le N O):Le M O:=⟨fun x o e=>b.z x o (a.z x o e),let ⟨n,e⟩:=a.m;let ⟨k,q⟩:=b.m;⟨n++k,by rw [q,e,List.append_assoc]⟩⟩
def Le.at {M M':Mp} (l:Le M M') {i:Nat} {p:Addr×Addr} (e:M.m[i]?=some p):M'.m[i]?=some p:=by
 obtain ⟨n,q⟩:=l.m;rw [q,List.getElem?_append_left (List.getElem?_eq_some_iff.mp e).1,e]
section
variable {S:Sx} {M M':Mp}
def RepW.go (l:Le M M') {w:W} {u:Value} (r:RepW S M w u):RepW S M' w u:=by
 cases w with
 | d x=>exact Rep.go l.z r
 | c i=>obtain ⟨p,e,q⟩:=r;exact ⟨p,l.at e,q⟩
def RepWs.go (l:Le M M') {w:List W} {u:List Value} (r:RepWs S M w u):RepWs S M' w u:=pY (fun _ _ h=>h.go l) r
def Reps'.go (l:Le M M') {w:List PyData} {u:List Value} (r:Reps' S M w u):Reps' S M' w u:=pY (fun _ _ h=>Rep.go l.z h) r
def RepK.go (l:Le M M') {w:List (PyData×PyData)} {u:List (Key×Value)} (r:RepK S M.Z w u):RepK S M'.Z w u:=pY (fun _ _ h=>⟨h.1,Rep.go l.z h.2⟩) r
end
def RelO (S:Sx) (M:Mp):Option W->Option Value->Prop
 | some v,some u=>RepW S M v u
 | none,none=>True
 | _,_=>False
theorem RelO.go {S:Sx} {M M':Mp} (l:Le M M'):∀ {a:Option W} {b:Option Value},RelO S M a b->RelO S M' a b
 | some _,some _,h=>RepW.go l h
 | none,none,h=>h
 | some _,none,h=>h.elim
 | none,some _,h=>h.elim
end DL

namespace CI
open PySem
mutual
noncomputable def aG:Nat->PyData->Bool
 | _,.none=>true
 | _,.bool _=>true
 | _,.int _=>true
 | _,.str _=>true
 | n+1,.list xs=>plainsB n xs
 | n+1,.tuple xs=>plainsB n xs
 | _,_=>false
noncomputable def plainsB:Nat->List PyData->Bool
 | _,[]=>true
 | n,x::xs=>aG n x&&plainsB n xs
end
mutual
noncomputable def peq:PyData->PyData->Bool
 | .none,.none=>true
 | .bool a,.bool b=>a==b
 | .int a,.int b=>a==b
 | .str a,.str b=>a==b
 | .list a,.list b=>peqs a b
 | .tuple a,.tuple b=>peqs a b
 | _,_=>false
noncomputable def peqs:List PyData->List PyData->Bool
 | [],[]=>true
 | x::a,y::b=>peq x y&&peqs a b
 | _,_=>false
end
end CI
namespace DL
open PySem PySem.Spec PyProof.Rows L2 CI
section
variable {S:Sx}
mutual
theorem Rep.reads {Z:Zm} {hp:Heap} (k:∀ a o,Z a=some o->hp.get? a=some o):∀ {d:PyData} {u:Value} (n:Nat),Rep S Z d u->aG n d=true->(∃ as,Reads hp u d as)/\d.canLay0=true/\d.depth<=n
 | .none,_,n,h,_=>by rw [Rep] at h;subst h;exact ⟨⟨_,Reads.none⟩,by simp [PyData.canLay0,PyData.depth]⟩
 | .bool _,_,n,h,_=>by rw [Rep] at h;subst h;exact ⟨⟨_,Reads.bool _⟩,by simp [PyData.canLay0,PyData.depth]⟩
 | .int _,_,n,h,_=>by rw [Rep] at h;obtain ⟨t,rfl⟩:=h;exact ⟨⟨_,Reads.int _ _⟩,by simp [PyData.canLay0,PyData.depth]⟩
 | .str _,_,n,h,_=>by rw [Rep] at h;obtain ⟨⟨t,rfl⟩,z⟩:=h;exact ⟨⟨_,Reads.str _ _⟩,by simp [PyData.canLay0,PyData.depth,z]⟩
 | .list xs,_,0,_,p=>by cases p
 | .tuple xs,_,0,_,p=>by cases p
 | .list xs,_,n+1,h,p=>by
  rw [Rep] at h;obtain ⟨a,o,us,rfl,z,⟨⟨m,rfl⟩,_⟩,r⟩:=h;obtain ⟨⟨as,q⟩,c,l⟩:=Reps.reads k n r (show plainsB n xs=true from p);exact ⟨⟨_,Reads.list (k _ _ z) rfl rfl (by simpa using q)⟩,by simp [PyData.canLay0,PyData.depth,c,l]⟩
 | .tuple xs,_,n+1,h,p=>by
  rw [Rep] at h;obtain ⟨a,o,us,rfl,z,⟨⟨m,rfl⟩,_⟩,r⟩:=h;obtain ⟨⟨as,q⟩,c,l⟩:=Reps.reads k n r (show plainsB n xs=true from p);exact ⟨⟨_,Reads.tuple (k _ _ z) rfl rfl (by simpa using q)⟩,by simp [PyData.canLay0,PyData.depth,c,l]⟩
 | .dict _,_,n,_,p=>by cases n<;>cases p
theorem Reps.reads {Z:Zm} {hp:Heap} (k:∀ a o,Z a=some o->hp.get? a=some o):∀ {d:List PyData} {u:List Value} (n:Nat),Reps S Z d u->plainsB n d=true->(∃ as,ReadsAll hp u d as)/\PyData.canLayAll0 d=true/\PyData.depthAll d<=n
 | [],_,n,h,_=>by rw [Reps] at h;subst h;exact ⟨⟨_,ReadsAll.nil⟩,by simp [PyData.canLayAll0,PyData.depthAll]⟩
 | x::xs,_,n,h,p=>by
  rw [Reps] at h;obtain ⟨v,r,rfl,h1,h2⟩:=h
  replace p:(aG n x&&plainsB n xs)=true:=p
  rw [Bool.and_eq_true] at p;obtain ⟨⟨as,q1⟩,c1,l1⟩:=Rep.reads k n h1 p.1;obtain ⟨⟨bs,q2⟩,c2,l2⟩:=Reps.reads k n h2 p.2;refine ⟨⟨_,ReadsAll.cons q1 q2⟩,?_⟩;simp [PyData.canLayAll0,PyData.depthAll,c1,c2];omega
end
end
end DL

namespace DL
open PySem PySem.Spec PyProof.Rows L2
noncomputable def eH:List (Pos×Str)->List Addr->List Value
 | q::qs,c::cs=>rawInt q.1.line::rawInt q.1.col::.ref c::eH qs cs
 | _,_=>[]
def bC6 (Z:Zm) (q:Pos×Str) (c:Addr):Prop:=∃ o vs t,Z c=some o/\o.data=.fields vs/\vs[1]?=some (.str q.2 t)
abbrev aV (us:List Value) (n:Nat):Obj:={ cls:=.type "list",data:=.seq us.toArray n }
def CellOk (S:Sx) (M:Mp) (h:Heap) (p:Addr×Addr):Cell->Prop
 | .l xs=>∃ us n,h.get? p.1=some (aV us n)/\us.length<=sizeLine/\Reps' S M xs us
 | .r is=>∃ us n,h.get? p.1=some (aV us n)/\us.length<=sizeLine/\RepWs S M is us
 | .p is=>∃ o us,h.get? p.1=some o/\SqO "tuple" o us/\RepWs S M is us
 | .k kvs=>∃ vs,h.DictOf (bX S.P S.w) p.1 vs/\RepK S M.Z kvs vs/\(p.1==sysModules)=false/\vs.length<=sizeLine
 | .n _=>False
 | .t qs=>∃ cs,h.get? p.1=some { cls:=.none,data:=.fields (S.tb++(eH qs cs).toArray) }/\Paired (bC6 M.Z) qs cs/\p=(S.tp,S.tp)
 | .o C fs=>p.2≠p.1/\fs.length<=1000/\h.get? p.1=some (PySem.W.instObj C p.2)/\∃ mA,h.Ns1 p.2 mA/\(∀ f,RelO S M (fs.lookup f) (mA f))/\PySem.Within mA (fs.map (·.1))
def CellOk.go {S:Sx} {M M':Mp} {h h':Heap} {p:Addr×Addr} {c:Cell} (l:Le M M') (k:∀ a o,(a=p.1\/a=p.2)->h.get? a=some o->h'.get? a=some o) (x:CellOk S M h p c):CellOk S M' h' p c:=by
 cases c with
 | l xs=>obtain ⟨us,n,e,z,r⟩:=x;exact ⟨us,n,k _ _ (.inl rfl) e,z,r.go l⟩
 | r xs=>obtain ⟨us,n,e,z,r⟩:=x;exact ⟨us,n,k _ _ (.inl rfl) e,z,r.go l⟩
 | p xs=>obtain ⟨o,us,e,z,r⟩:=x;exact ⟨o,us,k _ _ (.inl rfl) e,z,r.go l⟩
 | k xs=>obtain ⟨vs,⟨o,es,ep,e,q⟩,r,z⟩:=x;exact ⟨vs,⟨o,es,ep,k _ _ (.inl rfl) e,q⟩,r.go l,z⟩
 | t qs=>obtain ⟨cs,e,r,ep⟩:=x;exact ⟨cs,k _ _ (.inl rfl) e,pY (fun _ _ ⟨o,vs,t,a,b⟩=>⟨o,vs,t,l.z _ _ a,b⟩) r,ep⟩
 | n xs=>exact x.elim
 | o C fs=>obtain ⟨a,b,e,mA,⟨o,es,ep,e2,q⟩,r,z⟩:=x;exact ⟨a,b,k _ _ (.inl rfl) e,mA,⟨o,es,ep,k _ _ (.inr rfl) e2,q⟩,fun f=>(r f).go l,z⟩
def aZ (κ:Kp) (M:Mp) (a:Addr):Prop:=M.Z a=none/\κ a=none/\∀ p∈M.m,p.1≠a/\p.2≠a
structure Mem (S:Sx) (κ:Kp) (M:Mp) (h:aA) (s:Shared):Prop where
 z:∀ a o,M.Z a=some o->s.heap.get? a=some o
 k:∀ a b o,κ a=some (b,o)->(b=true->s.heap.get? a=some o)/\(∃ sl,s.heap.get? a=some { o with slots:=sl })/\M.Z a=none
 len:M.m.length=h.length
 ap:∀ (i j:Nat) (p q:Addr×Addr),M.m[i]?=some p->M.m[j]?=some q->i≠j->p.1≠q.1/\p.1≠q.2/\p.2≠q.1/\p.2≠q.2
 off:∀ p∈M.m,∀ a,a=p.1\/a=p.2->M.Z a=none/\κ a=none/\∃ o,s.heap.get? a=some o
 cel:∀ (i:Nat) p c,M.m[i]?=some p->h[i]?=some c->CellOk S M s.heap p c
 base:∀ a o,S.base.get? a=some o->M.Z a=some o
 bare:AllBare s.gens
 os:s.os=S.os
section
variable {S:Sx} {κ:Kp} {M M':Mp} {h:aA} {s s':Shared} {h':Heap} {a:Addr} {o:Obj}
def Mem.bk (R:Mem S κ M h s):∀ b o,S.base.get? b=some o->s.heap.get? b=some o:=fun b o e=>R.z b o (R.base b o e)
def Mem.new (R:Mem S κ M h s) (e:s.heap.get? a=none):aZ κ M a:=by
 refine ⟨?_,?_,fun p hp=>?_⟩
 ·cases q:M.Z a with
  | none=>rfl
  | some o=>rw [R.z a o q] at e;cases e
 ·cases q:κ a with
  | none=>rfl
  | some x=>obtain ⟨_,⟨_,z⟩,_⟩:=R.k a x.1 x.2 q;rw [z] at e;cases e
 ·refine ⟨fun z=>?_,fun z=>?_⟩
  ·obtain ⟨_,_,_,q⟩:=R.off p hp a (.inl z.symm);rw [q] at e;cases e
  ·obtain ⟨_,_,_,q⟩:=R.off p hp a (.inr z.symm);rw [q] at e;cases e
def Mem.size (R:Mem S κ M h s):aZ κ M s.heap.objs.size:=R.new (Heap.get?_none_of_le (Nat.le_refl _))
def Mem.keep (R:Mem S κ M h s) (k:∀ b o,s.heap.get? b=some o->¬ aZ κ M b->s'.heap.get? b=some o) (hg:AllBare s'.gens) (ho:s'.os=s.os):Mem S κ M h s' where
 z:=fun b o e=>k b o (R.z b o e) fun f=>by rw [f.1] at e;cases e
 k:=fun b t o e=>by
  have nf:¬ aZ κ M b:=fun f=>by rw [f.2.1] at e;cases e
  obtain ⟨h1,⟨sl,h2⟩,h3⟩:=R.k b t o e;exact ⟨fun z=>k b o (h1 z) nf,⟨sl,k b _ h2 nf⟩,h3⟩
 len:=R.len
 ap:=R.ap
 off:=fun p hp b hb=>by
  obtain ⟨h1,h2,o,h3⟩:=R.off p hp b hb;exact ⟨h1,h2,o,k b o h3 fun f=>by rcases hb with e | e;exact (f.2.2 p hp).1 e.symm;exact (f.2.2 p hp).2 e.symm⟩
 cel:=fun i p c e1 e2=>(R.cel i p c e1 e2).go .refl fun b o hb q=>k b o q fun f=>by
  have hp:=List.mem_of_getElem? e1;rcases hb with e | e;exact (f.2.2 p hp).1 e.symm;exact (f.2.2 p hp).2 e.symm
 base:=R.base
 bare:=hg
 os:=ho.trans R.os
def Mem.kept {t:Nat} (R:Mem S κ M h s) (k:∀ b o,s.heap.get? b=some o->h'.get? b=some o):Mem S κ M h { s with heap:=h',toks:=t }:=R.keep (fun b o e _=>k b o e) R.bare rfl
def Mem.tok (R:Mem S κ M h s) (t:Nat):Mem S κ M h { s with toks:=t }:=R.kept (h':=s.heap) fun _ _ e=>e
noncomputable def Mp.add (M:Mp) (a:Addr) (o:Obj):Mp:=⟨fun b=>if b=a then some o else M.Z b,M.m⟩
def hO:(M.add a o).Z a=some o:=if_pos rfl
def Le.add (f:M.Z a=none):Le M (M.add a o):=⟨fun b u e=>by
 show (if b=a then some o else M.Z b)=some u;rw [if_neg (fun z=>by rw [z,f] at e;cases e)];exact e,[],by simp [Mp.add]⟩
def Mem.frz (R:Mem S κ M h s) (f:aZ κ M a) (e:s.heap.get? a=some o):Mem S κ (M.add a o) h s where
 z:=fun b u q=>by
  by_cases hb:b=a
  ·subst hb;rw [hO] at q;cases q;exact e
  ·exact R.z b u (by rw [<- q];exact (if_neg hb).symm)
 k:=fun b t u q=>by
  obtain ⟨h1,h2,h3⟩:=R.k b t u q;refine ⟨h1,h2,?_⟩;show (if b=a then some o else M.Z b)=none;rw [if_neg (fun z=>by rw [z,f.2.1] at q;cases q)];exact h3
 len:=R.len
 ap:=R.ap
 off:=fun p hp b hb=>by
  obtain ⟨h1,h2,h3⟩:=R.off p hp b hb;refine ⟨?_,h2,h3⟩;show (if b=a then some o else M.Z b)=none;rw [if_neg (fun z=>by rcases hb with e | e;exact (f.2.2 p hp).1 (e.symm.trans z);exact (f.2.2 p hp).2 (e.symm.trans z))];exact h1
 cel:=fun i p c e1 e2=>(R.cel i p c e1 e2).go (.add f.1) fun _ _ _ q=>q
 base:=fun b u q=>(Le.add f.1).z b u (R.base b u q)
 bare:=R.bare
 os:=R.os
noncomputable def Mp.cel (M:Mp) (p:Addr×Addr):Mp:=⟨M.Z,M.m++[p]⟩
def Le.cel {p:Addr×Addr}:Le M (M.cel p):=⟨fun _ _ e=>e,[p],rfl⟩
def snoc_at {α:Type} {l:List α} {x y:α} {i:Nat} (e:(l++[x])[i]?=some y):l[i]?=some y\/(i=l.length/\y=x):=by
 by_cases hi:i < l.length
 ·rw [List.getElem?_append_left hi] at e;exact .inl e
 ·rw [List.getElem?_append_right (by omega)] at e;have:i - l.length=0:=by
   have:=(List.getElem?_eq_some_iff.mp e).1;simp at this;omega
  rw [this] at e;exact .inr ⟨by omega,by simpa using e.symm⟩
def Mem.add {p:Addr×Addr} {c:Cell} (R:Mem S κ M h s) (f:aZ κ M p.1) (g:aZ κ M p.2) (ep:(∃ o,s.heap.get? p.1=some o)/\∃ o,s.heap.get? p.2=some o) (x:CellOk S (M.cel p) s.heap p c):Mem S κ (M.cel p) (h++[c]) s where
 z:=R.z
 k:=R.k
 len:=by show (M.m++[p]).length=_;simp [R.len]
 ap:=fun i j q r e1 e2 ne=>by
  rcases snoc_at (show (M.m++[p])[i]?=some q from e1) with z1 | ⟨z1,y1⟩<;>rcases snoc_at (show (M.m++[p])[j]?=some r from e2) with z2 | ⟨z2,y2⟩
  ·exact R.ap i j q r z1 z2 ne
  ·have hq:=List.mem_of_getElem? z1;rw [y2];exact ⟨(f.2.2 q hq).1,(g.2.2 q hq).1,(f.2.2 q hq).2,(g.2.2 q hq).2⟩
  ·have hq:=List.mem_of_getElem? z2;rw [y1];exact ⟨(f.2.2 r hq).1.symm,(f.2.2 r hq).2.symm,(g.2.2 r hq).1.symm,(g.2.2 r hq).2.symm⟩
  ·omega
 off:=fun q hq b hb=>by
  rcases List.mem_append.mp (show q∈M.m++[p] from hq) with hq | hq
  ·exact R.off q hq b hb
  ·rw [List.mem_singleton.mp hq] at hb;rcases hb with e | e
   ·subst e;exact ⟨f.1,f.2.1,ep.1⟩
   ·subst e;exact ⟨g.1,g.2.1,ep.2⟩
 cel:=fun i q d e1 e2=>by
  rcases snoc_at (show (M.m++[p])[i]?=some q from e1) with e3 | ⟨e3,rfl⟩
  ·rw [List.getElem?_append_left (by rw [<- R.len];exact (List.getElem?_eq_some_iff.mp e3).1)] at e2;exact (R.cel i q d e3 e2).go .cel fun _ _ _ q=>q
  ·rcases snoc_at e2 with e2 | ⟨e2,rfl⟩
   ·have:=(List.getElem?_eq_some_iff.mp e2).1;rw [<- R.len] at this;omega
   ·exact x
 base:=R.base
 bare:=R.bare
 os:=R.os
def Mem.wr {i:Nat} {p:Addr×Addr} {c:Cell} (R:Mem S κ M h s) (ei:M.m[i]?=some p) (k:∀ b o,b≠p.1->b≠p.2->s.heap.get? b=some o->s'.heap.get? b=some o) (ep:(∃ o,s'.heap.get? p.1=some o)/\∃ o,s'.heap.get? p.2=some o)
  (hg:AllBare s'.gens) (ho:s'.os=s.os) (x:CellOk S M s'.heap p c):Mem S κ M (h.set i c) s':=by
 have hp:=List.mem_of_getElem? ei;have o1:=R.off p hp p.1 (.inl rfl);have o2:=R.off p hp p.2 (.inr rfl);refine ⟨fun b u e=>k b u (fun z=>?_) (fun z=>?_) (R.z b u e),fun b t u e=>?_,by rw [List.length_set];exact R.len,R.ap,fun q hq b hb=>?_,fun j q d e1 e2=>?_,R.base,hg,ho.trans R.os⟩
 ·rw [z,o1.1] at e;cases e
 ·rw [z,o2.1] at e;cases e
 ·obtain ⟨h1,⟨sl,h2⟩,h3⟩:=R.k b t u e;have n1:b≠p.1:=fun z=>by rw [z,o1.2.1] at e;cases e
  have n2:b≠p.2:=fun z=>by rw [z,o2.2.1] at e;cases e
  exact ⟨fun z=>k b u n1 n2 (h1 z),⟨sl,k b _ n1 n2 h2⟩,h3⟩
 ·obtain ⟨h1,h2,u,h3⟩:=R.off q hq b hb;refine ⟨h1,h2,?_⟩
  by_cases z1:b=p.1
  ·rw [z1];exact ep.1
  by_cases z2:b=p.2
  ·rw [z2];exact ep.2
  exact ⟨u,k b u z1 z2 h3⟩
 ·by_cases ij:i=j
  ·subst ij;rw [ei] at e1;cases e1;rw [List.getElem?_set_self (by rw [<- R.len];exact (List.getElem?_eq_some_iff.mp ei).1)] at e2;cases e2;exact x
  ·rw [List.getElem?_set_ne ij] at e2;obtain ⟨a1,a2,a3,a4⟩:=R.ap i j p q ei e1 ij;refine (R.cel j q d e1 e2).go .refl fun b u hb e=>k b u ?_ ?_ e
   ·rcases hb with z | z;exact fun y=>a1 (y.symm.trans z);exact fun y=>a2 (y.symm.trans z)
   ·rcases hb with z | z;exact fun y=>a3 (y.symm.trans z);exact fun y=>a4 (y.symm.trans z)
def Mem.less {κ':Kp} (R:Mem S κ' M h s) (k:∀ a x,κ a=some x->κ' a=some x):Mem S κ M h s :=
 ⟨R.z,fun a b o e=>R.k a b o (k a _ e),R.len,R.ap,fun p hp a ha=>(by
  obtain ⟨h1,h2,h3⟩:=R.off p hp a ha;refine ⟨h1,?_,h3⟩;cases q:κ a with
  | none=>rfl
  | some x=>rw [k a x q] at h2;cases h2),R.cel,R.base,R.bare,R.os⟩
noncomputable def Kp.up (κ:Kp) (a:Addr) (x:Bool×Obj):Kp:=fun b=>if b=a then some x else κ b
def fQ {x:Bool×Obj}:κ.up a x a=some x:=if_pos rfl
def bG {x:Bool×Obj} {b:Addr} (h:b≠a):κ.up a x b=κ b:=if_neg h
def Mem.more {b:Bool} (R:Mem S κ M h s) (f:M.Z a=none/\∀ p∈M.m,p.1≠a/\p.2≠a) (e:s.heap.get? a=some o):Mem S (κ.up a (b,o)) M h s :=
 ⟨R.z,fun c t u q=>by
  by_cases hc:c=a
  ·subst hc;rw [fQ] at q;cases q;exact ⟨fun _=>e,⟨_,e⟩,f.1⟩
  ·rw [bG hc] at q;exact R.k c t u q,R.len,R.ap,fun p hp c hc=>(by
  obtain ⟨h1,h2,h3⟩:=R.off p hp c hc;refine ⟨h1,?_,h3⟩;rw [bG fun z=>?_];exact h2;rcases hc with q | q;exact (f.2 p hp).1 (q.symm.trans z);exact (f.2 p hp).2 (q.symm.trans z)),R.cel,R.base,R.bare,R.os⟩
def Mem.kc {x:Bool×Obj} (R:Mem S κ M h s) (ea:κ a=some x):∀ p∈M.m,p.1≠a/\p.2≠a:=fun p hp =>
 have t:∀ b,b=p.1\/b=p.2->b≠a:=fun b hb z=>by
  have:=(R.off p hp b hb).2.1;rw [z,ea] at this;cases this
 ⟨t _ (.inl rfl),t _ (.inr rfl)⟩
def Mem.own {x:Bool×Obj} {b:Bool} (R:Mem S κ M h s) (ea:κ a=some x) (k:∀ b o,b≠a->s.heap.get? b=some o->s'.heap.get? b=some o) (e:s'.heap.get? a=some o) (hg:AllBare s'.gens) (ho:s'.os=s.os):Mem S (κ.up a (b,o)) M h s':=by
 have za:=(R.k a x.1 x.2 ea).2.2;have ca:∀ p∈M.m,p.1≠a/\p.2≠a:=R.kc ea;refine ⟨fun c u q=>k c u (fun z=>by rw [z,za] at q;cases q) (R.z c u q),fun c t u q=>?_,R.len,R.ap,fun p hp c hc=>?_,fun i p d e1 e2=>?_,R.base,hg,ho.trans R.os⟩
 ·by_cases hc:c=a
  ·subst hc;rw [fQ] at q;cases q;exact ⟨fun _=>e,⟨_,e⟩,za⟩
  ·rw [bG hc] at q;obtain ⟨h1,⟨sl,h2⟩,h3⟩:=R.k c t u q;exact ⟨fun z=>k c u hc (h1 z),⟨sl,k c _ hc h2⟩,h3⟩
 ·obtain ⟨h1,h2,u,h3⟩:=R.off p hp c hc;have hca:c≠a:=by rcases hc with q | q;exact q ▸ (ca p hp).1;exact q ▸ (ca p hp).2
  exact ⟨h1,by rw [bG hca];exact h2,u,k c u hca h3⟩
 ·have hp:=List.mem_of_getElem? e1;refine (R.cel i p d e1 e2).go .refl fun c u hc q=>k c u ?_ q;rcases hc with q | q;exact q ▸ (ca p hp).1;exact q ▸ (ca p hp).2
end
end DL

namespace L2
open PySem
noncomputable def cF (s:Stmt):Arguments:=match s with
 | .FunctionDef _ a _ _ _ _ _ _ _ _=>a
 | _=>{ posonlyargs:=[],args:=[],vararg:=none,kwonlyargs:=[],kw_defaults:=[],kwarg:=none,defaults:=[] }
noncomputable def bC (s:Stmt):List Stmt:=match s with
 | .FunctionDef _ _ b _ _ _ _ _ _ _=>b
 | _=>[]
noncomputable def defScope (s:Stmt):Scope:=match s with
 | .FunctionDef _ _ _ _ _ _ sc _ _ _=>sc
 | _=>{ kind:=.module,names:=[],isGenerator:=false,isCoroutine:=false,more:=[] }
noncomputable def ixN (n:Nat) (i:Int):Option Nat:=if 0<=i then (if i < n then some i.toNat else none) else if -(n:Int)<=i then some (i+n).toNat else none
def atI {α:Type} (xs:List α) (i:Int):Option α:=(ixN xs.length i).bind fun j=>xs[j]?
end L2
namespace ST
open PySem PyProof.Rows
noncomputable def dd (ns:List Int):List Int:=ns.foldl step_dedup []
noncomputable def srt (ns:List Int):List Int:=ns.mergeSort fun a b=>decide (a<=b)
end ST
namespace DL
open PySem PySem.Spec PyProof.Rows L2
noncomputable def ref (h:aA):W->Option PyData
 | .d x=>some x
 | .c i=>match h[i]? with
  | some (.l xs)=>some (.list xs)
  | some (.k kvs)=>some (.dict kvs)
  | _=>none
noncomputable def aF5:W->List Nat
 | .c i=>[i]
 | _=>[]
def cRefs:Cell->List Nat
 | .o _ fs=>(fs.map fun p=>aF5 p.2).flatten
 | .r is=>(is.map aF5).flatten
 | .p is=>(is.map aF5).flatten
 | _=>[]
def okP (h h1:aA):Prop:=∀ (i:Nat) (c:Cell),i < h.length->h1[i]?=some c->(∀ j∈cRefs c,j < h.length)\/h[i]?=some c
noncomputable def isSame:PyData->PyData->Option Bool
 | .none,.none=>some true
 | .bool a,.bool b=>some (a==b)
 | .none,.bool _=>some false
 | .bool _,.none=>some false
 | .int _,.none=>some false
 | .int _,.bool _=>some false
 | .str _,.none=>some false
 | .str _,.bool _=>some false
 | .list _,.none=>some false
 | .list _,.bool _=>some false
 | .tuple _,.none=>some false
 | .tuple _,.bool _=>some false
 | _,_=>none
noncomputable def cI:List PyData->Option (List Bool)
 | []=>some []
 | .bool b::r=>(cI r).map (b::·)
 | _::_=>none
noncomputable def gJ:PyData->String
 | .none=>"NoneType"
 | .bool _=>"bool"
 | .int _=>"int"
 | .str _=>"str"
 | .list _=>"list"
 | .tuple _=>"tuple"
 | .dict _=>"dict"
def noD:PyData->Bool
 | .dict kvs=>(fP kvs).isNone
 | _=>true
def isi (d:PyData) (T:String):Bool:=gJ d==T||(gJ d=="bool"&&T=="int")
def pZ (kvs:List (PyData×PyData)) (k v:PyData):List (PyData×PyData) :=
 if (kvs.any fun p=>decide (bI p.1=bI k))=true then kvs.map (fun p=>if bI p.1=bI k then (p.1,v) else p) else kvs++[(k,v)]
def cut (xs:List PyData) (lo hi:Option Int):List PyData:=(xs.drop (HT.sIx xs.length 0 lo)).take (HT.sIx xs.length xs.length hi - HT.sIx xs.length 0 lo)
noncomputable def bK (ixs:List (Option Nat)) (δ:DSt):DSt:=ixs.map fun o=>o.bind fun i=>(δ[i]?).bind id
noncomputable def eW (N:List Str) (ws:List W):DSt:=ws.map some++List.replicate (N.length - ws.length) none
noncomputable def rng (lo:Int) (n:Nat):List PyData:=(List.range n).map fun (i:Nat)=>.int (lo+(i:Int))
noncomputable def iY:W->Option (List PyData)
 | .d (.list xs)=>some xs
 | .d (.tuple xs)=>some xs
 | _=>none
noncomputable def fV (xs ys:List PyData):List PyData:=List.zipWith (fun x y=>.tuple [x,y]) xs ys
noncomputable def iS (k:Nat):List PyData->List PyData
 | []=>[]
 | x::r=>.tuple [.int k,x]::iS (k+1) r
def dY (xs:List PyData):List PyData:=iS 0 xs
noncomputable def bD:List PyData->Option (List Int)
 | []=>some []
 | .int i::r=>(bD r).map (i::·)
 | _=>none
noncomputable def hX:List W->Option (List PyData)
 | []=>some []
 | .d x::r=>(hX r).map (x::·)
 | _::_=>none
end DL

namespace CI
open PySem PySem.Spec PyProof.Rows L2 DL ST

abbrev XR (α:Type):=DSt->aA->Option (α×aA)
set_option genInjectivity true in
inductive Fl where
 | nx (δ:DSt) | rt (w:W) | bk (δ:DSt) | ct (δ:DSt)
abbrev XS:=DSt->aA->Option (Fl×aA)
abbrev XG:=W->DSt->aA->Option (DSt×aA)
abbrev XF:=List W->aA->Option (PyData×aA)
abbrev XFW:=List W->aA->Option (W×aA)
structure ObS where
 fnW:Str->Option XFW
 cls:Str->Option (Addr×XFW)
 om:Str->Option (Addr×XFW)
 fo:Addr->Str->Bool
noncomputable def xno {α:Type}:XR α:=fun _ _=>none
noncomputable def aC {α:Type} (a:α):XR α:=fun _ h=>some (a,h)
noncomputable def xb {α β:Type} (x:XR α) (f:α->XR β):XR β:=fun δ h=>(x δ h).bind fun p=>f p.1 δ p.2
structure Sta where
 bl:List Str
 gc:Str->Option PyData
 tk:Str->Option (Str->Option PyData)
 fn:Str->Option XF
 ac:Str->List Nat
 cv:List Str
 N:List Str
 S:Scope
 top:Bool
 fuel:Nat
 ob:ObS
 qn:Option (Str×Pos)
structure Evs where
 E:Sta->Expr->XR W
 T:Sta->Expr->XR Bool
 F:Sta->Expr->XR (List PyData)
 G:Sta->Expr->XG
 S:Sta->Stmt->XS
def Evs.no:Evs:=⟨fun _ _=>xno,fun _ _=>xno,fun _ _=>xno,fun _ _ _ _ _=>none,fun _ _ _ _=>none⟩

noncomputable def eX (x:Str):Bool:=!(x==("__debug__":Str))&&(!(x==("__classdict__":Str))&&!(x==("__name__":Str)))
noncomputable def bG1 (S:Scope) (x:Str):Bool:=match S.names.lookup x with
 | some .local=>true
 | some .cell=>true
 | some .free=>true
 | _=>false
noncomputable def qA (S:Scope) (x:Str):Bool:=match S.names.lookup x with
 | some .local=>true
 | some .cell=>true
 | _=>false
noncomputable def dJ (S:Scope) (x:Str):Bool:=match S.names.lookup x with
 | some .local=>true
 | _=>false
noncomputable def glB (S:Scope) (x:Str):Bool:=match S.names.lookup x with
 | some .globalImplicit=>true
 | _=>false
noncomputable def slot (st:Sta) (x:Str):Option Nat:=st.N.findIdx? (·==x)
noncomputable def aB (i:Nat):XR W:=fun δ h=>match δ[i]? with
 | some (some w)=>some (w,h)
 | _=>none
def cL (st:Sta) (x:Str):Bool:=eX x&&glB st.S x
def wO (st:Sta) (x:Str):XR W:=if eX x=true then
  (match slot st x with
   | some i=>if bG1 st.S x=true then aB i else xno
   | none=>(match st.gc x with
    | some d=>if glB st.S x=true then aC (.d d) else xno
    | none=>xno))
 else xno
def aF6:Const->XR W
 | .none=>aC (.d .none)
 | .bool b=>aC (.d (.bool b))
 | .int i=>aC (.d (.int i))
 | .str x=>if PyData.strOk x=true then aC (.d (.str x)) else xno
 | _=>xno

noncomputable def iT (i j:Int):Bool:=(decide (-(2^64) < i)&&decide (i < 2^64))||(decide (-(2^64) < j)&&decide (j < 2^64))
noncomputable def dP (j:Int):Bool:=decide (0 < j)&&(decide (j < 1073741824)||decide (j.natAbs.log2 < 8000))
noncomputable def rU (i j:Int):Bool:=decide (0<=j)&&(decide (j<=1000000)&&decide (i.natAbs < 2^64))
def bG2 (u w:W) (h:aA):Option (W×aA):=match u,w with
 | .d (.int i),.d (.int j)=>some (.d (.int (i+j)),h)
 | .d (.tuple xs),.d (.tuple ys)=>if xs.length+ys.length<=sizeLine then some (.d (.tuple (xs++ys)),h) else none
 | _,_=>(match ref h u,ref h w with
  | some (.list xs),some (.list ys)=>if xs.length+ys.length<=sizeLine then some (.d (.list (xs++ys)),h) else none
  | _,_=>none)
def bT5 (u w:W) (h:aA):Option (W×aA):=match u,w with
 | .d (.int i),.d (.int j)=>if iT i j=true then some (.d (.int (i*j)),h) else none
 | _,_=>none
def hZ (op:Operator) (u w:W) (h:aA):Option (W×aA):=match op with
 | .Add=>bG2 u w h
 | .Mult=>bT5 u w h
 | _=>(match u,w with
  | .d (.int i),.d (.int j)=>(match op with
   | .Sub=>some (.d (.int (i - j)),h)
   | .FloorDiv=>if dP j=true then some (.d (.int (i / j)),h) else none
   | .Mod=>if 0 < j then some (.d (.int (i%j)),h) else none
   | .Pow=>if rU i j=true then some (.d (.int (i^j.toNat)),h) else none
   | .RShift=>if 0<=j then some (.d (.int (i / 2^j.toNat)),h) else none
   | _=>none)
  | _,_=>none)
noncomputable def cL4:CmpOp->Option (Int->Int->Bool)
 | .Lt=>some fun i j=>decide (i < j)
 | .LtE=>some fun i j=>decide (i<=j)
 | .Gt=>some fun i j=>decide (j < i)
 | .GtE=>some fun i j=>decide (j<=i)
 | _=>none
def xEq (u w:W) (h:aA):Option Bool:=match ref h u,ref h w with
 | some a,some b=>if (aG 64 a&&aG 64 b)=true then some (PyData.eqv a b) else none
 | _,_=>none
def xIs (u w:W):Option Bool:=match u,w with
 | .d a,.d b=>DL.isSame a b
 | .c _,.d .none=>some false
 | _,_=>none
def xIn (u w:W) (h:aA):Option Bool:=match ref h u,ref h w with
 | some d,some (.list xs)=>if (aG 64 (.list xs)&&aG 64 d)=true then some (xs.any fun z=>PyData.eqv z d) else none
 | some d,some (.tuple xs)=>if (aG 64 (.tuple xs)&&aG 64 d)=true then some (xs.any fun z=>PyData.eqv z d) else none
 | _,_=>none
def eJ (op:CmpOp) (u w:W) (h:aA):Option (Bool×aA):=match op with
 | .Eq=>(xEq u w h).map fun b=>(b,h)
 | .NotEq=>(xEq u w h).map fun b=>(!b,h)
 | .Is=>(xIs u w).map fun b=>(b,h)
 | .IsNot=>(xIs u w).map fun b=>(!b,h)
 | .In=>(xIn u w h).map fun b=>(b,h)
 | .NotIn=>(xIn u w h).map fun b=>(!b,h)
 | _=>(match u,w with
  | .d (.int i),.d (.int j)=>(cL4 op).map fun p=>(p i j,h)
  | _,_=>none)
noncomputable def asW (p:Bool×aA):W×aA:=(.d (.bool p.1),p.2)
def xIr (u:W) (k:Int) (h:aA):Option (W×aA):=match u with
 | .c j=>(match h[j]? with
  | some (.r is)=>(atI is k).map fun m=>(m,h)
  | _=>none)
 | _=>none
def xIx (u w:W) (h:aA):Option (W×aA):=match ref h u,w with
 | some (.list xs),.d (.int i)=>(atI xs i).map fun v=>(.d v,h)
 | some (.tuple xs),.d (.int i)=>(atI xs i).map fun v=>(.d v,h)
 | some (.dict kvs),.d d=>(match bI d with
  | some k=>(kvs.find? fun p=>decide (bI p.1=some k)).map fun p=>(.d p.2,h)
  | none=>none)
 | none,.d (.int k)=>xIr u k h
 | _,_=>none
def xSl (u:W) (lo hi:Option Int) (h:aA):Option (W×aA):=match u with
 | .d (.tuple xs)=>some (.d (.tuple (cut xs lo hi)),h)
 | _=>(match ref h u with
  | some (.list xs)=>some (.d (.list (cut xs lo hi)),h)
  | _=>none)

noncomputable def bG3 (w:W) (h:aA):Option Nat:=match w with
 | .c j=>(match h[j]? with
  | some (.r is)=>some is.length
  | _=>none)
 | _=>none
def aY:List W->aA->Option (W×aA)
 | [w],h=>(match ref h w with
  | some (.list xs)=>some (.d (.int xs.length),h)
  | some (.tuple xs)=>some (.d (.int xs.length),h)
  | none=>(bG3 w h).map fun n=>(.d (.int n),h)
  | _=>none)
 | _,_=>none
def aT:List W->aA->Option (W×aA)
 | [w],h=>(match ref h w with
  | some (.list xs)=>some (.d (.tuple xs),h)
  | some (.tuple xs)=>some (.d (.tuple xs),h)
  | _=>none)
 | _,_=>none
def hV:List W->aA->Option (W×aA)
 | [w],h=>(match ref h w with
  | some (.list xs)=>(cI xs).map fun bs=>(.d (.bool (bs.all id)),h)
  | _=>none)
 | _,_=>none
def nX:List W->aA->Option (W×aA)
 | [w],h=>(match ref h w with
  | some (.list xs)=>(cI xs).map fun bs=>(.d (.bool (bs.any id)),h)
  | _=>none)
 | _,_=>none
noncomputable def bG4:List W->aA->Option (W×aA)
 | [.d (.bool b)],h=>some (.d (.int (if b then 1 else 0)),h)
 | _,_=>none
noncomputable def xMn (ws:List W) (h:aA):Option (W×aA):=match ws with
 | [.d (.int a),.d (.int b)]=>some (.d (.int (min a b)),h)
 | _=>none
def bG5 (x:Str):Option (List W->aA->Option (W×aA)) :=
 if x="len" then some aY else if x="tuple" then some aT else if x="all" then some hV else if x="int" then some bG4 else if x="min" then some xMn else if x="any" then some nX else none
noncomputable def aT5 (T:Str):Option String :=
 if T="int" then some "int" else if T="bool" then some "bool" else if T="str" then some "str" else if T="tuple" then some "tuple" else if T="list" then some "list" else none

abbrev Cw:=Option (Nat×Bool)
def dZ:Cw->List PyData->aA->Bool
 | none,_,_=>true
 | some (i,e),xs,h=>(match h[i]? with
  | some (.l ys)=>peqs (if e=true then dY ys else ys) xs
  | _=>false)
def lY (u:W) (h:aA):Option ((List PyData×Cw)×aA):=match iY u with
 | some xs=>some ((dY xs,none),h)
 | none=>(match u with
  | .c i=>(match h[i]? with
   | some (.l xs)=>some ((dY xs,some (i,true)),h)
   | _=>none)
  | _=>none)

def bJ (g:XG) (tb:XS) (c:Cw) (all:List PyData):List PyData->DSt->aA->Option (Fl×aA)
 | [],δ,h=>if dZ c all h=true then some (.nx δ,h) else none
 | x::r,δ,h=>if dZ c all h=true then
   (g (.d x) δ h).bind fun p=>(tb p.1 p.2).bind fun q=>(match q.1 with
    | .nx δ'=>bJ g tb c all r δ' q.2
    | .ct δ'=>bJ g tb c all r δ' q.2
    | .bk δ'=>some (.nx δ',q.2)
    | .rt w=>some (.rt w,q.2))
  else none
def aN (g:XG) (tt:XR Bool) (te:XR W) (c:Cw) (all:List PyData):List PyData->DSt->aA->List PyData->Option (List PyData×aA)
 | [],_,h,ac=>if dZ c all h=true then some (ac,h) else none
 | x::r,δ,h,ac=>if dZ c all h=true then
   (g (.d x) δ h).bind fun p=>(tt p.1 p.2).bind fun q=>if q.1=true then
     (te p.1 q.2).bind fun y=>(match y.1 with
      | .d z=>aN g tt te c all r p.1 y.2 (ac++[z])
      | _=>none)
    else aN g tt te c all r p.1 q.2 ac
  else none

noncomputable def aH:Expr->Bool
 | .Starred _ _=>false
 | _=>true
noncomputable def bS (x:XR (List PyData)):XR W:=fun δ h=>(x δ h).bind fun p=>some (.c p.2.length,p.2++[.l p.1])
noncomputable def aK (x:XR (List PyData)):XR W:=fun δ h=>(x δ h).bind fun p=>some (.d (.list p.1),p.2)
def kW (f:Str->Option PyData) (x:XR W):XR Bool:=xb x fun w=>(match w with
 | .d (.str s)=>aC (!(f s).isSome)
 | .d .none=>aC true
 | _=>xno)
def xC1 (op:CmpOp) (x y:XR W):XR Bool:=xb x fun u=>xb y fun w=>fun _ h=>eJ op u w h
def xC2 (op op':CmpOp) (x y z:XR W):XR Bool:=xb x fun u=>xb y fun w=>fun δ h=>(eJ op u w h).bind fun p=>if p.1=true then (z δ p.2).bind fun q=>eJ op' w q.1 q.2 else some (false,p.2)
def xC3 (op op' op'':CmpOp) (x y z t:XR W):XR Bool:=xb x fun u=>xb y fun w=>fun δ h=>(eJ op u w h).bind fun p =>
 if p.1=true then (z δ p.2).bind fun q=>(eJ op' w q.1 q.2).bind fun p'=>if p'.1=true then (t δ p'.2).bind fun q'=>eJ op'' q.1 q'.1 q'.2 else some (false,p'.2) else some (false,p.2)
def aX (x:XR Bool):XR W:=fun δ h=>(x δ h).map asW
noncomputable def cD:List XG->List PyData->DSt->aA->Option (DSt×aA)
 | [],[],δ,h=>some (δ,h)
 | g::gs,x::xs,δ,h=>(g (.d x) δ h).bind fun p=>cD gs xs p.1 p.2
 | _,_,_,_=>none
def aO (gs:List XG):XG:=fun w δ h=>(match w with
 | .d (.tuple xs)=>cD gs xs δ h
 | _=>none)
section
variable (v:Evs) (st:Sta)
def aS:List Expr->XR (List W)
 | []=>aC []
 | e::es=>if aH e=true then xb (v.E st e) fun w=>xb (aS es) fun ws=>aC (w::ws) else xno
noncomputable def cL5:Expr->Bool
 | .Name _ _=>true
 | _=>false
def uI:Option Expr->XR (Option Int)
 | none=>aC none
 | some e=>xb (v.E st e) fun w=>(match w with
  | .d (.int i)=>aC (some i)
  | _=>xno)
def aF7:List Expr->XR W
 | []=>xno
 | [a]=>v.E st a
 | a::b::r=>xb (v.E st a) fun w=>(match w with
  | .d (.bool true)=>aF7 (b::r)
  | .d (.bool false)=>aC (.d (.bool false))
  | _=>xno)
def bG6:List Expr->XR W
 | []=>xno
 | [a]=>v.E st a
 | a::b::r=>xb (v.E st a) fun w=>(match w with
  | .d (.bool true)=>aC (.d (.bool true))
  | .d (.bool false)=>bG6 (b::r)
  | _=>xno)
def aF8:List Expr->XR Bool
 | []=>xno
 | [a]=>v.T st a
 | a::b::r=>xb (v.T st a) fun c=>if c=true then aF8 (b::r) else aC false
def bG7:List Expr->XR Bool
 | []=>xno
 | [a]=>v.T st a
 | a::b::r=>xb (v.T st a) fun c=>if c=true then aC true else bG7 (b::r)
def jI:Expr->Option (Str->Option PyData)
 | .Name x _=>if cL st x&&(slot st x).isNone then st.tk x else none
 | _=>none
def fW (a:Expr) (ops:List CmpOp) (cs:List Expr):XR Bool:=match ops,cs with
 | [op],[b]=>(match jI st b with
  | some f=>if op=.NotIn then kW f (v.E st a) else xno
  | none=>if behindInMarks op b=true then xno else xC1 op (v.E st a) (v.E st b))
 | [op,op'],[b,c]=>if lastMarks [op,op'] [b,c]=true then xno else xC2 op op' (v.E st a) (v.E st b) (v.E st c)
 | _,_=>xno
def kA (a:Expr) (ops:List CmpOp) (cs:List Expr):XR Bool:=match ops,cs with
 | [op,op',op''],[b,c,d]=>if lastMarks [op,op',op''] [b,c,d]=true then xno else xC3 op op' op'' (v.E st a) (v.E st b) (v.E st c) (v.E st d)
 | _,_=>fW v st a ops cs
noncomputable def cU (i j:Int):Bool:=decide (j - i<=16000000)&&(decide (-(2^62)<=i)&&(decide (i < 2^62)&&(decide (-(2^62)<=j)&&decide (j < 2^62))))
def aM (x:XR W):XR (List PyData×Cw):=xb x fun w=>fun _ h=>(match w with
 | .d (.list xs)=>some ((xs,none),h)
 | .d (.tuple xs)=>some ((xs,none),h)
 | .c i=>(match h[i]? with
  | some (.l xs)=>some ((xs,some (i,false)),h)
  | _=>none)
 | _=>none)
noncomputable def jJ:Expr->Bool
 | .Set _ _ _=>true
 | _=>false
noncomputable def wP:Expr->Bool
 | .Tuple _ _ _=>true
 | _=>false
noncomputable def itS:(e:Expr)->Option {y:Str×Expr×Option Expr // ∃ p q,e=.Call (.Name y.1 p) (y.2.1::y.2.2.toList) [] q}
 | .Call (.Name x p) [a] [] q=>some ⟨(x,a,none),p,q,rfl⟩
 | .Call (.Name x p) [a,b] [] q=>some ⟨(x,a,some b),p,q,rfl⟩
 | _=>none
def rV (tg e:Expr):XR (List PyData×Cw):=match itS e with
 | some ⟨(x,a,none),_⟩=>if x="range" then (if cL st x&&(slot st x).isNone&&st.bl.contains x&&aH a then xb (v.E st a) fun w=>fun _ h=>(match w with
   | .d (.int j)=>if cU 0 j=true then some ((rng 0 j.toNat,none),h) else none
   | _=>none) else xno)
  else if x="enumerate" then (if cL st x&&(slot st x).isNone&&st.bl.contains x&&aH a&&wP tg then xb (v.E st a) fun u=>fun _ h=>lY u h else xno)
  else aM (v.E st e)
 | some ⟨(x,a,some b),_⟩=>if x="range" then (if cL st x&&(slot st x).isNone&&st.bl.contains x&&aH a&&aH b then xb (v.E st a) fun u=>xb (v.E st b) fun w=>fun _ h=>(match u,w with
   | .d (.int i),.d (.int j)=>if cU i j=true then some ((rng i (j - i).toNat,none),h) else none
   | _,_=>none) else xno)
  else if x="zip" then (if cL st x&&(slot st x).isNone&&st.bl.contains x&&aH a&&aH b&&wP tg then xb (v.E st a) fun u=>xb (v.E st b) fun w=>fun _ h=>(match iY u,iY w with
   | some xs,some ys=>some ((fV xs ys,none),h)
   | _,_=>none) else xno)
  else aM (v.E st e)
 | none=>if jJ e=true then xno else aM (v.E st e)
noncomputable def iZ (sc:Scope):List Str:=(sc.names.filter fun p=>(p.2==.local||p.2==.free)&&!(p.1==(".0":Str))).map (·.1)
def fL (N:List Str) (sc:Scope):List (Option Nat):=(iZ sc).map fun x=>if sc.names.lookup x=some .free then N.findIdx? (·==x) else none
noncomputable def bG8 (sc S:Scope):Scope:={ sc with names:=sc.names.map fun (n,k)=>if (k==.free&&S.kind==.function&&S.names.lookup n==some .cell) then (n,.cell) else (n,k) }
def oO (N:List Str) (sc S:Scope):Bool :=
 decide (sc.kind=.function)&&((sc.names.all fun y=>!(y.2==.cell))&&((sc.names.all fun y=>!(y.2==.local)||(sc.names.lookup y.1==some .local)) &&
  ((sc.names.all fun y=>!(y.2==.free)||(S.names.lookup y.1==some .cell||S.names.lookup y.1==some .free))&&(decide (iZ sc).Nodup &&
   (((fL N sc).zip (iZ sc)).all fun p=>match p.1 with
    | none=>true
    | some i=>decide (N[i]?=some p.2)&&decide (sc.names.lookup p.2=some NameKind.free))))))
def Sta.blk (sc:Scope):Sta:={ st with N:=iZ sc,S:=bG8 sc st.S,top:=false,qn:=none }
def aF9:List Expr->XR Bool
 | []=>aC true
 | [c]=>v.T st c
 | _=>xno
def kX (elt tg iter:Expr) (ifs:List Expr) (sc:Scope):XR (List PyData) :=
 if oO st.N sc st.S&&!jJ iter then xb (rV v st tg iter) fun p=>fun δ h=>aN (v.G (st.blk sc) tg) (aF9 v (st.blk sc) ifs) (v.E (st.blk sc) elt) p.2 p.1 p.1 (bK (fL st.N sc) δ) h [] else xno
noncomputable def prS:(z:PyData)->Option {k:Int // ∃ i j,z=.tuple [.int i,.int j]/\(0<=j/\j < 1000)/\k=i*1000+j}
 | .tuple [.int i,.int j]=>if h:0<=j/\j < 1000 then some ⟨i*1000+j,i,j,rfl,h,rfl⟩ else none
 | _=>none
def zR:List PyData->Option (List Int)
 | []=>some []
 | z::zs=>((prS z).map (·.1)).bind fun k=>(zR zs).map fun ks=>k::ks
noncomputable def bC7 (ks:List Int) (xs:List PyData):List PyData:=((ks.zip xs).mergeSort fun a b=>decide (b.1<=a.1)).map (·.2)
def kY (ks:List Int) (xs:List PyData):List PyData:=bC7 (ks.map fun k=>-k) xs
def zS (xs:List PyData):Option (List PyData):=(match bD xs with
 | some ns=>if ns.length < 64 then some ((ST.srt ns).map .int) else none
 | none=>(zR xs).bind fun ks=>if ks.Nodup/\xs.length < 64 then some (kY ks xs) else none)
def lF:List W->aA->Option (List PyData×aA)
 | [w],h=>(match ref h w with
  | some (.list xs)=>(zS xs).map fun zs=>(zs,h)
  | some (.tuple xs)=>(zS xs).map fun zs=>(zs,h)
  | some (.dict kvs)=>if (fP kvs).isNone=true then (bD (kvs.map (·.1))).bind fun ns=>if ns.length < 64 then some ((ST.srt ns).map .int,h) else none else none
  | _=>none)
 | _,_=>none
noncomputable def siS:(l:List Expr)->Option {y:Expr×Pos×Pos // l=[.Call (.Attribute y.1 "items" y.2.1) [] [] y.2.2]}
 | [.Call (.Attribute o m ap) [] [] q]=>if h:m="items" then some ⟨(o,ap,q),by rw [h]⟩ else none
 | _=>none
def xSI (w:W) (h:aA):Option (List PyData×aA):=match ref h w with
 | some (.dict kvs)=>if (fP kvs).isNone=true then (bD (kvs.map (·.1))).bind fun ks=>if kvs.length < 64 then some (kY ks (kvs.map fun p=>.tuple [p.1,p.2]),h) else none else none
 | _=>none
noncomputable def ssS:(l:List Expr)->Option {a:Expr // ∃ p2 q,l=[.Call (.Name "set" p2) [a] [] q]}
 | [.Call (.Name y p2) [a] [] q]=>if h:y="set" then some ⟨a,p2,q,by rw [h]⟩ else none
 | _=>none
def xSS:List W->aA->Option (List PyData×aA)
 | [.d (.tuple xs)],h=>(bD xs).bind fun ns=>if ns.length<=62 then some ((ST.srt (ST.dd ns)).map .int,h) else none
 | [.d (.list xs)],h=>(bD xs).bind fun ns=>if ns.length<=62 then some ((ST.srt (ST.dd ns)).map .int,h) else none
 | _,_=>none
noncomputable def fX (f:XR W) (δ:DSt) (i:Nat):List PyData->aA->Option (List PyData×aA)
 | [],h=>some ([],h)
 | x::xs,h=>(f (δ.set i (some (.d x))) h).bind fun p=>(match p.1 with
  | .d z=>(fX f δ i xs p.2).bind fun q=>some (z::q.1,q.2)
  | _=>none)
noncomputable def cL6:(kws:List Keyword)->Option {y:(Arg×Expr×Scope×Pos)×Bool // ∃ p1 r,kws=⟨some "key",.Lambda ⟨[],[y.1.1],none,[],[],none,[]⟩ y.1.2.1 y.1.2.2.1 y.1.2.2.2,p1⟩::r/\((y.2=false/\r=[])\/(y.2=true/\∃ j p3 p2,r=[⟨some "reverse",.Constant (.bool true) j p3,p2⟩]))}
 | [⟨some k1,.Lambda ⟨[],[a],none,[],[],none,[]⟩ body sc lp,p1⟩,⟨some k2,.Constant (.bool true) j p3,p2⟩]=>if h:k1="key"/\k2="reverse" then some ⟨((a,body,sc,lp),true),p1,[⟨some k2,.Constant (.bool true) j p3,p2⟩],by rw [h.1],.inr ⟨rfl,j,p3,p2,by rw [h.2]⟩⟩ else none
 | [⟨some k1,.Lambda ⟨[],[a],none,[],[],none,[]⟩ body sc lp,p1⟩]=>if h:k1="key" then some ⟨((a,body,sc,lp),false),p1,[],by rw [h],.inl ⟨rfl,rfl⟩⟩ else none
 | _=>none
def rW (kws:List Keyword):Option ((Arg×Expr×Scope×Pos)×Bool):=(cL6 kws).map (·.1)
def byK (b:Bool) (zs xs:List PyData):Option (List PyData):=if b=true then none else (bD zs).bind fun ks=>if ks.Nodup/\xs.length < 64 then some (kY ks xs) else none
noncomputable def atP (pos:Pos) (q:Pos×Str):Bool:=q.1.line==pos.line&&q.1.col==pos.col
def rX (pos:Pos) (q:Str) (qs:List (Pos×Str)):Option (List (Pos×Str)):=match qs.find? (atP pos) with
 | some r=>if r.2=q then some qs else none
 | none=>some (qs++[(pos,q)])
def Sta.lam (sc:Scope):Sta:={ st with N:=iZ sc,S:=sc,top:=false,qn:=none }
def aT6 (q:Str×Pos) (a:Arg) (sc:Scope) (lp:Pos):Bool:=decide (lp=q.2)&&(oO st.N sc st.S&&(!sc.isCoroutine&&(!sc.isGenerator&&decide (sc.names.lookup a.arg=some .local))))
def lZ (b:Bool) (f:XR W) (ixs:List (Option Nat)) (i:Nat) (q:Str) (lp:Pos) (w:W):XR (List PyData):=fun δ h=>(match ref h w,(h[0]?:Option Cell) with
 | some (.list xs),some (.t ts)=>(rX lp q ts).bind fun ts'=>(fX f (bK ixs δ) i xs (h.set 0 (.t ts'))).bind fun z=>(byK b z.1 xs).map fun r=>(r,z.2)
 | _,_=>none)
def aT7 (e:Expr) (kws:List Keyword):XR (List PyData):=match st.qn,rW kws with
 | some q,some ((a,body,sc,lp),r)=>if aT6 st q a sc lp=true then (match (iZ sc).findIdx? (·==a.arg) with
  | some i=>xb (aS v st [e]) fun ws=>(match ws with
   | [w]=>lZ r (v.E (st.lam sc) body) (fL st.N sc) i (q.1++"<lambda>") lp w
   | _=>xno)
  | none=>xno) else xno
 | _,_=>xno
def xPl (x:XR (List W)):XR (List PyData):=xb x fun ws=>fun _ h=>(match hX ws with
 | some xs=>if xs.length<=sizeLine then some (xs,h) else none
 | none=>none)
noncomputable def rgS:(l:List Expr)->Option {b:Expr // ∃ p q,l=[.Call (.Name "range" p) [b] [] q]}
 | [.Call (.Name y p) [b] [] q]=>if h:y="range" then some ⟨b,p,q,by rw [h]⟩ else none
 | _=>none
def rgA (l:List Expr):Option Expr:=(rgS l).map (·.1)
noncomputable def lzS:(l:List Expr)->Option {y:Expr×Expr // ∃ p q,l=[.Call (.Name "zip" p) [y.1,y.2] [] q]}
 | [.Call (.Name y p) [a,b] [] q]=>if h:y="zip" then some ⟨(a,b),p,q,by rw [h]⟩ else none
 | _=>none
def xLZ:List W->aA->Option (List PyData×aA)
 | [u,w],h=>(match iY u,iY w with
  | some xs,some ys=>some (fV xs ys,h)
  | _,_=>none)
 | _,_=>none
def okC (x:Str):Bool:=cL st x&&(slot st x).isNone&&st.bl.contains x
noncomputable def jA:Expr->Bool
 | .Call (.Name _ _) (_::_) [] _=>true
 | .Call _ _ _ _=>false
 | _=>true
def bY (e:Expr):XR (List PyData):=match e with
 | .List es _=>xPl (aS v st es)
 | .ListComp elt [⟨tg,iter,ifs,a⟩] sc _=>if a=0 then kX v st elt tg iter ifs sc else xno
 | .BinOp a .Add b _=>xb (v.E st a) fun u=>xb (v.E st b) fun w=>fun _ h=>(match ref h u,ref h w with
  | some (.list xs),some (.list ys)=>if xs.length+ys.length<=sizeLine then some (xs++ys,h) else none
  | _,_=>none)
 | .Call (.Name x _) (a::es) [] _=>if x="list" then (match rgA (a::es) with
  | some b=>if okC st x&&okC st "range"&&aH b then xb (aS v st [b]) fun ws=>fun _ h=>(match ws with
   | [.d (.int j)]=>if -(2^62)<=j/\j < 2^62/\j<=16000000 then some (rng 0 j.toNat,h) else none
   | _=>none) else xno
  | none=>(match lzS (a::es) with
  | some ⟨y,_⟩=>if okC st x&&okC st "zip"&&aH y.1&&aH y.2 then xb (aS v st [y.1,y.2]) fun ws=>fun _ h=>xLZ ws h else xno
  | none=>if cL st x&&(slot st x).isNone&&st.bl.contains x then xb (aS v st (a::es)) fun ws=>fun _ h=>(match ws with
  | [w]=>(match ref h w with
   | some (.list xs)=>some (xs,h)
   | some (.tuple xs)=>some (xs,h)
   | _=>none)
  | _=>none) else xno)) else if x="sorted" then (match ssS (a::es) with
  | some ⟨b,_⟩=>if okC st x&&okC st "set"&&aH b then xb (aS v st [b]) fun ws=>fun _ h=>xSS ws h else xno
  | none=>(match siS (a::es) with
  | some ⟨y,_⟩=>if okC st x&&jA y.1&&(y.2.1.endLine==y.2.2.line) then xb (v.E st y.1) fun w=>fun _ h=>xSI w h else xno
  | none=>if okC st x then xb (aS v st (a::es)) fun ws=>fun _ h=>lF ws h else xno)) else xno
 | .Call (.Name x _) [a] (k::ks) _=>if x="sorted" then (if okC st x then aT7 v st a (k::ks) else xno) else xno
 | _=>xno
noncomputable def uJ:Expr->Bool
 | .Slice _ _ _ _=>true
 | _=>false
noncomputable def uK (o:W) (ws:List W) (h:aA):Option (W×aA):=match o,ws with
 | .c j,[.d x]=>(match h[j]? with
  | some (.l xs)=>if xs.length < sizeLine then some (.d .none,h.set j (.l (xs++[x]))) else none
  | _=>none)
 | .c j,[.c k]=>(match h[j]? with
  | some (.r is)=>if is.length < sizeLine then some (.d .none,h.set j (.r (is++[.c k]))) else none
  | _=>none)
 | _,_=>none
def bG9 (m:Str):Option (W->List W->aA->Option (W×aA)) :=
 if m="append" then some uK
 else none
noncomputable def lG (m:Str) (w:W) (h:aA):Bool:=if m="append" then (match w with
  | .c j=>(match h[j]? with
   | some (.l _)=>true
   | some (.r _)=>true
   | _=>false)
  | _=>false) else true
def bC8 (o:Expr) (m:Str) (g:W->List W->aA->Option (W×aA)) (args:List Expr):XR W:=xb (v.E st o) fun w=>fun δ h=>if lG m w h=true then (aS v st args δ h).bind fun p=>g w p.1 p.2 else none
noncomputable def aG0 (w:W) (h:aA):Option (W×aA):=match w with
 | .c j=>(match h[j]? with
  | some (.l _)=>some (.d .none,h.set j (.l []))
  | _=>none)
 | _=>none
def bT6 (o:Expr):XR W:=xb (v.E st o) fun w=>fun _ h=>aG0 w h
noncomputable def bT7:(l:List Expr)->Option {y:Expr×Str // ∃ p,l=[y.1,.Name y.2 p]}
 | [e,.Name T p]=>some ⟨(e,T),p,rfl⟩
 | _=>none
def bH0 (args:List Expr):XR W:=match bT7 args with
 | some ⟨(e,T),_⟩=>if aH e&&cL st T&&(slot st T).isNone&&st.bl.contains T then (match aT5 T with
   | some Ts=>xb (v.E st e) fun w=>fun _ h=>(ref h w).bind fun d=>if noD d=true then some (.d (.bool (isi d Ts)),h) else none
   | none=>xno) else xno
 | none=>xno
def bH1 (o:Expr) (m:Str) (apos pos:Pos) (args:List Expr):XR W:=if jA o&&(apos.endLine==pos.line) then
   (match args with
    | []=>if m="clear" then bT6 v st o else xno
    | _::_=>if decide (args.length < 29) then (match bG9 m with
     | some g=>bC8 v st o m g args
     | none=>xno) else xno)
   else xno
def uL (x:Str) (args:List Expr):XR W:=match args with
 | []=>xno
 | _::_=>xb (wO st x) fun w=>(match w with
  | .d (.dict kvs)=>(match fP kvs with
   | some g=>(match st.fn g with
    | some m=>xb (aS v st args) fun ws=>fun _ h=>(m ws h).bind fun p=>some (.d p.1,p.2)
    | none=>xno)
   | none=>xno)
  | _=>xno)
def wQ (f:Expr) (args:List Expr) (pos:Pos):XR W:=match f with
 | .Name x _=>if cL st x&&(slot st x).isNone then
   (match st.ob.fnW x with
   | some m=>(match args with
     | []=>xno
     | _::_=>xb (aS v st args) fun ws=>fun _ h=>m ws h)
   | none=>match st.ob.cls x with
   | some _=>xno
   | none=>match st.fn x with
    | some m=>(match args with
     | []=>xno
     | _::_=>xb (aS v st args) fun ws=>fun _ h=>(m ws h).bind fun p=>some (.d p.1,p.2))
    | none=>if st.bl.contains x then
      (match bG5 x with
       | some g=>(match args with
        | []=>xno
        | _::_=>xb (aS v st args) fun ws=>fun _ h=>g ws h)
       | none=>if x="isinstance" then bH0 v st args
        else aK (bY v st (.Call f args [] pos)))
     else xno)
   else if (slot st x).isSome=true then uL v st x args else xno
 | .Attribute o m apos=>match st.ob.om m with
  | some _=>xno
  | none=>bH1 v st o m apos pos args
 | _=>xno
def xLS:List W->aA->Option (W×aA)
 | [.d (.tuple xs)],h=>(match bD xs with
  | some ns=>if ns.length<=62 then some (.d (.int (ST.dd ns).length),h) else none
  | none=>none)
 | [.d (.list xs)],h=>(match bD xs with
  | some ns=>if ns.length<=62 then some (.d (.int (ST.dd ns).length),h) else none
  | none=>none)
 | _,_=>none
def okB (x:Str):Bool:=cL st x&&(slot st x).isNone&&st.bl.contains x&&(st.fn x).isNone
noncomputable def fuS:(f:Expr)->(l:List Expr)->Option {a:Expr // ∃ p p2 q,f=.Name "len" p/\l=[.Call (.Name "set" p2) [a] [] q]}
 | .Name x p,[.Call (.Name y p2) [a] [] q]=>if h:x="len"/\y="set" then some ⟨a,p,p2,q,by rw [h.1],by rw [h.2]⟩ else none
 | _,_=>none
noncomputable def fuR:(f:Expr)->(l:List Expr)->Option {y:Expr×Expr // ∃ p p2 q,f=.Name "tuple" p/\l=[.Call (.Name "range" p2) [y.1,y.2] [] q]}
 | .Name x p,[.Call (.Name y p2) [a,b] [] q]=>if h:x="tuple"/\y="range" then some ⟨(a,b),p,p2,q,by rw [h.1],by rw [h.2]⟩ else none
 | _,_=>none
def xTR:List W->aA->Option (W×aA)
 | [.d (.int i),.d (.int j)],h=>if cU i j=true then some (.d (.tuple (rng i (j - i).toNat)),h) else none
 | _,_=>none
def aG1 (f:Expr) (args:List Expr) (pos:Pos):XR W:=match fuS f args with
 | some ⟨a,_⟩=>if okB st "len"&&okB st "set"&&aH a then xb (aS v st [a]) fun ws=>fun _ h=>xLS ws h else xno
 | none=>(match fuR f args with
  | some ⟨y,_⟩=>if okB st "tuple"&&okB st "range"&&aH y.1&&aH y.2 then xb (aS v st [y.1,y.2]) fun ws=>fun _ h=>xTR ws h else xno
  | none=>wQ v st f args pos)
noncomputable def eZ (g:XG) (tt:XR Bool) (te:XR W) (co:aA->Bool):List W->DSt->aA->List W->Option (List W×aA)
 | [],_,h,ac=>if co h=true then some (ac,h) else none
 | x::r,δ,h,ac=>if co h=true then
   (g x δ h).bind fun p=>(tt p.1 p.2).bind fun q=>if q.1=true then
     (te p.1 q.2).bind fun y=>eZ g tt te co r p.1 y.2 (ac++[y.1])
    else eZ g tt te co r p.1 q.2 ac
  else none
noncomputable def wsC (j:Nat) (h:aA):Option (List W):=match h[j]? with
 | some (.l xs)=>some (xs.map .d)
 | some (.r ws)=>some ws
 | _=>none
def weq:W->W->Bool
 | .d x,.d y=>peq x y
 | .c i,.c j=>i==j
 | _,_=>false
def zT:List W->List W->Bool
 | [],[]=>true
 | x::a,y::b=>weq x y&&zT a b
 | _,_=>false
def coW (j:Nat) (ws:List W) (h:aA):Bool:=match wsC j h with
 | some us=>zT us ws
 | none=>false
def qB (elt tg iter:Expr) (ifs:List Expr) (sc:Scope):XR W :=
 if oO st.N sc st.S&&!jJ iter then xb (v.E st iter) fun w=>fun δ h=>(match w with
  | .c j=>(wsC j h).bind fun ws=>(eZ (v.G (st.blk sc) tg) (aF9 v (st.blk sc) ifs) (v.E (st.blk sc) elt) (coW j ws) ws (bK (fL st.N sc) δ) h []).bind fun q=>some (.c q.2.length,q.2++[.r q.1])
  | _=>none) else xno
noncomputable def gS (st:Sta):(gs:List Comprehension)->Option {y:Expr×Expr×List Expr // gs=[⟨y.1,y.2.1,y.2.2,0⟩]}
 | [⟨tg,.Name x p,ifs,a⟩]=>if h:a=0/\st.cv.contains (x++"[]")=true then some ⟨(tg,.Name x p,ifs),by rw [h.1]⟩ else none
 | _=>none
def gW (gs:List Comprehension):Option (Expr×Expr×List Expr):=(gS st gs).map (·.1)
def aG2 (e:Expr):XR W:=match e with
 | .Name x _=>wO st x
 | .Constant c _ _=>aF6 c
 | .BinOp a op b _=>xb (v.E st a) fun u=>xb (v.E st b) fun w=>fun _ h=>hZ op u w h
 | .Compare a ops cs _=>aX (kA v st a ops cs)
 | .BoolOp .And vs _=>aF7 v st vs
 | .BoolOp .Or vs _=>bG6 v st vs
 | .UnaryOp .Not a _=>xb (v.E st a) fun w=>(match w with
  | .d (.bool b)=>aC (.d (.bool (!b)))
  | _=>xno)
 | .UnaryOp .USub a _=>xb (v.E st a) fun w=>(match w with
  | .d (.int i)=>aC (.d (.int (-i)))
  | _=>xno)
 | .IfExp c a b _=>xb (v.T st c) fun t=>if t=true then v.E st a else v.E st b
 | .Tuple es _ _=>xb (xPl (aS v st es)) fun xs=>aC (.d (.tuple xs))
 | .List es p=>aK (bY v st (.List es p))
 | .ListComp elt gs sc p=>(match gW st gs with
  | some (tg,iter,ifs)=>qB v st elt tg iter ifs sc
  | none=>aK (bY v st (.ListComp elt gs sc p)))
 | .Subscript a s _=>(match s with
  | .Slice lo hi none _=>xb (v.E st a) fun x=>xb (uI v st lo) fun l=>xb (uI v st hi) fun u=>fun _ h=>xSl x l u h
  | _=>if uJ s=true then xno else (match jI st a with
   | some f=>xb (v.E st s) fun w=>(match w with
    | .d (.str z)=>(match f z with
     | some i=>aC (.d i)
     | none=>xno)
    | _=>xno)
   | none=>xb (v.E st a) fun x=>xb (v.E st s) fun y=>fun _ h=>xIx x y h))
 | .Call f args [] p=>aG1 v st f args p
 | .Call f args (k::ks) p=>aK (bY v st (.Call f args (k::ks) p))
 | .Dict [] [] _=>aC (.d (.dict []))
 | _=>xno
def bC9 (e:Expr):XR Bool:=match e with
 | .UnaryOp .Not a _=>xb (v.T st a) fun b=>aC (!b)
 | .BoolOp .And vs _=>aF8 v st vs
 | .BoolOp .Or vs _=>bG7 v st vs
 | .Compare a ops cs _=>fW v st a ops cs
 | .IfExp _ _ _ _=>xno
 | _=>xb (v.E st e) fun w=>(match w with
  | .d (.bool b)=>aC b
  | _=>xno)
noncomputable def mB:List Expr->List XG
 | []=>[]
 | e::es=>v.G st e::mB es
def kB (j:Nat) (y x:PyData) (δ:DSt) (h:aA):Option (DSt×aA):=match h[j]?,y with
   | some (.l xs),.int k=>(ixN xs.length k).map fun n=>(δ,h.set j (.l (xs.set n x)))
   | some (.k kvs),_=>if (bI y).isSome=true/\kvs.length < sizeLine then some (δ,h.set j (.k (pZ kvs y x))) else none
   | some (.r ws),.int k=>(ixN ws.length k).map fun n=>(δ,h.set j (.r (ws.set n (.d x))))
   | _,_=>none
def rY (j:Nat) (y:PyData) (i:Nat) (δ:DSt) (h:aA):Option (DSt×aA):=match h[j]?,y with
   | some (.l xs),.int k=>(ixN xs.length k).map fun n=>(δ,h.set j (.r ((xs.map .d).set n (.c i))))
   | some (.r ws),.int k=>(ixN ws.length k).map fun n=>(δ,h.set j (.r (ws.set n (.c i))))
   | _,_=>none
def rZ (e:Expr):XG:=match e with
 | .Name x _=>(match slot st x with
  | some i=>if qA st.S x&&(st.top||dJ st.S x) then fun w δ h=>some (δ.set i (some w),h) else fun _ _ _=>none
  | none=>fun _ _ _=>none)
 | .Tuple es _ _=>if es.all aH=true then aO (mB v st es) else fun _ _ _=>none
 | .Subscript o i _=>if uJ i=true then fun _ _ _=>none else fun w δ h=>(v.E st o δ h).bind fun p=>(v.E st i δ p.2).bind fun q=>(match p.1,q.1,w with
  | .c j,.d y,.d x=>kB j y x δ q.2
  | .c j,.d y,.c i=>rY j y i δ q.2
  | _,_,_=>none)
 | _=>fun _ _ _=>none
noncomputable def cvS (st:Sta) (tg e:Expr):Bool:=match tg,e with
 | .Subscript (.Name x _) _ _,.List _ _=>st.cv.contains (x++"[]")
 | _,_=>false
noncomputable def jB:Expr->Bool
 | .ListComp _ _ _ _=>true
 | .SetComp _ _ _ _=>true
 | .DictComp _ _ _ _ _=>true
 | _=>false
def aT8 (e tg:Expr):Bool:=wP e&&(match tg with
 | .Tuple _ _ _=>true
 | .List _ _=>true
 | _=>false)
noncomputable def xSs:List Stmt->XS
 | [],δ,h=>some (.nx δ,h)
 | s::r,δ,h=>(v.S st s δ h).bind fun p=>(match p.1 with
  | .nx δ'=>xSs r δ' p.2
  | f=>some (f,p.2))
noncomputable def cL7:Expr->Bool
 | .Dict [] [] _=>true
 | _=>false
noncomputable def oQ:XR W:=fun _ h=>some (.c h.length,h++[.k []])
noncomputable def wfC:Expr->Bool
 | .Call (.Name f _) _ [] _=>(st.ob.fnW f).isSome
 | _=>false
noncomputable def tpS:(e:Expr)->Option {es:List Expr // ∃ k p,e=.Tuple es k p}
 | .Tuple es k p=>some ⟨es,k,p,rfl⟩
 | _=>none
def tpA (e:Expr):Option (List Expr):=(tpS e).map (·.1)
noncomputable def isC:W->Bool
 | .c _=>true
 | _=>false
def aT9 (e:Expr):XR W:=match tpA e with
 | some es=>xb (aS v st es) fun ws=>fun _ h=>if (ws.all isC&&decide (ws.length<=60))=true then some (.c h.length,h++[.p ws]) else none
 | none=>bS (v.F st e)
noncomputable def aR (i:Nat) (x:XR W):XS:=fun δ h=>(x δ h).bind fun p=>some (.nx (δ.set i (some p.1)),p.2)
def swB (e:Expr) (x:Str) (px:Pos):Bool:=match e with
 | .ListComp _ _ sc p=>dJ st.S x&&(px.line==p.line)&&!(sc.names.any fun (n,k)=>n==x&&(k==.local||k==.cell))
 | _=>false
def sA (s:Stmt):XS:=match s with
 | .Return (some e) _=>fun δ h=>((if st.cv.contains "return"=true then aT9 v st e else v.E st e) δ h).bind fun p=>some (.rt p.1,p.2)
 | .If c a b _=>fun δ h=>(v.T st c δ h).bind fun p=>if p.1=true then xSs v st a δ p.2 else xSs v st b δ p.2
 | .Expr e _=>if jB e=true then fun _ _=>none else fun δ h=>(v.E st e δ h).bind fun p=>some (.nx δ,p.2)
 | .Pass _=>fun δ h=>some (.nx δ,h)
 | .Break _=>fun δ h=>some (.bk δ,h)
 | .Continue _=>fun δ h=>some (.ct δ,h)
 | .For tg iter body [] _=>if jJ iter=true then fun _ _=>none else fun δ h=>(rV v st tg iter δ h).bind fun p=>bJ (v.G st tg) (xSs v st body) p.1.2 p.1.1 p.1.1 δ p.2
 | .Assign [.Name x px] e _=>(match slot st x with
  | some i=>if qA st.S x&&(st.top||dJ st.S x) then
    (if jB e=true then (if (swB st e x px||!(dJ st.S x))=true then aR i (if st.cv.contains x=true then bS (bY v st e) else aK (bY v st e)) else fun _ _=>none)
    else if (st.cv.contains x&&cL7 e)=true then aR i oQ
    else if (st.cv.contains x&&!(cL5 e||wfC st e))=true then aR i (bS (v.F st e)) else aR i (v.E st e))
   else fun _ _=>none
  | none=>fun _ _=>none)
 | .Assign [.Attribute o f _] e _=>fun _ _=>none
 | .Assign [tg] e _=>if (jB e||aT8 e tg||!(aH tg))=true then fun _ _=>none else fun δ h=>((if cvS st tg e=true then bS (v.F st e) else v.E st e) δ h).bind fun p=>(v.G st tg p.1 δ p.2).bind fun q=>some (.nx q.1,q.2)
 | _=>fun _ _=>none
end
def step (v:Evs):Evs:=⟨aG2 v,bC9 v,bY v,rZ v,sA v⟩
def evs:Nat->Evs
 | 0=>.no
 | n+1=>step (evs n)

def parsOf (s:Stmt):List Str:=(cF s).args.map (·.arg)
def bT (s:Stmt):List Str:=parsOf s++((defScope s).names.filter fun p=>(p.2==.local||p.2==.cell)&&!((parsOf s).contains p.1)).map (·.1)
def fnB (s:Stmt):Bool:=decide ((defScope s).kind=.function)&&(!(defScope s).isCoroutine&&(!(defScope s).isGenerator&&(decide (bT s).Nodup&&(((parsOf s).all fun x=>qA (defScope s) x)&&((defScope s).names.all fun y=>!(y.2==.free))))))
noncomputable def noC (j:Nat):List W->Bool
 | []=>true
 | .c k::r=>decide (k≠j)&&noC j r
 | _::r=>noC j r
def sB (n:Nat) (H:aA):List W->Option (List PyData)
 | []=>some []
 | .c j::ws=>(match H[j]? with
  | some (.l xs)=>if n<=j/\noC j ws=true then (sB n H ws).map (.list xs::·) else none
  | _=>none)
 | _::_=>none
open Classical in
def aJ (h0:aA) (p:Fl×aA):Option (PyData×aA):=if okP h0 p.2 then (match p.1 with
 | .nx _=>some (.none,p.2.take h0.length)
 | .rt (.d z)=>some (z,p.2.take h0.length)
 | .rt (.c i)=>(match p.2[i]? with
  | some (.l xs)=>if h0.length<=i then some (.list xs,p.2.take h0.length) else none
  | some (.k kvs)=>if h0.length<=i then some (.dict kvs,p.2.take h0.length) else none
  | some (.p ws)=>if h0.length<=i then (sB h0.length p.2 ws).map fun ds=>(.tuple ds,p.2.take h0.length) else none
  | _=>none)
 | _=>none) else none
noncomputable def iU (p:Fl×aA):Option (W×aA):=match p.1 with
 | .nx _=>some (.d .none,p.2)
 | .rt w=>some (w,p.2)
 | _=>none
structure Top where
 bl:List Str
 gc:Str->Option PyData
 tk:Str->Option (Str->Option PyData)
 defs:Str->Option Stmt
 ac:Str->List Nat
 cv:Str->List Str
 fuel:Nat
 deep:Nat
 wf:Str->Bool
 ini:Str->Option (Addr×Stmt)
 mt:Str->Option (Addr×Stmt)
 fo:Addr->Str->Bool
 qn:Str->Option (Str×Pos)
def Top.sta (t:Top) (fn:Str->Option XF) (ob:ObS) (x:Str) (s:Stmt):Sta:=⟨t.bl,t.gc,t.tk,fn,t.ac,t.cv x,bT s,defScope s,true,t.fuel,ob,t.qn x⟩
def mD (t:Top) (fn:Str->Option XF) (ob:ObS) (x:Str) (s:Stmt):XF:=fun ws h =>
 if fnB s=true/\ws.length=(parsOf s).length then (xSs (evs t.deep) (t.sta fn ob x s) (bC s) (eW (bT s) ws) h).bind (aJ h) else none
def iV (t:Top) (fn:Str->Option XF) (ob:ObS) (x:Str) (s:Stmt):XFW:=fun ws h =>
 if fnB s=true/\ws.length=(parsOf s).length then (xSs (evs t.deep) (t.sta fn ob x s) (bC s) (eW (bT s) ws) h).bind iU else none
abbrev fnT (t:Top) (D:Str->XF):Str->Option XF:=fun y=>(t.defs y).map fun _=>D y
abbrev obT (t:Top) (W I M:Str->XFW):ObS:=⟨fun y=>if t.wf y=true then (t.defs y).map fun _=>W y else none,fun y=>(t.ini y).map fun p=>(p.1,I y),fun y=>(t.mt y).map fun p=>(p.1,M y),t.fo⟩
mutual
noncomputable def aD (t:Top):Nat->Str->XF
 | 0,_=>fun _ _=>none
 | d+1,x=>(match t.defs x with
  | some s=>mD t (fnT t fun y=>aD t d y) (obT t (fun y=>callW t d y) (fun y=>callI t d y) fun y=>callM t d y) x s
  | none=>fun _ _=>none)
noncomputable def callW (t:Top):Nat->Str->XFW
 | 0,_=>fun _ _=>none
 | d+1,x=>(match t.defs x with
  | some s=>iV t (fnT t fun y=>aD t d y) (obT t (fun y=>callW t d y) (fun y=>callI t d y) fun y=>callM t d y) x s
  | none=>fun _ _=>none)
noncomputable def callM (t:Top):Nat->Str->XFW
 | 0,_=>fun _ _=>none
 | d+1,x=>(match t.mt x with
  | some (_,s)=>iV t (fnT t fun y=>aD t d y) (obT t (fun y=>callW t d y) (fun y=>callI t d y) fun y=>callM t d y) x s
  | none=>fun _ _=>none)
noncomputable def callI (t:Top):Nat->Str->XFW
 | 0,_=>fun _ _=>none
 | 1,_=>fun _ _=>none
 | d+2,x=>(match t.ini x with
  | some (_,s)=>iV t (fnT t fun y=>aD t d y) (obT t (fun y=>callW t d y) (fun y=>callI t d y) fun y=>callM t d y) x s
  | none=>fun _ _=>none)
end
end CI

namespace CI
def bind_some {α β:Type} {x:Option α} {f:α->Option β} {b:β} (e:x.bind f=some b):∃ a,x=some a/\f a=some b:=Option.bind_eq_some_iff.mp e
def map_some {α β:Type} {x:Option α} {f:α->β} {b:β} (e:x.map f=some b):∃ a,x=some a/\f a=b:=Option.map_eq_some_iff.mp e
def aE {α:Type} {c:Prop} [Decidable c] {x:Option α} {b:α} (e:(if c then x else none)=some b):c/\x=some b:=by
 by_cases h:c
 ·rw [if_pos h] at e;exact ⟨h,e⟩
 ·rw [if_neg h] at e;cases e
end CI
namespace DL
open PySem PySem.Spec PyProof.Rows L2 CI
def thn {α:Type} {t:Sem α} {Q Q':α->Shared->Prop} {M:Model} {A:Around} {E:Value->Shared->Prop} {s:Shared} (h:wpAny M A t Q E s) (hQ:∀ a s,Q a s->Q' a s):wpAny M A t Q' E s:=wpAny_mono h hQ fun _ _ x=>x
abbrev Wp (S:Sx) (A:Around) {α:Type} (t:Sem α) (Q:α->Shared->Prop) (E:Value->Shared->Prop) (s:Shared):Prop:=wpAny (model S.P S.w) A t Q E s
def Pw (S:Sx) (κ:Kp) (M:Mp) (h:aA) (w:W) (u:Value) (s:Shared):Prop:=∃ M',Le M M'/\Mem S κ M' h s/\RepW S M' w u
def Pf (S:Sx) (κ:Kp) (M:Mp) (h:aA) (xs:List PyData) (u:Value) (s:Shared):Prop :=
 ∃ M',Le M M'/\Mem S κ M' h s/\∃ a us n,u=.ref a/\s.heap.get? a=some (aV us n)/\aZ κ M' a/\us.length<=sizeLine/\Reps' S M' xs us
structure Room (k:Nat) (A:Around):Prop where
 hd:A.handled=none
 dp:A.depth+3*k+5 < recursionLimit
 un:A.units+16*k+200 < cLine
section
variable {S:Sx} {κ:Kp} {M:Mp} {h h':aA} {s:Shared} {A:Around} {E:Value->Shared->Prop} {x y w:W} {u v:Value} {d:Nat}
def wi {i:Int}:RepW S M (.d (.int i)) u ↔ ∃ t,u=.int i t:=rep_i (S:=S) (Z:=M.Z)
def wb {i:Bool}:RepW S M (.d (.bool i)) u ↔ u=.bool i:=rep_b (S:=S) (Z:=M.Z)
def wn:RepW S M (.d .none) u ↔ u=.none:=rep_n (S:=S) (Z:=M.Z)
def Pw.go {M':Mp} (l:Le M M') (p:Pw S κ M' h w u s):Pw S κ M h w u s:=let ⟨N,a,b⟩:=p;⟨N,l.trans a,b⟩
def Mem.pw (R:Mem S κ M h s) (r:RepW S M w u):Pw S κ M h w u s:=⟨M,.refl,R,r⟩
def Mem.pi (R:Mem S κ M h s) {i:Int} {t t':Nat}:Pw S κ M h (.d (.int i)) (.int i t) { s with toks:=t' }:=(R.tok t').pw (wi.mpr ⟨_,rfl⟩)
def Mem.pb (R:Mem S κ M h s) {b:Bool}:Pw S κ M h (.d (.bool b)) (.bool b) s:=R.pw (wb.mpr rfl)
def Mem.pn (R:Mem S κ M h s):Pw S κ M h (.d .none) .none s:=R.pw (wn.mpr rfl)
def qC {xs:List PyData} (p:Pf S κ M h xs u s):Pw S κ M h (.d (.list xs)) u s:=by
 obtain ⟨N,l,R,a,us,n,rfl,e,f,z,r⟩:=p;exact ⟨N.add a (aV us n),l.trans (.add f.1),R.frz f e,rep_l.mpr ⟨a,_,us,rfl,hO,⟨⟨n,rfl⟩,z⟩,r.go (.add f.1)⟩⟩
def aG3 {xs:List PyData} (p:Pf S κ M h xs u s):Pw S κ M (h++[.l xs]) (.c h.length) u s:=by
 obtain ⟨N,l,R,a,us,n,rfl,e,f,z,r⟩:=p;exact ⟨N.cel (a,a),l.trans .cel,R.add f f ⟨⟨_,e⟩,_,e⟩ ⟨us,n,e,z,r.go .cel⟩,(a,a),by show (N.m++[(a,a)])[h.length]?=_;rw [<- R.len];simp,rfl⟩
def Mem.tup {xs:List PyData} {us:List Value} {t:Nat} (R:Mem S κ M h s) (r:Reps' S M xs us) (z:us.length<=sizeLine):Pw S κ M h (.d (.tuple xs)) (.ref s.heap.objs.size) { s with heap:=s.heap.push { cls:=.type "tuple",data:=.seq us.toArray },toks:=t }:=by
 have R1:Mem S κ M h { s with heap:=s.heap.push { cls:=.type "tuple",data:=.seq us.toArray },toks:=t }:=R.kept fun b o e=>Heap.get?_push_of_some _ e;exact ⟨_,.add R.size.1,R1.frz R.size (Heap.get?_push_size _ rfl),rep_t.mpr ⟨_,_,us,rfl,hO,⟨⟨_,rfl⟩,z⟩,r.go (.add R.size.1)⟩⟩
def Mem.lst {h2:Heap} {xs:List PyData} {us:List Value} {n t:Nat} (R:Mem S κ M h s) (k:∀ b o,s.heap.get? b=some o->h2.get? b=some o) (e:h2.get? s.heap.objs.size=some (aV us n)) (r:Reps' S M xs us) (z:us.length<=sizeLine) :
  Pf S κ M h xs (.ref s.heap.objs.size) { s with heap:=h2,toks:=t }:=⟨M,.refl,R.kept k,_,us,n,rfl,e,R.size,z,r⟩
def Mem.lstP {xs:List PyData} {us:List Value} {n t:Nat} (R:Mem S κ M h s) (r:Reps' S M xs us) (z:us.length<=sizeLine):Pf S κ M h xs (.ref s.heap.objs.size) { s with heap:=s.heap.push (aV us n),toks:=t } :=
 R.lst (fun b o e=>Heap.get?_push_of_some _ e) (Heap.get?_push_size _ rfl) r z
def dI {xs:List PyData} (R:Mem S κ M h s) (r:RepW S M w u) (e:ref h w=some (.list xs)):∃ a us n,u=.ref a/\s.heap.get? a=some (aV us n)/\us.length<=sizeLine/\Reps' S M xs us:=by
 cases w with
 | d y =>
  cases e;obtain ⟨a,o,us,e,z,⟨⟨n,rfl⟩,l⟩,r⟩:=rep_l.mp (show Rep S M.Z (.list xs) u from r);exact ⟨a,us,n,e,R.z a _ z,l,r⟩
 | c i =>
  obtain ⟨p,e1,rfl⟩:=r;dsimp only [DL.ref] at e;cases q:h[i]? with
  | none=>rw [q] at e;cases e
  | some c =>
   cases c with
   | l ys=>rw [q] at e;cases e;obtain ⟨us,n,a,b,c⟩:=R.cel i p _ e1 q;exact ⟨_,us,n,rfl,a,b,c⟩
   | _=>rw [q] at e;cases e
def fY {xs:List PyData} (R:Mem S κ M h s) (r:RepW S M w u) (e:ref h w=some (.tuple xs)):∃ a us n,u=.ref a/\M.Z a=some { cls:=.type "tuple",data:=.seq us.toArray n }/\us.length<=sizeLine/\Reps' S M xs us:=by
 cases w with
 | d y =>
  cases e;obtain ⟨a,o,us,e,z,⟨⟨n,rfl⟩,l⟩,r⟩:=rep_t.mp (show Rep S M.Z (.tuple xs) u from r);exact ⟨a,us,n,e,z,l,r⟩
 | c i =>
  dsimp only [DL.ref] at e;cases q:h[i]? with
  | none=>rw [q] at e;cases e
  | some c=>cases c<;>(rw [q] at e;cases e)
def wR {kvs:List (PyData×PyData)} (R:Mem S κ M h s) (r:RepW S M w u) (hf:fP kvs=none) (e:ref h w=some (.dict kvs)):∃ a vs,u=.ref a/\s.heap.DictOf (bX S.P S.w) a vs/\RepK S M.Z kvs vs/\(a==sysModules)=false/\vs.length<=sizeLine:=by
 cases w with
 | d y =>
  cases e;obtain ⟨a,o,vs,e,z,q,r⟩:=(aF3 hf).mp (show Rep S M.Z (.dict kvs) u from r);exact ⟨a,vs,e,q.2.2 _ (R.z a o z),r,q.1,q.2.1⟩
 | c i =>
  obtain ⟨p,e1,rfl⟩:=r;dsimp only [DL.ref] at e;cases q:h[i]? with
  | none=>rw [q] at e;cases e
  | some c =>
   cases c with
   | k ys=>rw [q] at e;cases e;obtain ⟨vs,a,b,c⟩:=R.cel i p _ e1 q;exact ⟨_,vs,rfl,a,b,c⟩
   | _=>rw [q] at e;cases e
def bM {a:Addr} {us:List Value} {n:Nat} (e:s.heap.get? a=some (aV us n)):PlainL s.heap a us.toArray:=⟨_,n,e,rfl,rfl,rfl⟩
def fZ {hp:Heap} {a:Addr} {us:List Value} {n:Nat} (e:hp.get? a=some { cls:=.type "tuple",data:=.seq us.toArray n }):IsTup hp a us.toArray:=⟨_,e,rfl,n,rfl⟩
def sC {x:W} {d:PyData} (R:Mem S κ M h s) (r:RepW S M x u) (e:ref h x=some d) (p:aG 64 d=true):(∃ as,Reads s.heap u d as)/\SeqAt.shaped d=true:=by
 have go:(∃ as,Reads s.heap u d as)/\d.canLay0=true/\d.depth<=64:=by
  cases x with
  | d y=>cases e;exact Rep.reads R.z 64 r p
  | c i =>
   cases d with
   | list xs =>
    obtain ⟨a,us,n,rfl,ho,_,rr⟩:=dI R r e;obtain ⟨⟨as,q⟩,c,l⟩:=Reps.reads R.z 63 (reps_iff.mpr rr) (by simpa [aG] using p);exact ⟨⟨_,Reads.list ho rfl rfl (by simpa using q)⟩,by simp [PyData.canLay0,PyData.depth,c,l]⟩
   | dict _=>simp [aG] at p
   | _ =>
    dsimp only [DL.ref] at e;cases q:h[i]? with
    | none=>rw [q] at e;cases e
    | some c=>cases c<;>(rw [q] at e;cases e)
 exact ⟨go.1,by unfold SeqAt.shaped;rw [go.2.1];simpa using go.2.2⟩
def bH2 {j:Int} (h:dP j=true):0 < j/\j.natAbs.log2 < 9000:=by
 unfold dP at h;simp only [Bool.and_eq_true,Bool.or_eq_true,decide_eq_true_eq] at h;refine ⟨h.1,?_⟩;rcases h.2 with z | z
 ·have h0:j.natAbs≠0:=by omega
  have:=(Nat.log2_lt h0 (k:=30)).mpr (by omega);omega
 ·omega
def uM (k:Nat):(0:Int)<=2^k:=by rw [two_pow_cast];exact Int.natCast_nonneg _
def bH3 {i j:Int} (h:iT i j=true):IntMulOk i j:=by
 unfold iT at h;simp only [Bool.and_eq_true,Bool.or_eq_true,decide_eq_true_eq] at h;rcases h with ⟨h1,h2⟩ | ⟨h1,h2⟩
 ·exact .of_left (intBits_le_64 h1 h2)
 ·exact .of_right (intBits_le_64 h1 h2)
def bH4 (R:Mem S κ M h s) (ra:RepW S M x u) (rb:RepW S M y v) (e:bG2 x y h=some (w,h')):Wp S A (binaryOp .Add u v) (Pw S κ M h' w) E s:=by
 unfold bG2 at e;split at e
 ·cases e;obtain ⟨t,rfl⟩:=wi.mp ra;obtain ⟨t',rfl⟩:=wi.mp rb;exact add_int R.pi
 ·obtain ⟨hz,e⟩:=aE e;cases e;obtain ⟨a,us,n,rfl,ea,la,ra'⟩:=fY (h:=h) R ra rfl;obtain ⟨b,vs,m,rfl,eb,lb,rb'⟩:=fY (h:=h) R rb rfl;have l1:=ra'.length;have l2:=rb'.length
  by_cases e1:us=[]
  ·subst e1;cases ra';refine concat_meets ⟨_,R.z _ _ ea,rfl⟩ ⟨_,R.z _ _ eb,rfl⟩ noFill_tuple_add seq_tuple_add PySem.F.slot_tuple_add PySem.F.entry_tuple_add (PySem.F.args_tuple_add_2 _ _) (tuple_addW0 a b _ _ n m none none #[] #[] rfl) ⟨R.z _ _ ea,R.z _ _ eb,?_⟩;exact R.pw rb
  ·refine HT.cat_tup (fZ (R.z _ _ ea)) (fZ (R.z _ _ eb)) e1 (fun z=>?_) (fun _=>?_) (by omega)
   ·subst z;cases rb';rw [List.append_nil];exact R.pw ra
   ·exact R.tup (t:=s.toks) (aF0 ra' rb') (by rw [List.length_append];omega)
 ·split at e
  ·rename_i ha hb;obtain ⟨hz,e⟩:=aE e;cases e;obtain ⟨a,us,n,rfl,ea,la,ra'⟩:=dI R ra ha;obtain ⟨b,vs,m,rfl,eb,lb,rb'⟩:=dI R rb hb;have l1:=ra'.length;have l2:=rb'.length;refine PySem.P.add_list ea eb ?_ (by rw [List.size_toArray,List.size_toArray];omega);have ea:us.toArray++vs.toArray=(us++vs).toArray:=by simp
   rw [ea];exact qC (R.lstP (t:=s.toks) (aF0 ra' rb') (by rw [List.length_append];omega))
  ·cases e
def bin_ok {op:Operator} (R:Mem S κ M h s) (ra:RepW S M x u) (rb:RepW S M y v) (e:hZ op x y h=some (w,h')):Wp S A (binaryOp op u v) (Pw S κ M h' w) E s:=by
 unfold hZ at e;split at e
 ·exact bH4 R ra rb e
 ·unfold bT5 at e;split at e
  ·obtain ⟨hm,e⟩:=aE e;cases e;obtain ⟨t,rfl⟩:=wi.mp ra;obtain ⟨t',rfl⟩:=wi.mp rb;exact mul_int R.pi (bH3 hm)
  ·cases e
 ·split at e
  ·rename_i i j;obtain ⟨t,rfl⟩:=wi.mp ra;obtain ⟨t',rfl⟩:=wi.mp rb;split at e
   ·cases e;exact sub_int R.pi
   ·obtain ⟨hm,e⟩:=aE e;cases e;obtain ⟨h1,h2⟩:=bH2 hm;exact floordiv_int (by omega) (by rw [Int.fdiv_eq_ediv_of_nonneg i (by omega)];exact R.pi) (.inl (PyProof.noPylong_of_log2 h2))
   ·obtain ⟨hm,e⟩:=aE e;cases e;exact mod_int' (by omega) (by rw [Int.fmod_eq_emod_of_nonneg i (by omega)];exact R.pi)
   ·obtain ⟨hm,e⟩:=aE e;cases e;unfold rU at hm;simp only [Bool.and_eq_true,decide_eq_true_eq] at hm;exact pow_int_small hm.1 hm.2.1 hm.2.2 R.pi
   ·obtain ⟨hm,e⟩:=aE e;cases e;exact rshift_int hm (by rw [Int.fdiv_eq_ediv_of_nonneg i (uM _)];exact R.pi)
   ·cases e
  ·cases e
def bH5 {i:Int} (R:Mem S κ M h s) (ra:RepW S M (.d (.int i)) u):Wp S A (unaryOp .USub u) (Pw S κ M h (.d (.int (-i)))) E s:=by
 obtain ⟨t,rfl⟩:=wi.mp ra;exact neg_int R.pi
def mE {Z:Zm} {a b:PyData} {k:Bool} (ra:Rep S Z a u) (rb:Rep S Z b v) (e:isSame a b=some k):plainIs u v=true/\(u==v)=k:=by
 cases b with
 | none =>
  rw [Rep] at rb;subst rb;cases a with
  | none=>rw [Rep] at ra;subst ra;cases e;exact ⟨rfl,rfl⟩
  | bool c=>rw [Rep] at ra;subst ra;cases e;exact ⟨rfl,rfl⟩
  | int c=>rw [Rep] at ra;obtain ⟨t,rfl⟩:=ra;cases e;exact ⟨rfl,rfl⟩
  | str c=>rw [Rep] at ra;obtain ⟨⟨t,rfl⟩,_⟩:=ra;cases e;exact ⟨rfl,rfl⟩
  | list c=>rw [Rep] at ra;obtain ⟨p,o,vs,rfl,_⟩:=ra;cases e;exact ⟨rfl,rfl⟩
  | tuple c=>rw [Rep] at ra;obtain ⟨p,o,vs,rfl,_⟩:=ra;cases e;exact ⟨rfl,rfl⟩
  | dict c=>cases e
 | bool b =>
  rw [Rep] at rb;subst rb;cases a with
  | none=>rw [Rep] at ra;subst ra;cases e;exact ⟨rfl,rfl⟩
  | bool c=>rw [Rep] at ra;subst ra;cases e;cases b<;>cases c<;>exact ⟨rfl,rfl⟩
  | int c=>rw [Rep] at ra;obtain ⟨t,rfl⟩:=ra;cases e;exact ⟨rfl,rfl⟩
  | str c=>rw [Rep] at ra;obtain ⟨⟨t,rfl⟩,_⟩:=ra;cases e;exact ⟨rfl,rfl⟩
  | list c=>rw [Rep] at ra;obtain ⟨p,o,vs,rfl,_⟩:=ra;cases e;exact ⟨rfl,rfl⟩
  | tuple c=>rw [Rep] at ra;obtain ⟨p,o,vs,rfl,_⟩:=ra;cases e;exact ⟨rfl,rfl⟩
  | dict c=>cases e
 | _=>cases a<;>cases e
end
end DL

namespace DL
open PySem PySem.Spec PyProof.Rows L2 CI
section
variable {S:Sx} {κ:Kp} {M:Mp} {h h':aA} {s:Shared} {A:Around} {E:Value->Shared->Prop} {x y w:W} {u v:Value} {d:Nat} {b:Bool}
def Room.u64 (r:Room d A):A.units+64 < cLine:=by have:=r.un;omega
def Room.u65 (r:Room d A):A.units+65 < cLine:=by have:=r.un;omega
def aG4 {z:PyData} {k:Key} {Z:Zm} (e:bI z=some k) (r:Rep S Z z u):(bX S.P S.w).is k u=true:=by
 cases z with
 | int i=>cases e;obtain ⟨t,rfl⟩:=rep_i.mp r;exact rR _ _ i t
 | str z =>
  unfold bI at e;obtain ⟨_,e⟩:=aE e;cases e;obtain ⟨⟨t,rfl⟩,_⟩:=rep_s.mp r;exact rS _ _ z t
 | _=>cases e
def aU0 {k:Key} {kvs:List (PyData×PyData)} {p:PyData×PyData} (e:(kvs.find? fun p=>decide (bI p.1=some k))=some p):fP kvs=none:=by
 cases q:fP kvs with
 | none=>rfl
 | some g=>rw [wM q] at e;simp [bI] at e
def zU {Z:Zm} (k:Key) {kvs:List (PyData×PyData)} {vs:List (Key×Value)} (r:RepK S Z kvs vs) :
  (∀ p,(kvs.find? fun p=>decide (bI p.1=some k))=some p->∃ v,valueAt vs k=some v/\Rep S Z p.2 v)/\((kvs.find? fun p=>decide (bI p.1=some k))=none->valueAt vs k=none):=by
 unfold valueAt;induction r with
 | nil=>exact ⟨fun p e=>(nomatch e),fun _=>rfl⟩
 | @cons p q ps qs hp _ ih =>
  by_cases e:q.1=k
  ·have a1:decide (bI p.1=some k)=true:=by rw [hp.1,e];simp
   simp only [List.find?_cons,a1,decide_eq_true e];exact ⟨fun _ ep=>by cases ep;exact ⟨_,rfl,hp.2⟩,fun ep=>by cases ep⟩
  ·have a1:decide (bI p.1=some k)=false:=by rw [hp.1];simpa using e
   simp only [List.find?_cons,a1,decide_eq_false e];exact ih
def bD0 {neg:Bool} (hr:Room d A) (R:Mem S κ M h s) (ra:RepW S M x u) (rb:RepW S M y v) (e:xIn x y h=some b):Wp S A (compareOp (if neg then .NotIn else .In) u v) (Pw S κ M h (.d (.bool (neg ^^ b)))) E s:=by
 unfold xIn at e;split at e
 ·rename_i z xs ea eb;obtain ⟨hp,e⟩:=aE e;cases e;rw [Bool.and_eq_true] at hp;obtain ⟨⟨bs,z2⟩,q2⟩:=sC R rb eb hp.1;obtain ⟨⟨as,z1⟩,q1⟩:=sC R ra ea hp.2;cases neg
  ·exact SeqAt.in_list_reads z2 z1 (SeqAt.canLay_of_shaped q2) (SeqAt.canLay_of_shaped q1) (room_in_shaped q1 hr.u65) (by simpa using R.pb)
  ·exact SeqAt.notIn_list_reads z2 z1 (SeqAt.canLay_of_shaped q2) (SeqAt.canLay_of_shaped q1) (room_in_shaped q1 hr.u65) (by simpa using R.pb)
 ·rename_i z xs ea eb;obtain ⟨hp,e⟩:=aE e;cases e;rw [Bool.and_eq_true] at hp;obtain ⟨⟨bs,z2⟩,q2⟩:=sC R rb eb hp.1;obtain ⟨⟨as,z1⟩,q1⟩:=sC R ra ea hp.2;cases neg
  ·exact SeqAt.in_tuple_reads z2 z1 (SeqAt.canLay_of_shaped q2) (SeqAt.canLay_of_shaped q1) (room_in_shaped q1 hr.u65) (by simpa using R.pb)
  ·exact SeqAt.notIn_tuple_reads z2 z1 (SeqAt.canLay_of_shaped q2) (SeqAt.canLay_of_shaped q1) (room_in_shaped q1 hr.u65) (by simpa using R.pb)
 ·cases e
def iA {op:CmpOp} {p:Bool×aA} (hr:Room d A) (R:Mem S κ M h s) (ra:RepW S M x u) (rb:RepW S M y v) (e:eJ op x y h=some p):p.2=h/\Wp S A (compareOp op u v) (Pw S κ M h (.d (.bool p.1))) E s:=by
 unfold eJ at e;split at e
 ·obtain ⟨b,e1,rfl⟩:=map_some e;refine ⟨rfl,?_⟩;unfold xEq at e1;split at e1
  ·rename_i ea eb;obtain ⟨hp,e1⟩:=aE e1;cases e1;rw [Bool.and_eq_true] at hp;obtain ⟨⟨as,z1⟩,q1⟩:=sC R ra ea hp.1;obtain ⟨⟨bs,z2⟩,q2⟩:=sC R rb eb hp.2;exact eq_dataH z1 z2 q1 q2 hr.u64 R.pb
  ·cases e1
 ·obtain ⟨b,e1,rfl⟩:=map_some e;refine ⟨rfl,?_⟩;unfold xEq at e1;split at e1
  ·rename_i ea eb;obtain ⟨hp,e1⟩:=aE e1;cases e1;rw [Bool.and_eq_true] at hp;obtain ⟨⟨as,z1⟩,q1⟩:=sC R ra ea hp.1;obtain ⟨⟨bs,z2⟩,q2⟩:=sC R rb eb hp.2;exact ne_dataH z1 z2 q1 q2 hr.u64 R.pb
  ·cases e1
 ·obtain ⟨b,e1,rfl⟩:=map_some e;unfold xIs at e1;split at e1
  ·obtain ⟨h1,h2⟩:=mE ra rb e1;exact ⟨rfl,wpAny_is_plain h1 (by rw [h2];exact R.pb)⟩
  ·cases e1;obtain ⟨p,_,rfl⟩:=ra;cases rep_n.mp (show Rep S M.Z .none v from rb);exact ⟨rfl,wpAny_is_plain rfl R.pb⟩
  ·cases e1
 ·obtain ⟨b,e1,rfl⟩:=map_some e;unfold xIs at e1;split at e1
  ·obtain ⟨h1,h2⟩:=mE ra rb e1;exact ⟨rfl,wpAny_isNot_plain h1 (by rw [h2];exact R.pb)⟩
  ·cases e1;obtain ⟨p,_,rfl⟩:=ra;cases rep_n.mp (show Rep S M.Z .none v from rb);exact ⟨rfl,wpAny_isNot_plain rfl R.pb⟩
  ·cases e1
 ·obtain ⟨b,e1,rfl⟩:=map_some e;exact ⟨rfl,by simpa using bD0 (neg:=false) (A:=A) (E:=E) hr R ra rb e1⟩
 ·obtain ⟨b,e1,rfl⟩:=map_some e;exact ⟨rfl,by simpa using bD0 (neg:=true) (A:=A) (E:=E) hr R ra rb e1⟩
 ·split at e
  ·obtain ⟨f,e1,rfl⟩:=map_some e;obtain ⟨t,rfl⟩:=wi.mp ra;obtain ⟨t',rfl⟩:=wi.mp rb;refine ⟨rfl,?_⟩;cases op<;>cases e1
   ·exact lt_int R.pb
   ·exact le_int R.pb
   ·exact gt_int R.pb
   ·exact ge_int R.pb
  ·cases e
def qD {n:Nat} {i:Int} {j:Nat} (h:ixN n i=some j):seqIndex? i n=some j/\j < n/\-(n:Int)<=i/\i < n:=by
 unfold ixN at h
 by_cases h0:0<=i
 ·rw [if_pos h0] at h;obtain ⟨h1,h⟩:=aE h;cases h;exact ⟨seqIndex_of h0 h1,by omega,by omega,h1⟩
 ·rw [if_neg h0] at h;obtain ⟨h1,h⟩:=aE h;cases h;exact ⟨seqIndex_neg (by omega) h1,by omega,h1,by omega⟩
def qE {α β:Type} {F:α->β->Prop} {l:List α} {r:List β} {i:Int} {a:α} (p:Paired F l r) (e:atI l i=some a):∃ j b,seqIndex? i r.length=some j/\r[j]?=some b/\F a b/\-(r.length:Int)<=i/\i < r.length:=by
 obtain ⟨j,h1,h2⟩:=bind_some e;obtain ⟨b,h3,h4⟩:=iQ p h2;rw [p.length] at h1;obtain ⟨q1,_,q3,q4⟩:=qD h1;exact ⟨j,b,q1,h3,h4,q3,q4⟩
def mF:(sizeLine:Nat) < 2^62:=by decide
def aG5 {us:List Value} {n:Nat} {a:Addr} {i:Int} {t:Tok} {j:Nat} {c:Value} {value slice:Expr} {Q:Value->Shared->Prop} (ho:s.heap.get? a=some (aV us n)) (hz:us.length<=sizeLine) (h1:seqIndex? i us.length=some j) (h2:us[j]?=some c) (h3:-(us.length:Int)<=i) (h4:i < us.length)
  (hs:subscripted slice false (.ref a) (.int i t)=operate [.ref a,.int i t] (getItem (.ref a) (.int i t))) (q:Q c s):Wp S A (subscriptTail value slice (.ref a) (.int i t)) Q E s:=by
 have hn:=mF
 by_cases h0:0<=i
 ·have hj:i.toNat=j:=by rw [seqIndex_of h0 h4] at h1;exact Option.some.inj h1
  exact item_listR (bM ho).isList h0 (by omega) (by rw [hj];simpa using h2) q hs
 ·have hj:(i+(us.toArray.size:Int)).toNat=j:=by rw [seqIndex_neg (by omega) h3] at h1;rw [List.size_toArray];exact Option.some.inj h1
  exact subscriptTail_builtinR (x:=c) (bM ho).isList.typeIs slot_list_getitem.lookup
   (wpAny_getItem_list_neg (Q:=fun r s'=>r=c/\Q r s') (bM ho).isList (by omega) (by rw [List.size_toArray]<;>omega) (by omega) (by rw [hj];simpa using h2) ⟨rfl,q⟩) hs
def wS {T id:String} {o i:Value} {value slice:Expr} {Q:Value->Shared->Prop} (hT:s.TypeIs o T) (hl:typeLookup (.type T) "__getitem__"=pure (some (.builtin id))) (hs:subscripted slice false o i=operate [o,i] (getItem o i)) (h:Wp S A (getItem o i) Q E s):Wp S A (subscriptTail value slice o i) Q E s:=by
 unfold subscriptTail;refine wpAny_bind ?_;rw [getitemInPython_of_ne hT.not_modules];refine wpAny_bind (wpAny_specialOf hT hl ?_);have fin:Wp S A (subscripted slice false o i) (fun r s₃=>Wp S A (letTemporaryGo value o r >>= fun _=>pure r) Q E s₃) E s:=by
  rw [hs];exact wpAny_operating (wpAny_mono h (fun r s₃ h₃=>wpAny_bind (wpAny_letTemporaryGo (wpAny_pure h₃))) fun _ _ x=>x)
 first
  | exact wpAny_pure (wpAny_bind fin)
  | exact wpAny_bind (wpAny_pure (wpAny_bind fin))
  | exact wpAny_bind fin
def bT8 {value slice:Expr} (hr:Room d A) (R:Mem S κ M h s) (ra:RepW S M x u) (rb:RepW S M y v) (e:xIx x y h=some (w,h')) (hs:∀ o i,subscripted slice false o i=operate [o,i] (getItem o i)):Wp S A (subscriptTail value slice u v) (Pw S κ M h' w) E s:=by
 unfold xIx at e;cases ea:ref h x with
 | none =>
  rw [ea] at e;cases y with
  | c _=>cases e
  | d y =>
   cases y with
   | int k =>
    replace e:xIr x k h=some (w,h'):=e
    unfold xIr at e;split at e
    ·rename_i i;split at e
     ·rename_i is ei;obtain ⟨z,ez,e⟩:=map_some e;cases e;obtain ⟨t,rfl⟩:=wi.mp rb;obtain ⟨p,ep,rfl⟩:=ra;obtain ⟨us,n,ho,hz,rr⟩:=R.cel i p _ ep ei;obtain ⟨j,c,h1,h2,h3,h4,h5⟩:=qE rr ez;exact aG5 ho hz h1 h2 h4 h5 (hs _ _) (R.pw h3)
     ·cases e
    ·cases e
   | _=>cases e
 | some t =>
  rw [ea] at e;cases t with
  | list xs =>
   cases y with
   | c _=>cases e
   | d y =>
    cases y with
    | int i =>
     obtain ⟨z,ez,e⟩:=map_some e;cases e;obtain ⟨t,rfl⟩:=wi.mp rb;obtain ⟨a,us,n,rfl,ho,hz,rr⟩:=dI R ra ea;obtain ⟨j,c,h1,h2,h3,h4,h5⟩:=qE rr ez;exact aG5 ho hz h1 h2 h4 h5 (hs _ _) (R.pw h3)
    | _=>cases e
  | tuple xs =>
   cases y with
   | c _=>cases e
   | d y =>
    cases y with
    | int i =>
     obtain ⟨z,ez,e⟩:=map_some e;cases e;obtain ⟨t,rfl⟩:=wi.mp rb;obtain ⟨a,us,n,rfl,ho,hz,rr⟩:=fY R ra ea;obtain ⟨j,c,h1,h2,h3,h4,h5⟩:=qE rr ez;have pl:=fZ (R.z _ _ ho);have hn:=mF;exact subscriptTail_builtinR (x:=c) pl.typeIs slot_tuple_getitem.lookup (getItem_tuple (j:=j) (Q:=fun r s'=>r=c/\Pw S κ M h (.d z) r s') pl (by omega) (by omega) (by rw [List.size_toArray];exact h1) (by simpa using h2) ⟨rfl,R.pw h3⟩) (hs _ _)
    | _=>cases e
  | dict kvs =>
   cases y with
   | c _=>cases e
   | d z =>
    dsimp only at e;cases ek:bI z with
    | none=>rw [ek] at e;cases e
    | some k =>
     rw [ek] at e;obtain ⟨p,ep,e⟩:=map_some e;cases e;obtain ⟨a,vs,rfl,dd,rk,hd,_⟩:=wR R ra (aU0 ep) ea;obtain ⟨c,hc,rc⟩:=(zU k rk).1 p ep;exact wS dd.typeIs PySem.F.slot_dict_getitem.lookup (hs _ _) (wpAny_getItem_of (aG4 ek rb) dd.mapOf hc ((R.tok _).pw rc))
  | _=>cases e
end
end DL

namespace DL
open PySem PySem.Spec PyProof.Rows L2 CI
section
variable {S:Sx} {κ:Kp} {M:Mp} {h h':aA} {s:Shared} {A:Around} {E:Value->Shared->Prop} {x y w:W} {u v:Value} {d:Nat} {b:Bool} {ws:List W} {us:List Value}
def aG6 {α:Type} (xs:List α) (lo hi:Option Int):((xs.drop (HT.sIx xs.length 0 lo)).take (HT.sIx xs.length xs.length hi - HT.sIx xs.length 0 lo)).length<=xs.length:=by rw [List.length_take,List.length_drop];omega
def qF (lo hi:Option Int) (n:Nat):(sliceBounds lo hi none n).1=((HT.sIx n 0 lo:Nat):Int)/\(sliceBounds lo hi none n).2.1=((HT.sIx n n hi:Nat):Int)/\(sliceBounds lo hi none n).2.2=1:=by
 refine ⟨?_,?_,rfl⟩
 ·cases lo with
  | none=>simp [sliceBounds,HT.sIx]
  | some i =>
   simp only [sliceBounds,HT.sIx,Option.getD_none,show (1:Int) > 0 by decide,if_true]
   by_cases h:i < 0
   ·simp only [h,if_true]<;>omega
   ·simp only [h,if_false]<;>omega
 ·cases hi with
  | none=>simp [sliceBounds,HT.sIx]
  | some i =>
   simp only [sliceBounds,HT.sIx,Option.getD_none,show (1:Int) > 0 by decide,if_true]
   by_cases h:i < 0
   ·simp only [h,if_true]<;>omega
   ·simp only [h,if_false]<;>omega
def nY (its:List Value) (lo hi:Option Int):slicePick its.toArray lo hi none=((its.drop (HT.sIx its.length 0 lo)).take (HT.sIx its.length its.length hi - HT.sIx its.length 0 lo)).toArray:=by
 obtain ⟨h1,h2,h3⟩:=qF lo hi its.toArray.size;unfold slicePick;rw [h1,h2,h3];simp only [sliceRange_one,pick_run,List.size_toArray]<;>rfl
def zV {prog:Program} {w:World} {A:Around} {E:Value->Shared->Prop} {s:Shared} {t sl:Addr} {items:Array Value} {vl vu:Value} {lo hi:Option Int} {Q:Value->Shared->Prop} (ht:IsTup s.heap t items) (hs:s.heap.IsSliceOf sl vl vu .none) (pl:IsPart vl lo) (pu:IsPart vu hi)
  (hw:HT.sIx items.size 0 lo=0/\HT.sIx items.size items.size hi=items.size) (h:Q (.ref t) s):wpAny (model prog w) A (getItem (.ref t) (.ref sl)) Q E s:=by
 obtain ⟨os,hos,hcs,hds⟩:=id hs;have hTs:s.TypeIs (.ref sl) "slice":=⟨os,hos,hcs⟩;unfold getItem;try with_reducible refine wpAny_holding ?_
 first | refine wpAny_bind (wpAny_pure ?_) | skip
 refine wpAny_bind (wpAny_sequenceKey ht.typeIs (by decide) ?_);refine wpAny_bind (wpAny_callSpecial?_slot (name:=Str.ofString "__getitem__") ht.typeIs PyProof.Rows.slot_tuple_getitem
  (wpAny_call_entry PyProof.Rows.slot_tuple_getitem ht.typeIs entry_tuple_getitem ?_ (args_tuple_getitem _ _)))
 show wpAny _ _ (Builtin.Tuple.tupleItemsOf (.ref t) >>= _) _ _ s;refine wpAny_bind (tupleItemsOf_ ht (wpAny_bind (wpAny_typeOf hTs ?_)));rw [if_pos (by decide)];refine wpAny_bind (HT.sliceApplied_gen hs pl pu ?_);have hy:(((HT.sIx items.size 0 lo:Nat):Int)==0&&(1:Int)==1&&(HT.sIx items.size items.size hi - HT.sIx items.size 0 lo)==items.size)=true:=by
  rw [hw.1,hw.2];simp
 show wpAny _ _ (if (((HT.sIx items.size 0 lo:Nat):Int)==0&&(1:Int)==1&&(HT.sIx items.size items.size hi - HT.sIx items.size 0 lo)==items.size)=true then _ else _) _ _ s;rw [if_pos hy];refine wpAny_bind (wpAny_bind (wpAny_typeOf ht.typeIs (wpAny_pure ?_)));rw [if_pos (by decide)];exact wpAny_bind (wpAny_rule (wpAny_pure ⟨_,rfl,wpAny_pure h⟩))
def sl_l {xs:List PyData} {vl vu:Value} {lo hi:Option Int} {sl:Addr} (R:Mem S κ M h s) (ra:RepW S M x u) (e:ref h x=some (.list xs)) (hs:s.heap.IsSliceOf sl vl vu .none) (pl:IsPart vl lo) (pu:IsPart vu hi):s.TypeIs u "list"/\Wp S A (getItem u (.ref sl)) (Pf S κ M h (cut xs lo hi)) E s:=by
 obtain ⟨a,us,n,rfl,ho,hz,rr⟩:=dI R ra e;refine ⟨(bM ho).isList.typeIs,wpAny_getItem_list_slice (bM ho).isList hs pl pu .none (by simp) ?_ (by rw [List.size_toArray]<;>omega)⟩;rw [nY];unfold cut;rw [rr.length];exact R.lstP (t:=s.toks) (n:=0) (aF1 _ (aF2 _ rr)) (Nat.le_trans (aG6 us lo hi) hz)
def sl_t {xs:List PyData} {vl vu:Value} {lo hi:Option Int} {sl:Addr} (R:Mem S κ M h s) (ra:RepW S M (.d (.tuple xs)) u) (hs:s.heap.IsSliceOf sl vl vu .none) (pl:IsPart vl lo) (pu:IsPart vu hi):s.TypeIs u "tuple"/\Wp S A (getItem u (.ref sl)) (Pw S κ M h (.d (.tuple (cut xs lo hi)))) E s:=by
 obtain ⟨a,us,n,rfl,ho,hz,rr⟩:=fY (h:=h) R ra rfl;have ht:=fZ (R.z _ _ ho);have hl:=rr.length;have hlen:us.toArray.size=us.length:=List.size_toArray;refine ⟨ht.typeIs,?_⟩
 by_cases hw:HT.sIx us.length 0 lo=0/\HT.sIx us.length us.length hi=us.length
 ·refine zV ht hs pl pu (by rw [hlen];exact hw) ?_;have ec:cut xs lo hi=xs:=by
   unfold cut;rw [hl,hw.1,hw.2,List.drop_zero,Nat.sub_zero,<- hl,List.take_length]
  rw [ec];exact R.pw ra
 ·refine HT.getItem_tuple_cut ht hs pl pu (by rw [hlen];exact hw) ?_ (by rw [hlen];exact hz);rw [hlen];unfold cut;rw [hl];exact R.tup (t:=s.toks) (aF1 _ (aF2 _ rr)) (Nat.le_trans (aG6 us lo hi) hz)
def w1 (r:RepWs S M [x] us):∃ u,us=[u]/\RepW S M x u:=by cases r with | cons a b=>cases b;exact ⟨_,rfl,a⟩
def w2 (r:RepWs S M [x,y] us):∃ u v,us=[u,v]/\RepW S M x u/\RepW S M y v:=by cases r with | cons a b=>obtain ⟨v,rfl,c⟩:=w1 b;exact ⟨_,v,rfl,a,c⟩
def BfS (S:Sx) (f:Value) (g:List W->aA->Option (W×aA)):Prop:=∀ {κ:Kp} {M:Mp} {h h':aA} {s:Shared} {A:Around} {E:Value->Shared->Prop} {ws:List W} {us:List Value} {w:W} {d:Nat},Room d A->S.K.In S.base->(s.heap.objs.size==sysModules)=false->Mem S κ M h s->RepWs S M ws us->g ws h=some (w,h')->Wp S A (call f us) (Pw S κ M h' w) E s
def bT9:BfS S (.builtin "len") aY:=by
 intro κ M h h' s A E ws us w d hr hK hsm R r e;have hn:=mF;unfold aY at e;split at e
 ·obtain ⟨u,rfl,ra⟩:=w1 r;split at e
  ·rename_i ea;cases e;obtain ⟨a,vs,n,rfl,ho,hz,rr⟩:=dI R ra ea;refine Calls.call_len_list (bM ho).isList (by simp only [List.size_toArray]<;>omega) ?_;rw [List.size_toArray,rr.length];exact R.pi
  ·rename_i ea;cases e;obtain ⟨a,vs,n,rfl,ho,hz,rr⟩:=fY R ra ea;refine len_tuple (fZ (R.z _ _ ho)) (by simp only [List.size_toArray]<;>omega) ?_;rw [List.size_toArray,rr.length];exact R.pi
  ·rename_i ea;obtain ⟨k,ek,e⟩:=map_some e;cases e;rename_i x;unfold bG3 at ek;split at ek
   ·rename_i j;obtain ⟨p,ep,rfl⟩:=ra;split at ek
    ·rename_i is ei;cases ek;obtain ⟨vs,n,ho,hz,rr⟩:=R.cel j p _ ep ei;have hl:=rr.length;refine Calls.call_len_list (bM ho).isList (by simp only [List.size_toArray]<;>omega) ?_;rw [List.size_toArray,<- hl];exact R.pi
    ·cases ek
   ·cases ek
  ·cases e
 ·cases e
def aU1:BfS S (.type "tuple") aT:=by
 intro κ M h h' s A E ws us w d hr hK hsm R r e;unfold aT at e;split at e
 ·obtain ⟨u,rfl,ra⟩:=w1 r;split at e
  ·rename_i ea;cases e;obtain ⟨a,vs,n,rfl,ho,hz,rr⟩:=dI R ra ea;refine call_tuple_list (bM ho).isList (fun h2 kp=>?_) (by simp only [List.size_toArray]<;>omega);exact (R.kept (t:=s.toks) kp).tup (t:=s.toks) rr hz
  ·rename_i ea;cases e;obtain ⟨a,vs,n,rfl,ho,hz,rr⟩:=fY R ra ea;exact call_tuple_same (fZ (R.z _ _ ho)) (R.pw (rep_t.mpr ⟨a,_,vs,rfl,ho,⟨⟨n,rfl⟩,hz⟩,rr⟩))
  ·cases e
 ·cases e
theorem kD {Z:Zm}:∀ {xs:List PyData} {bs:List Bool} {us:List Value},cI xs=some bs->Paired (Rep S Z) xs us->us=bs.map .bool
 | [],_,_,e,h=>by cases e;cases h;rfl
 | x::r,bs,us,e,h=>by
  cases h with
  | cons a t =>
   cases x with
   | bool b =>
    unfold cI at e;obtain ⟨cs,q,rfl⟩:=map_some e;rw [rep_b.mp a,kD q t];rfl
   | _=>cases e
def zW {f:Nat->Bool} (bs:List Bool) (h:∀ i b,bs[i]?=some b->f i=b):(List.range bs.length).all f=bs.all id:=by
 rw [Bool.eq_iff_iff,List.all_eq_true,List.all_eq_true];constructor
 ·intro z b hb;obtain ⟨i,hi,e⟩:=List.mem_iff_getElem.mp hb;have:=z i (by simpa using hi);rw [h i b (by simp [hi,e])] at this;exact this
 ·intro z i hi;have hi':i < bs.length:=by simpa using hi
  rw [h i bs[i] (by simp [hi'])];exact z _ (List.getElem_mem hi')
def bU0:BfS S (.builtin "all") hV:=by
 intro κ M h h' s A E ws us w d hr hK hsm R r e;unfold hV at e;split at e
 ·obtain ⟨u,rfl,ra⟩:=w1 r;split at e
  ·rename_i ea;obtain ⟨bs,eb,e⟩:=map_some e;cases e;obtain ⟨p,vs,n,rfl,ho,hz,rr⟩:=dI R ra ea;have ev:=kD eb rr;subst ev;have pl:=(bM ho).isList;refine call_all_walk (wpAny_pyIter_list pl ?_);refine ⟨s.heap.objs.size,_,_,(bs.map Value.bool).toArray.size,_,_,fun i=>(bs[i]?).getD true,rfl,Walks.list (A:=A.in1) hr.hd s.heap.objs.size p (Nat.ne_of_lt (Heap.lt_size ho)) (bs.map Value.bool).toArray,⟨⟨_,Heap.get?_push_size _ rfl,rfl,rfl⟩,?_⟩,fun i v s' Q' E' hP hQ=>?_,fun h2 tk hk=>?_⟩
   ·obtain ⟨o,ho,r⟩:=pl;exact ⟨o,Heap.get?_push_of_some _ ho,r⟩
   ·have hP':(bs.map Value.bool)[i]?=some v:=by simpa using hP
    rw [List.getElem?_map] at hP';obtain ⟨b,eb,rfl⟩:=map_some hP';dsimp only at hQ;rw [eb] at hQ;exact wpAny_truthy_bool hQ
   ·have e:(List.range (bs.map Value.bool).toArray.size).all (fun i=>(bs[i]?).getD true)=bs.all id:=by
     have:=zW (f:=fun i=>(bs[i]?).getD true) bs (fun i b e=>by simp [e]);rw [List.size_toArray,List.length_map];exact this
    rw [e];refine (R.kept fun b o eo=>hk b o ?_ (Heap.get?_push_of_some _ eo)).pb;intro z;rw [List.mem_singleton.mp z] at eo;exact absurd (Heap.lt_size eo) (Nat.lt_irrefl _)
  ·cases e
 ·cases e
def zX {f:Nat->Bool} (bs:List Bool) (h:∀ i b,bs[i]?=some b->f i=b):(List.range bs.length).any f=bs.any id:=by
 rw [Bool.eq_iff_iff,List.any_eq_true,List.any_eq_true];constructor
 ·rintro ⟨i,hi,z⟩;have hi':i < bs.length:=by simpa using hi
  rw [h i bs[i] (by simp [hi'])] at z;exact ⟨_,List.getElem_mem hi',z⟩
 ·rintro ⟨b,hb,z⟩;obtain ⟨i,hi,e⟩:=List.mem_iff_getElem.mp hb;exact ⟨i,by simpa using hi,by rw [h i b (by simp [hi,e])];exact z⟩
def bU1:BfS S (.builtin "any") nX:=by
 intro κ M h h' s A E ws us w d hr hK hsm R r e;unfold nX at e;split at e
 ·obtain ⟨u,rfl,ra⟩:=w1 r;split at e
  ·rename_i ea;obtain ⟨bs,eb,e⟩:=map_some e;cases e;obtain ⟨p,vs,n,rfl,ho,hz,rr⟩:=dI R ra ea;have ev:=kD eb rr;subst ev;have pl:=(bM ho).isList;refine call_any_walk (wpAny_pyIter_list pl ?_);refine ⟨s.heap.objs.size,_,_,(bs.map Value.bool).toArray.size,_,_,fun i=>(bs[i]?).getD false,rfl,Walks.list (A:=A.in1) hr.hd s.heap.objs.size p (Nat.ne_of_lt (Heap.lt_size ho)) (bs.map Value.bool).toArray,⟨⟨_,Heap.get?_push_size _ rfl,rfl,rfl⟩,?_⟩,fun i v s' Q' E' hP hQ=>?_,fun h2 tk hk=>?_⟩
   ·obtain ⟨o,ho,r⟩:=pl;exact ⟨o,Heap.get?_push_of_some _ ho,r⟩
   ·have hP':(bs.map Value.bool)[i]?=some v:=by simpa using hP
    rw [List.getElem?_map] at hP';obtain ⟨b,eb,rfl⟩:=map_some hP';dsimp only at hQ;rw [eb] at hQ;exact wpAny_truthy_bool hQ
   ·have e:(List.range (bs.map Value.bool).toArray.size).any (fun i=>(bs[i]?).getD false)=bs.any id:=by
     have:=zX (f:=fun i=>(bs[i]?).getD false) bs (fun i b e=>by simp [e]);rw [List.size_toArray,List.length_map];exact this
    rw [e];refine (R.kept fun b o eo=>hk b o ?_ (Heap.get?_push_of_some _ eo)).pb;intro z;rw [List.mem_singleton.mp z] at eo;exact absurd (Heap.lt_size eo) (Nat.lt_irrefl _)
  ·cases e
 ·cases e
def bU2:BfS S (.type "int") bG4:=by
 intro κ M h h' s A E ws us w d hr hK hsm R r e;unfold bG4 at e;split at e
 ·cases e;obtain ⟨u,rfl,ra⟩:=w1 r;cases wb.mp ra;exact call_int_bool R.pi
 ·cases e
def aG7 {xs:List PyData} (R:Mem S κ M h s) (ra:RepW S M x u) (e:ref h x=some (.list xs)\/ref h x=some (.tuple xs)):Wp S A (call (.type "list") [u]) (Pf S κ M h xs) E s:=by
 rcases e with e | e
 ·obtain ⟨a,vs,n,rfl,ho,hz,rr⟩:=dI R ra e;exact call_list_seq a (.inl rfl) ho rfl rfl (fun h2 c kp e=>R.lst (t:=s.toks) kp e rr hz) (by simp only [List.size_toArray]<;>omega)
 ·obtain ⟨a,vs,n,rfl,ho,hz,rr⟩:=fY R ra e;exact call_list_seq a (.inr rfl) (R.z _ _ ho) rfl rfl (fun h2 c kp e=>R.lst (t:=s.toks) kp e rr hz) (by simp only [List.size_toArray]<;>omega)
def mG (T:String):Prop:=∀ (K:PySem.W.Frag) (d:PyData),PySem.W.kitOne K (.type (gJ d)) (.type T)=some (isi d T)
def aU2:mG "int":=fun K d=>by cases d<;>kernel_rfl
def aG8:mG "bool":=fun K d=>by cases d<;>kernel_rfl
def aU3:mG "str":=fun K d=>by cases d<;>kernel_rfl
def zZ:mG "tuple":=fun K d=>by cases d<;>kernel_rfl
def aG9:mG "list":=fun K d=>by cases d<;>kernel_rfl
def qG {z:PyData} (e:ref h x=some z) (n:(gJ z=="list"||gJ z=="dict")=false):x=.d z:=by
 cases x with
 | d y=>cases e;rfl
 | c i =>
  dsimp only [DL.ref] at e;cases q:h[i]? with
  | none=>rw [q] at e;cases e
  | some c=>cases c<;>(rw [q] at e;cases e)<;>cases n
def bU3 {z:PyData} (R:Mem S κ M h s) (r:RepW S M x u) (e:ref h x=some z) (hn:noD z=true):∃ H,PySem.W.KitX S.K u (.type (gJ z)) H/\H s.heap/\u≠.builtin "__main__.__loader__#opaque":=by
 cases z with
 | none=>cases qG e rfl;cases wn.mp r;exact ⟨_,PySem.W.kitx_none,True.intro,fun z=>nomatch z⟩
 | bool b=>cases qG e rfl;cases wb.mp r;exact ⟨_,PySem.W.kitx_bool,True.intro,fun z=>nomatch z⟩
 | int i=>cases qG e rfl;obtain ⟨t,rfl⟩:=wi.mp r;exact ⟨_,PySem.W.kitx_int,True.intro,fun z=>nomatch z⟩
 | str i=>cases qG e rfl;obtain ⟨⟨t,rfl⟩,_⟩:=rep_s.mp (show Rep S M.Z _ _ from r);exact ⟨_,PySem.W.kitx_str,True.intro,fun z=>nomatch z⟩
 | list xs=>obtain ⟨a,us,n,rfl,ho,_⟩:=dI R r e;exact ⟨_,PySem.W.kitx_list,⟨_,ho,rfl⟩,fun z=>nomatch z⟩
 | tuple xs=>obtain ⟨a,us,n,rfl,ho,_⟩:=fY R r e;exact ⟨_,PySem.W.kitx_tuple,⟨_,R.z _ _ ho,rfl⟩,fun z=>nomatch z⟩
 | dict xs=>obtain ⟨a,vs,rfl,⟨o,_,_,ho,ex,_⟩,_⟩:=wR R r (by simpa [noD] using hn) e;exact ⟨_,PySem.W.kitx_dict,⟨o,ho,ex.1⟩,fun z=>nomatch z⟩
def bH6 {z:PyData} {T:String} (hK:S.K.In S.base) (hk:mG T) (R:Mem S κ M h s) (r:RepW S M x u) (e:ref h x=some z) (hn:noD z=true):Wp S A (call (.builtin "isinstance") [u,.type T]) (Pw S κ M h (.d (.bool (isi z T)))) E s:=by
 obtain ⟨H,kx,p,n⟩:=bU3 R r e hn;exact PySem.W.kia_one kx (hK.keeps R.bk) p (hk S.K z) n fun tk=>(R.tok tk).pb
end
end DL

namespace DL
open PySem PySem.Spec PyProof.Rows L2 CI
abbrev NE:Value->Shared->Prop:=fun _ _=>False
structure Mod (S:Sx):Prop where
 kin:S.K.In S.base
 glob:S.base.Ns mainGlobals S.mg
 blt:∃ mb,S.base.Ns builtinsNs mb/\∀ x:Str,x≠"__name__"->mb x=bootBuiltins x
 nolimit:S.base.NoLimit
structure Cx where
 S:Sx
 A:Around
 N:List Str
 env:Env
 fn:Bool
def Vis (sc:Scope) (x:Str):Prop:=sc.names.lookup x=some .local\/sc.names.lookup x=some .cell\/sc.names.lookup x=some .free
def Loc (sc:Scope) (x:Str):Prop:=sc.names.lookup x=some .local\/sc.names.lookup x=some .cell
structure Cx.Ok (X:Cx):Prop where
 mod:Mod X.S
 kind:X.env.scope.kind=.function
 glob:X.env.globals=mainGlobals
 blt:X.env.builtins=builtinsNs
 inj:∀ x y c,X.env.cells.lookup x=some c->X.env.cells.lookup y=some c->x=y
 has:∀ x,(X.env.kindOf x=some .cell\/X.env.kindOf x=some .free)->∃ c,X.env.cells.lookup x=some c
 bsz:X.S.base.objs.size<=X.env.locals
 nd:X.N.Nodup
def aH0 (o:Obj) (m:Str->Option Value):Prop:=∃ es ep,o.data=.dict es ep/\StrKeys es/\∀ name,nsFind es name=m name
def bU4 (env:Env) (κ:Kp) (m:Str->Option Value) (x:Str) (u:Value):Prop :=
 (env.kindOf x=some .local/\m x=some u)\/((env.kindOf x=some .cell\/env.kindOf x=some .free)/\∃ c o,env.cells.lookup x=some c/\κ c=some (true,o)/\o.data=.cell (some u))
def FrO (κ:Kp) (A:Around):Prop:=∃ l,A.frames=some l/\∀ env∈l,env.scope.kind≠.module/\∃ L o,env.frame=some L/\κ L=some (false,o)/\∀ vs,o.data≠.fields vs
def FrO.kp {κ κ':Kp} {A:Around} (F:FrO κ A) (k:∀ a,(∃ l env,A.frames=some l/\env∈l/\env.frame=some a)->κ' a=κ a):FrO κ' A :=
 let ⟨l,e,f⟩:=F;⟨l,e,fun env he=>let ⟨h1,L,o,h2,h3,h4⟩:=f env he;⟨h1,L,o,h2,by rw [k L ⟨l,env,e,he,h2⟩];exact h3,h4⟩⟩
def FrO.up {κ:Kp} {A:Around} {a:Addr} {o:Obj} (F:FrO κ A) (ho:∀ vs,o.data≠.fields vs):FrO (fun b=>if b=a then some (false,o) else κ b) A :=
 let ⟨l,e,f⟩:=F;⟨l,e,fun env he=>let ⟨h1,L,o',h2,h3,h4⟩:=f env he;⟨h1,L,if L=a then o else o',h2,by dsimp only;split<;>first | rfl | exact h3,by split<;>assumption⟩⟩
def bU5 (X:Cx) (a:Addr):Prop:=a=X.env.locals\/(∃ x,X.env.cells.lookup x=some a)\/∃ l env,X.A.frames=some l/\env∈l/\env.frame=some a
structure Fra (X:Cx) (κ:Kp) (M:Mp) (δ:DSt):Prop where
 ok:X.Ok
 len:δ.length=X.N.length
 loc:∃ o m,κ X.env.locals=some (false,o)/\aH0 o m/\∀ (i:Nat) x w,X.N[i]?=some x->δ[i]?=some (some w)->Vis X.env.scope x->∃ u,RepW X.S M w u/\bU4 X.env κ m x u
 cell:∀ x c,X.env.cells.lookup x=some c->∃ o v,κ c=some (true,o)/\o.data=.cell v
 frs:FrO κ X.A
def Own (X:Cx) (κ κ':Kp):Prop:=∀ a,κ' a≠κ a->a=X.env.locals\/(X.fn=true/\∃ x,X.env.cells.lookup x=some a)
def Own.refl {X:Cx} {κ:Kp}:Own X κ κ:=fun _ h=>(h rfl).elim
def Own.trans {X:Cx} {κ κ' κ2:Kp} (a:Own X κ κ') (b:Own X κ' κ2):Own X κ κ2:=fun c h=>by
 by_cases e:κ' c=κ c
 ·exact b c (by rw [e];exact h)
 ·exact a c e
section
variable {X:Cx} {κ:Kp} {M M':Mp} {δ:DSt} {h h':aA} {s:Shared} {A:Around} {E:Value->Shared->Prop} {w:W} {u:Value} {d:Nat} {x:Str} {pos:Pos}
def Fra.go (F:Fra X κ M δ) (l:Le M M'):Fra X κ M' δ :=
 ⟨F.ok,F.len,let ⟨o,m,h1,h2,h3⟩:=F.loc;⟨o,m,h1,h2,fun i x w a b c=>let ⟨u,r,q⟩:=h3 i x w a b c;⟨u,r.go l,q⟩⟩,F.cell,F.frs⟩
def Fra.ns (F:Fra X κ M δ) (R:Mem X.S κ M h s):∃ m,s.heap.Ns X.env.locals m/\∀ (i:Nat) x w,X.N[i]?=some x->δ[i]?=some (some w)->Vis X.env.scope x->∃ u,RepW X.S M w u/\bU4 X.env κ m x u:=by
 obtain ⟨o,m,h1,⟨es,ep,h2,h3,h4⟩,h5⟩:=F.loc;obtain ⟨_,⟨sl,e⟩,_⟩:=R.k _ _ _ h1;exact ⟨m,⟨_,es,ep,e,h2,h3,h4⟩,h5⟩
def Fra.size (F:Fra X κ M δ) (R:Mem X.S κ M h s):X.S.base.objs.size<=s.heap.objs.size:=by
 obtain ⟨m,hn,_⟩:=F.ns R;exact Nat.le_trans F.ok.bsz (Nat.le_of_lt hn.lt)
def bU6 {i:Nat} (F:Fra X κ M δ) (R:Mem X.S κ M h s) (hi:X.N[i]?=some x) (e:δ[i]?=some (some w)) (hv:Vis X.env.scope x) (hn:eX x=true):Wp X.S X.A (eval (.Name x pos) X.env) (Pw X.S κ M h w) E s:=by
 unfold eX at hn;simp only [Bool.and_eq_true,Bool.not_eq_true'] at hn;obtain ⟨m,hns,hl⟩:=F.ns R;obtain ⟨u,r,l⟩:=hl i x w hi e hv;rcases l with ⟨hk,hm⟩ | ⟨hk,c,o,hc,ho,hd⟩
 ·exact wpAny_Name (wpAny_loadName_local F.ok.kind hk hns hm (R.pw r)) hn.1
 ·have hcell:s.heap.IsCell c (some u):=⟨o,(R.k _ _ _ ho).1 rfl,hd⟩;rcases hk with hk | hk
  ·exact wpAny_Name (wpAny_loadName_cell F.ok.kind hk hc hcell (R.pw r)) hn.1
  ·exact wpAny_Name (wpAny_loadName_free F.ok.kind hk hc hcell (R.pw r) hn.2.1) hn.1
def Gl (X:Cx) (x:Str):Prop:=X.env.kindOf x=some .globalImplicit
def lL {Q:Value->Shared->Prop} (F:Fra X κ M δ) (R:Mem X.S κ M h s) (hg:Gl X x) (hm:X.S.mg x=some u) (hn:eX x=true) (q:Q u s):Wp X.S X.A (eval (.Name x pos) X.env) Q E s:=by
 unfold eX at hn;simp only [Bool.and_eq_true,Bool.not_eq_true'] at hn;exact Calls.Name_function_global F.ok.kind hg (Calls.loadGlobal_global (by rw [F.ok.glob];exact F.ok.mod.glob.keeps R.bk) hm q) hn.1
def bZ {Q:Value->Shared->Prop} (F:Fra X κ M δ) (R:Mem X.S κ M h s) (hg:Gl X x) (hm:X.S.mg x=none) (hv:bootBuiltins x=some u) (hn:eX x=true) (q:Q u s):Wp X.S X.A (eval (.Name x pos) X.env) Q E s:=by
 unfold eX at hn;simp only [Bool.and_eq_true,Bool.not_eq_true'] at hn;obtain ⟨mb,h1,h2⟩:=F.ok.mod.blt;exact Calls.Name_function_global F.ok.kind hg (Calls.loadGlobal_builtin (by rw [F.ok.glob];exact F.ok.mod.glob.keeps R.bk) hm (by rw [F.ok.blt];exact h1.keeps R.bk) ((h2 x (fun z=>by rw [z] at hn;exact absurd hn.2.2 (by decide))).trans hv) q) hn.1
def sD {N:List Str} (hN:N.Nodup) {i j:Nat} {x:Str} (a:N[i]?=some x) (b:N[j]?=some x):i=j:=by
 obtain ⟨h1,e1⟩:=List.getElem?_eq_some_iff.mp a;obtain ⟨h2,e2⟩:=List.getElem?_eq_some_iff.mp b;exact (List.getElem_inj hN).mp (e1.trans e2.symm)
def aH1 {i:Nat} {Md:Model} {Q:Unit->Shared->Prop} (F:Fra X κ M δ) (R:Mem X.S κ M h s) (hi:X.N[i]?=some x) (hx:Loc X.env.scope x) (hf:X.fn=true\/X.env.scope.names.lookup x=some .local) (r:RepW X.S M w u)
  (q:∀ s' κ',Own X κ κ'->Mem X.S κ' M h s'->Fra X κ' M (δ.set i (some w))->(∃ a,Heap.SameBut a s.heap s'.heap/\κ a≠none)->Q () s'):wpAny Md A (storeName X.env x u) Q E s:=by
 have hiδ:i < δ.length:=by rw [F.len];exact (List.getElem?_eq_some_iff.mp hi).1
 have hcls:(X.env.scope.kind==.class||(X.env.scope.kind==.module&&X.env.locals != X.env.globals))=false:=by rw [F.ok.kind];rfl
 obtain ⟨o,m,h1,⟨es,ep,h2,h3,h4⟩,h5⟩:=F.loc;obtain ⟨_,⟨sl,e⟩,_⟩:=R.k _ _ _ h1;have hn:s.heap.Ns X.env.locals m:=⟨_,es,ep,e,h2,h3,h4⟩;rcases hx with hk | hk
 ·refine wpAny_storeName_local hk hn (fun h' hn' hs=>?_) hcls;obtain ⟨o',es',ep',ho',hd',hk',hm'⟩:=hn';refine q _ (κ.up X.env.locals (false,o')) (fun a ha=>?_) (R.own h1 (fun b ob hb q=>(hs.2 b hb).trans q) ho' R.bare rfl) ⟨F.ok,by rw [List.length_set];exact F.len,⟨o',_,fQ,⟨es',ep',hd',hk',hm'⟩,fun j y w' e1 e2 e3=>?_⟩,fun y c ec=>?_,F.frs.up fun vs z=>by rw [hd'] at z;cases z⟩ ⟨_,hs,by rw [h1];exact fun z=>nomatch z⟩
  ·by_cases z:a=X.env.locals
   ·exact .inl z
   ·exact (ha (bG z)).elim
  ·by_cases hj:j=i
   ·subst hj;rw [hi] at e1;cases e1;rw [List.getElem?_set_self hiδ] at e2;cases e2;exact ⟨u,r,.inl ⟨hk,by simp⟩⟩
   ·rw [List.getElem?_set_ne (Ne.symm hj)] at e2;obtain ⟨u',r',l⟩:=h5 j y w' e1 e2 e3;refine ⟨u',r',?_⟩;rcases l with ⟨k,e⟩ | ⟨k,c,oc,ec,eo,ed⟩
    ·have:y≠x:=fun e=>hj (sD F.ok.nd e1 (e ▸ hi));exact .inl ⟨k,by simp [this,e]⟩
    ·exact .inr ⟨k,c,oc,ec,by rw [bG fun z=>by rw [z,h1] at eo;cases eo];exact eo,ed⟩
  ·obtain ⟨oc,v,h6,h7⟩:=F.cell y c ec;exact ⟨oc,v,by rw [bG fun z=>by rw [z,h1] at h6;cases h6];exact h6,h7⟩
 ·have hfn:X.fn=true:=by
   rcases hf with z | z
   ·exact z
   ·rw [z] at hk;cases hk
  obtain ⟨c,hc⟩:=F.ok.has x (.inl hk);obtain ⟨oc,v,h6,h7⟩:=F.cell x c hc;refine wpAny_storeName_cell F.ok.kind hk hc ⟨oc,(R.k _ _ _ h6).1 rfl,h7⟩ (fun h' hc' hs=>?_);obtain ⟨o',ho',hd'⟩:=hc';have nL:X.env.locals≠c:=fun z=>by rw [<- z,h1] at h6;cases h6
  refine q _ (κ.up c (true,o')) (fun a ha=>?_) (R.own h6 (fun b ob hb q=>(hs.2 b hb).trans q) ho' R.bare rfl) ⟨F.ok,by rw [List.length_set];exact F.len,⟨o,m,by rw [bG nL];exact h1,⟨es,ep,h2,h3,h4⟩,fun j y w' e1 e2 e3=>?_⟩,fun y c2 ec=>?_,F.frs.kp fun a ⟨l,env,z1,z2,z3⟩=>bG fun z=>by
   obtain ⟨l',y1,y2⟩:=F.frs;rw [z1] at y1;cases y1;obtain ⟨_,L,o9,y3,y4,_⟩:=y2 env z2;rw [z3] at y3;cases y3;rw [z,h6] at y4;cases y4⟩ ⟨_,hs,by rw [h6];exact fun z=>nomatch z⟩
  ·by_cases z:a=c
   ·exact .inr ⟨hfn,x,z ▸ hc⟩
   ·exact (ha (bG z)).elim
  ·by_cases hj:j=i
   ·subst hj;rw [hi] at e1;cases e1;rw [List.getElem?_set_self hiδ] at e2;cases e2;exact ⟨u,r,.inr ⟨.inl hk,c,o',hc,fQ,hd'⟩⟩
   ·rw [List.getElem?_set_ne (Ne.symm hj)] at e2;obtain ⟨u',r',l⟩:=h5 j y w' e1 e2 e3;refine ⟨u',r',?_⟩;rcases l with l | ⟨k,c2,oc2,ec,eo,ed⟩
    ·exact .inl l
    ·refine .inr ⟨k,c2,oc2,ec,?_,ed⟩;rw [bG fun z=>hj (sD F.ok.nd e1 (by rw [F.ok.inj y x c (by rw [<- z];exact ec) hc];exact hi))];exact eo
  ·by_cases z:c2=c
   ·exact ⟨o',_,by rw [z];exact fQ,hd'⟩
   ·obtain ⟨o2,v2,h8,h9⟩:=F.cell y c2 ec;exact ⟨o2,v2,by rw [bG z];exact h8,h9⟩
end
end DL

namespace L2
open PySem PySem.Spec PyProof.Rows
structure ObjM (h:Heap) (x dx C:Addr) (mA:Str->Option Value):Prop where
 obj:h.get? x=some (PySem.W.instObj C dx)
 ns:h.Ns1 dx mA
 ne:dx≠x

section
variable {prog:Program} {w:World} {A:Around} {E:Value->Shared->Prop} {s:Shared} {K:PySem.W.Frag} {x dx C f:Addr} {mA:Str->Option Value} {name:Str} {v:Value}

end

structure Cls (K:PySem.W.Frag) (C:Addr):Prop where
 pg:PySem.W.plainGet K C Str.empty=true
 hd:PySem.W.hasDictIn K C=true
 po:PySem.W.plainOver K C=true
 sa:PySem.W.findIn K (.ref C) "__setattr__"=some (some (.builtin "object.__setattr__"))
def uN (K:PySem.W.Frag) (C:Addr) (f:Str):Prop:=PySem.W.findIn K (.ref C) f=some none
structure Meth (K:PySem.W.Frag) (C:Addr) (m:Str) (f:Addr):Prop where
 at_:PySem.W.findIn K (.ref C) m=some (some (.ref f))
 fn:PySem.W.isFn K (.ref f)=true
 kp:PySem.W.keepIn K (.ref f)=true
end L2

namespace DL
open PySem PySem.Spec PyProof.Rows L2 CI
noncomputable def oIs:Option Str->Value->Bool
 | some x,v=>Value.isStrOf x v
 | none,.none=>true
 | none,_=>false
def oIs_shape {k:Option Str} {v:Value} (h:oIs k v=true):(∃ x t,k=some x/\v=.str x t)\/(k=none/\v=.none):=by
 cases k with
 | some x =>
  obtain ⟨t,e⟩:=Value.isStrOf_shape (x:=x) (v:=v) h;exact .inl ⟨x,t,rfl,e⟩
 | none=>cases v<;>first | exact .inr ⟨rfl,rfl⟩ | cases h
def qH (x:Str) (t:Tok):oIs (some x) (.str x t)=true:=by simp [oIs,Value.isStrOf]
noncomputable def bU7 (w:World):Option Str->Int
 | some x=>hashStr w x
 | none=>reduceHash 0xFCA86420
def bU8 (prog:Program) (w:World):PySem.KeyKind prog w (Option Str) where
 is:=oIs
 hash:=bU7 w
 inj:=fun v a b ha hb=>by
  rcases oIs_shape ha with ⟨x,t,rfl,rfl⟩ | ⟨rfl,rfl⟩
  ·rcases oIs_shape hb with ⟨y,u,rfl,e⟩ | ⟨rfl,e⟩
   ·injection e with e1 _;rw [e1]
   ·exact nomatch e
  ·rcases oIs_shape hb with ⟨y,u,rfl,e⟩ | ⟨rfl,e⟩
   ·exact nomatch e
   ·rfl
 byValue:=fun k v h=>by
  rcases oIs_shape h with ⟨x,t,rfl,rfl⟩ | ⟨rfl,rfl⟩<;>rfl
 pyHash:=fun {A E s k v Q} hv h=>by
  rcases oIs_shape hv with ⟨x,t,rfl,rfl⟩ | ⟨rfl,rfl⟩
  ·exact wpAny_pyHash_str h
  ·exact PySem.W.pyHash_slot (T:="NoneType") rfl PySem.F.slot_NoneType_hash PySem.F.entry_NoneType_hash (PySem.F.args_NoneType_hash_1 _) (by decide) (.inl rfl) (wpAny_bind (wpAny_pure (wpAny_bind (wpAny_mkInt (wpAny_pure ⟨_,_,rfl,h⟩)))))
 eqBool:=fun {A E s a b u v Q} hu hv h=>by
  rcases oIs_shape hu with ⟨x,t,rfl,rfl⟩ | ⟨rfl,rfl⟩
  ·rcases oIs_shape hv with ⟨y,u,rfl,rfl⟩ | ⟨rfl,rfl⟩
   ·refine wpAny_eqBool_str ?_;have e:decide (some x=some y)=decide (x=y):=by simp
    rwa [e] at h
   ·exact SeqAt.EqAt.str_none x t _ _ _ _ (by simpa using h)
  ·rcases oIs_shape hv with ⟨y,u,rfl,rfl⟩ | ⟨rfl,rfl⟩
   ·exact SeqAt.EqAt.none_str y u _ _ _ _ (by simpa using h)
   ·exact SeqAt.EqAt.same _ _ _ _ _ (by simpa using h)
 «strs»:=fun k x t v h=>by
  rcases oIs_shape h with ⟨y,u,rfl,e⟩ | ⟨rfl,e⟩
  ·injection e with e1 _
   subst e1;cases v<;>rfl
  ·exact nomatch e
structure TabK (S:Sx) (p:Addr) (f:Str->Option PyData):Prop where
 lk:∃ es n,S.K.lookup p=some ⟨.type "dict",none,.dict es n,#[]⟩/\PySem.W.KeysLit S.w.params es.toList/\(∀ x i,f x=some i->∃ u,findBy Value.isStrOf es x=some u/\Rep S S.base.get? i u)/\∀ x,f x=none->findBy Value.isStrOf es x=none
 sm:(p==sysModules)=false
def TabK.map {S:Sx} {p:Addr} {f:Str->Option PyData} {prog:Program} {h:Heap} (T:TabK S p f) (X:S.K.In h):∃ g:Option Str->Option Value,h.MapOf (bU8 prog S.w) p g/\g none=none/\(∀ x i,f x=some i->∃ u,g (some x)=some u/\Rep S S.base.get? i u)/\∀ x,f x=none->g (some x)=none:=by
 obtain ⟨es,n,l,hk,h1,h2⟩:=T.lk;refine ⟨fun k=>findBy oIs es k,⟨_,es,n,X _ _ l,⟨rfl,rfl,rfl⟩,rfl,fun e he=>?_,fun _=>rfl⟩,?_,h1,h2⟩
 ·obtain ⟨x,t,e1,e2⟩:=hk.all e (Array.mem_toList_iff.mpr he);exact ⟨some x,by rw [e1];exact qH x t,e2⟩
 ·unfold findBy;have e:es.find? (fun e=>oIs none e.key)=none:=by
   rw [Array.find?_eq_none];intro e he;obtain ⟨x,t,e1,_⟩:=hk.all e (Array.mem_toList_iff.mpr he);rw [e1];exact Bool.false_ne_true
  show Option.map _ (es.find? fun e=>oIs none e.key)=none;rw [e];rfl
def hU (K:PySem.W.Frag) (fd:FuncData) (ps:List Str):Prop:=∀ (s:Shared) (us:List Value),K.In s.heap->us.length=ps.length->BindsTo s fd ⟨us,[]⟩ (ps.zip us)
def CR (S:Sx) (κ:Kp) (M:Mp) (h:aA) (w:W) (r:Result) (s:Shared):Prop:=∃ u,r=.ok (.ret u)/\Pw S κ M h w u s
structure FnS (S:Sx) (d:Nat) (f:Addr) (fd:FuncData) (ps:List Str) (m:XFW):Prop where
 len:∀ ws h r,m ws h=some r->ws.length=ps.length
 run:∀ {A:Around} {κ:Kp} {M:Mp} {h h':aA} {s:Shared} {args:Args} {us:List Value} {ws:List W} {w:W},Room d A->FrO κ A->Mod S->S.base.objs.size<=s.heap.objs.size->Mem S κ M h s->BindsTo s fd args (ps.zip us)->RepWs S M ws us->m ws h=some (w,h') ->
  codeAny (model S.P S.w) A (.call (.ref f) args) (CR S κ M h' w) s
def FnG (S:Sx) (d:Nat) (x:Str) (m:XFW):Prop:=(∀ ws h,m ws h=none)\/∃ f fd ps,S.mg x=some (.ref f)/\PySem.W.keepIn S.K (.ref f)=true/\hU S.K fd ps/\FnS S d f fd ps m
abbrev toW (m:XF):XFW:=fun ws h=>(m ws h).bind fun p=>some (.d p.1,p.2)
structure Mk (K:PySem.W.Frag) (C f:Addr):Prop where
 makes:PySem.W.makesIn K C=true
 init:PySem.W.findIn K (.ref C) "__init__"=some (some (.ref f))
 fn:PySem.W.isFn K (.ref f)=true
 kp:PySem.W.keepIn K (.ref C)=true
structure TbS (S:Sx) (c0:Addr) (pos:Pos):Prop where
 hd:PySem.W.codeHdIn S.K c0 S.tp=true
 tr:TriplesOk S.tb.toList
 no:codeAmong pos S.tb.toList=none
 bm:S.base.BuiltinsAt S.mg S.tp
structure LamOk (X:Cx) (d:Nat) (q:Str×Pos):Prop where
 qual:X.env.qual=q.1
 code:∃ c0,X.env.code=.ref c0/\TbS X.S c0 q.2
 dp:X.A.depth+3*d+7 < recursionLimit
 un:X.A.units+16*d+212 < cLine
structure Good (X:Cx) (st:Sta) (d:Nat):Prop where
 bl:∀ x,st.bl.contains x=true->X.S.mg x=none
 gc:∀ x z,st.gc x=some z->∃ u,X.S.mg x=some u/\Rep X.S X.S.base.get? z u
 tk:∀ x f,st.tk x=some f->∃ p,X.S.mg x=some (.ref p)/\TabK X.S p f
 fn:∀ x m,st.fn x=some m->FnG X.S d x (toW m)
 fnW:∀ x m,st.ob.fnW x=some m->FnG X.S d x m
 cls:∀ x C m,st.ob.cls x=some (C,m)->(∀ ws h,m ws h=none)\/∃ k f fd ps,k+1<=d/\Mk X.S.K C f/\FnS X.S k f fd ps m/\X.S.mg x=some (.ref C)/\hU X.S.K fd ps
 om:∀ x C m,st.ob.om x=some (C,m)->(∀ ws h,m ws h=none)\/(Cls X.S.K C/\∃ f fd ps,Meth X.S.K C x f/\FnS X.S d f fd ps m/\hU X.S.K fd ps)
 fo:∀ C f,st.ob.fo C f=true->Cls X.S.K C/\uN X.S.K C f
 N:X.N=st.N
 S:X.env.scope=st.S
 top:st.top=true->X.fn=true
 rm:Room d X.A
 qn:∀ q,st.qn=some q->LamOk X d q
def Pt (S:Sx) (κ:Kp) (M:Mp) (h:aA) (b:Bool) (c:Bool) (s:Shared):Prop:=c=b/\∃ M',Le M M'/\Mem S κ M' h s
def Pa (S:Sx) (κ:Kp) (M:Mp) (h:aA) (ws:List W) (us:List Value) (s:Shared):Prop:=∃ M',Le M M'/\Mem S κ M' h s/\RepWs S M' ws us
def SE (X:Cx) (e:Expr) (f:XR W):Prop:=∀ ⦃κ M δ h s w h'⦄,Mem X.S κ M h s->Fra X κ M δ->f δ h=some (w,h')->Wp X.S X.A (eval e X.env) (Pw X.S κ M h' w) NE s
def SF (X:Cx) (e:Expr) (f:XR (List PyData)):Prop:=∀ ⦃κ M δ h s w h'⦄,Mem X.S κ M h s->Fra X κ M δ->f δ h=some (w,h')->Wp X.S X.A (eval e X.env) (Pf X.S κ M h' w) NE s
def ST (X:Cx) (e:Expr) (f:XR Bool):Prop:=∀ ⦃κ M δ h s w h'⦄,Mem X.S κ M h s->Fra X κ M δ->f δ h=some (w,h')->Wp X.S X.A (isTrue e X.env (eval e X.env)) (Pt X.S κ M h' w) NE s
def SW (X:Cx) (e:Expr) (f:XR Bool):Prop:=∀ (wh:Sem Value) ⦃κ M δ h s w h'⦄,Mem X.S κ M h s->Fra X κ M δ->f δ h=some (w,h')->Wp X.S X.A (isTrue e X.env wh) (Pt X.S κ M h' w) NE s
def SA (X:Cx) (es:List Expr) (f:XR (List W)):Prop:=∀ (pos:Pos) ⦃κ M δ h s ws h'⦄,Mem X.S κ M h s->Fra X κ M δ->f δ h=some (ws,h')->Wp X.S X.A (spliced (backTo pos (starEach es X.env))) (Pa X.S κ M h' ws) NE s
def SO (X:Cx) (e:Option Expr) (f:XR (Option Int)):Prop:=∀ ⦃κ M δ h s o h'⦄,Mem X.S κ M h s->Fra X κ M δ->f δ h=some (o,h')->Wp X.S X.A (evalPart e X.env) (fun u s'=>IsPart u o/\∃ M',Le M M'/\Mem X.S κ M' h' s') NE s
def SG (X:Cx) (tg:Expr) (g:XG):Prop:=∀ ⦃κ M δ h s w u δ' h'⦄,Mem X.S κ M h s->Fra X κ M δ->RepW X.S M w u->g w δ h=some (δ',h')->Wp X.S X.A (assign tg X.env u) (fun _ s'=>∃ κ' M',Own X κ κ'/\Le M M'/\Mem X.S κ' M' h' s'/\Fra X κ' M' δ') NE s
def Fw (X:Cx) (κ:Kp) (M:Mp):Fl->Flow->Prop
 | .nx δ,.next=>Fra X κ M δ
 | .bk δ,.brk=>Fra X κ M δ
 | .ct δ,.cont=>Fra X κ M δ
 | .rt w,.ret u=>RepW X.S M w u
 | _,_=>False
def Ps (X:Cx) (κ:Kp) (M:Mp) (h:aA) (fl:Fl) (f:Flow) (s:Shared):Prop:=∃ κ' M',Own X κ κ'/\Le M M'/\Mem X.S κ' M' h s/\Fw X κ' M' fl f
def SS (X:Cx) (st:Stmt) (f:XS):Prop:=∀ ⦃κ M δ h s fl h'⦄,Mem X.S κ M h s->Fra X κ M δ->f δ h=some (fl,h')->Wp X.S X.A (exec st X.env) (Ps X κ M h' fl) NE s
def SSs (X:Cx) (st:List Stmt) (f:XS):Prop:=∀ ⦃κ M δ h s fl h'⦄,Mem X.S κ M h s->Fra X κ M δ->f δ h=some (fl,h')->Wp X.S X.A (execs st X.env) (Ps X κ M h' fl) NE s
structure Snd (v:Evs):Prop where
 E:∀ {X st d},Good X st d->∀ e,SE X e (v.E st e)
 T:∀ {X st d},Good X st d->∀ e,ST X e (v.T st e)
 F:∀ {X st d},Good X st d->∀ e,SF X e (v.F st e)
 G:∀ {X st d},Good X st d->∀ e,SG X e (v.G st e)
 S:∀ {X st d},Good X st d->∀ s,SS X s (v.S st s)
section
variable {X:Cx} {st:Sta} {d:Nat} {x:Str} {v:Evs} {a b c t:Expr} {pos:Pos} {es:List Expr} {κ:Kp} {M:Mp} {δ:DSt} {h h':aA} {s:Shared} {w:W} {E:Value->Shared->Prop}
def aF {α β:Type} {f:XR α} {g:α->XR β} {r:β×aA} (e:xb f g δ h=some r):∃ p h1,f δ h=some (p,h1)/\g p δ h1=some r:=let ⟨⟨p,h1⟩,e1,e2⟩:=bind_some e;⟨p,h1,e1,e2⟩
def lM (G:Good X st d) {i:Nat} (e:slot st x=some i):X.N[i]?=some x:=by
 rw [G.N];obtain ⟨h1,h2,_⟩:=List.findIdx?_eq_some_iff_getElem.mp e;rw [List.getElem?_eq_getElem h1,eq_of_beq h2]
def bH7 (G:Good X st d) (h:bG1 st.S x=true):Vis X.env.scope x:=by
 unfold Vis;rw [G.S];unfold bG1 at h;split at h
 ·rename_i e;exact .inl e
 ·rename_i e;exact .inr (.inl e)
 ·rename_i e;exact .inr (.inr e)
 ·cases h
def aH2 (G:Good X st d) (h:(qA st.S x&&(st.top||dJ st.S x))=true):Loc X.env.scope x/\(X.fn=true\/X.env.scope.names.lookup x=some .local):=by
 rw [Bool.and_eq_true,Bool.or_eq_true] at h;obtain ⟨h1,h2⟩:=h;unfold Loc;rw [G.S];refine ⟨?_,?_⟩
 ·unfold qA at h1;split at h1
  ·rename_i e;exact .inl e
  ·rename_i e;exact .inr e
  ·cases h1
 ·rcases h2 with h2 | h2
  ·exact .inl (G.top h2)
  ·unfold dJ at h2;split at h2
   ·rename_i e;exact .inr e
   ·cases h2
def qI (G:Good X st d) (h:cL st x=true):eX x=true/\Gl X x:=by
 unfold cL at h;rw [Bool.and_eq_true] at h;refine ⟨h.1,?_⟩;unfold Gl Env.kindOf;rw [G.S];have h2:=h.2;unfold glB at h2;split at h2
 ·rename_i e;exact e
 ·cases h2
def dH {e:Expr}:SE X e xno:=fun _ _ _ _ _ _ _ _ _ e=>by cases e
def aH3 (G:Good X st d):SE X (.Name x pos) (wO st x):=by
 unfold wO;split
 ·rename_i hn;split
  ·rename_i i hi;split
   ·rename_i hv;intro κ M δ h s w h' R F e;unfold aB at e;split at e
    ·rename_i e';cases e;exact bU6 F R (lM G hi) e' (bH7 G hv) hn
    ·cases e
   ·exact dH
  ·split
   ·rename_i z hz;split
    ·rename_i hg;intro κ M δ h s w h' R F e;cases e;obtain ⟨u,m,r⟩:=G.gc _ _ hz;exact lL F R (qI G (by unfold cL;rw [hn,hg];rfl)).2 m hn (R.pw (Rep.go R.base r))
    ·exact dH
   ·exact dH
 ·exact dH
def aU4 {c:Const} {j:Nat}:SE X (.Constant c j pos) (aF6 c):=by
 intro κ M δ h s w h' R F e;cases c with
 | none=>cases e;exact Constant_none R.pn
 | bool b=>cases e;exact Constant_bool R.pb
 | int i=>cases e;exact wpAny_Constant_int R.pi
 | str x =>
  have e:(if PyData.strOk x=true then aC (.d (.str x)) else xno:XR W) δ h=some (w,h'):=e
  by_cases hx:PyData.strOk x=true
  case neg=>rw [if_neg hx] at e;cases e
  rw [if_pos hx] at e;cases e;exact Calls.Constant_str ((R.tok _).pw (show Rep X.S M.Z _ _ from rep_s.mpr ⟨⟨_,rfl⟩,hx⟩))
 | _=>cases e
def two {fa fb:XR W} {k:W->W->aA->Option (W×aA)} (ha:SE X a fa) (hb:SE X b fb) {f:Value->Value->Sem Value} {r:W×aA} (R:Mem X.S κ M h s) (F:Fra X κ M δ) (e:xb fa (fun u=>xb fb fun w=>fun _ h=>k u w h) δ h=some r)
  (hf:∀ {M1 h1 s1 x y u v},Mem X.S κ M1 h1 s1->Fra X κ M1 δ->RepW X.S M1 x u->RepW X.S M1 y v->k x y h1=some r->Wp X.S X.A (f u v) (Pw X.S κ M1 r.2 r.1) NE s1) :
  Wp X.S X.A (eval a X.env) (fun u s₁=>Wp X.S X.A (eval b X.env) (fun v s₂=>Wp X.S X.A (f u v) (Pw X.S κ M r.2 r.1) NE s₂) NE s₁) NE s:=by
 obtain ⟨x,h1,e1,e⟩:=aF e;obtain ⟨y,h2,e2,e⟩:=aF e;refine thn (ha R F e1) fun u s1 ⟨M1,l1,R1,r1⟩=>thn (hb R1 (F.go l1) e2) fun v s2 ⟨M2,l2,R2,r2⟩=>?_;exact thn (hf R2 ((F.go l1).go l2) (r1.go l2) r2 e) fun _ _ q=>q.go (l1.trans l2)
def bU9 (S:Snd v) (G:Good X st d) {op:Operator}:SE X (.BinOp a op b pos) (xb (v.E st a) fun u=>xb (v.E st b) fun w=>fun _ h=>hZ op u w h):=fun _ _ _ _ _ _ _ R F e =>
 wpAny_BinOp (two (S.E G a) (S.E G b) R F e fun R1 _ ra rb e=>bin_ok R1 ra rb e)
theorem bV0 (S:Snd v) (G:Good X st d):SE X (.UnaryOp .Not a pos) (xb (v.E st a) fun w=>(match w with
  | .d (.bool b)=>aC (.d (.bool (!b)))
  | _=>xno)):=by
 intro κ M δ h s w h' R F e;obtain ⟨x,h1,e1,e⟩:=aF e;refine UnaryOp_ (thn (S.E G a R F e1) fun u s1 ⟨M1,l1,R1,r1⟩=>?_);obtain ⟨b,rfl,e⟩:∃ b,x=.d (.bool b)/\aC (.d (.bool (!b))) δ h1=some (w,h'):=by rcases x with (_ | b | _ | _ | _ | _ | _) | _<;>first | cases e;done | exact ⟨_,rfl,e⟩
 cases e;cases wb.mp r1;exact not_of (wpAny_truthy_bool (R1.pb.go l1))
theorem bV1 (S:Snd v) (G:Good X st d):SE X (.UnaryOp .USub a pos) (xb (v.E st a) fun w=>(match w with
  | .d (.int i)=>aC (.d (.int (-i)))
  | _=>xno)):=by
 intro κ M δ h s w h' R F e;obtain ⟨x,h1,e1,e⟩:=aF e;refine UnaryOp_ (thn (S.E G a R F e1) fun u s1 ⟨M1,l1,R1,r1⟩=>?_);obtain ⟨b,rfl,e⟩:∃ b,x=.d (.int b)/\aC (.d (.int (-b))) δ h1=some (w,h'):=by rcases x with (_ | b | _ | _ | _ | _ | _) | _<;>first | cases e;done | exact ⟨_,rfl,e⟩
 cases e;exact thn (bH5 R1 r1) fun _ _ q=>q.go l1
def bV2 (S:Snd v) (G:Good X st d):SE X (.IfExp c a b pos) (xb (v.T st c) fun t=>if t=true then v.E st a else v.E st b):=by
 intro κ M δ h s w h' R F e;obtain ⟨x,h1,e1,e⟩:=aF e;refine wpAny_IfExp (thn (S.T G c R F e1) fun t s1 ⟨et,M1,l1,R1⟩=>?_);subst et;cases t with
 | true=>exact thn (S.E G a R1 (F.go l1) e) fun _ _ q=>q.go l1
 | false=>exact thn (S.E G b R1 (F.go l1) e) fun _ _ q=>q.go l1
theorem aH4 (S:Snd v) (G:Good X st d):∀ vs,SE X (.BoolOp .And vs pos) (aF7 v st vs)
 | []=>fun _ _ _ _ _ _ _ R F e=>by cases e
 | [a]=>fun _ _ _ _ _ _ _ R F e=>BoolOp_one (S.E G a R F e)
 | a::b::r=>by
  intro κ M δ h s w h' R F e;obtain ⟨x,h1,e1,e⟩:=aF e;refine BoolOp_and (thn (S.E G a R F e1) fun u s1 ⟨M1,l1,R1,r1⟩=>?_);rcases x with (_ | b | _ | _ | _ | _ | _) | _<;>first | cases e;done | skip
  cases wb.mp r1;cases b
  ·cases e;exact wpAny_truthy_bool (R1.pb.go l1)
  ·exact wpAny_truthy_bool (thn (aH4 S G _ R1 (F.go l1) e) fun _ _ q=>q.go l1)
theorem bD1 (S:Snd v) (G:Good X st d):∀ vs,SE X (.BoolOp .Or vs pos) (bG6 v st vs)
 | []=>fun _ _ _ _ _ _ _ R F e=>by cases e
 | [a]=>fun _ _ _ _ _ _ _ R F e=>BoolOp_one (S.E G a R F e)
 | a::b::r=>by
  intro κ M δ h s w h' R F e;obtain ⟨x,h1,e1,e⟩:=aF e;refine BoolOp_or (thn (S.E G a R F e1) fun u s1 ⟨M1,l1,R1,r1⟩=>?_);rcases x with (_ | b | _ | _ | _ | _ | _) | _<;>first | cases e;done | skip
  cases wb.mp r1;cases b
  ·exact wpAny_truthy_bool (thn (bD1 S G _ R1 (F.go l1) e) fun _ _ q=>q.go l1)
  ·cases e;exact wpAny_truthy_bool (R1.pb.go l1)
def Pt.go {S:Sx} {M M':Mp} {b c:Bool} (l:Le M M') (p:Pt S κ M' h b c s):Pt S κ M h b c s:=let ⟨e,N,a,b⟩:=p;⟨e,N,l.trans a,b⟩
theorem bD2 (S:Snd v) (G:Good X st d):∀ vs,SW X (.BoolOp .And vs pos) (aF8 v st vs)
 | []=>fun _ _ _ _ _ _ _ _ R F e=>by cases e
 | [a]=>fun wh _ _ _ _ _ _ _ R F e=>isTrue_and (thn (S.T G a R F e) fun c s1 q=>by
  cases c with
  | true=>exact isTrue_and_nil q
  | false=>exact q)
 | a::b::r=>by
  intro wh κ M δ h s w h' R F e;obtain ⟨x,h1,e1,e⟩:=aF e;refine isTrue_and (thn (S.T G a R F e1) fun t s1 ⟨et,M1,l1,R1⟩=>?_);subst et;cases t with
  | true=>exact thn (bD2 S G (b::r) wh R1 (F.go l1) e) fun _ _ q=>q.go l1
  | false=>cases e;exact ⟨rfl,M1,l1,R1⟩
theorem bV3 (S:Snd v) (G:Good X st d):∀ vs,SW X (.BoolOp .Or vs pos) (bG7 v st vs)
 | []=>fun _ _ _ _ _ _ _ _ R F e=>by cases e
 | [a]=>fun wh _ _ _ _ _ _ _ R F e=>isTrue_or (thn (S.T G a R F e) fun c s1 q=>by
  cases c with
  | false=>exact isTrue_or_nil q
  | true=>exact q)
 | a::b::r=>by
  intro wh κ M δ h s w h' R F e;obtain ⟨x,h1,e1,e⟩:=aF e;refine isTrue_or (thn (S.T G a R F e1) fun t s1 ⟨et,M1,l1,R1⟩=>?_);subst et;cases t with
  | true=>cases e;exact ⟨rfl,M1,l1,R1⟩
  | false=>exact thn (bV3 S G (b::r) wh R1 (F.go l1) e) fun _ _ q=>q.go l1
def aH5 (G:Good X st d) {f:Str->Option PyData} (e:jI st b=some f):∃ y p p',b=.Name y p'/\eX y=true/\Gl X y/\X.S.mg y=some (.ref p)/\TabK X.S p f:=by
 unfold jI at e;cases b<;>first | (cases e;done) | skip
 obtain ⟨ht,e⟩:=aE e;rw [Bool.and_eq_true] at ht;obtain ⟨h1,h2⟩:=qI G ht.1;obtain ⟨p,h3,h4⟩:=G.tk _ _ e;exact ⟨_,p,_,rfl,h1,h2,h3,h4⟩
def bV4 (S:Snd v) (G:Good X st d) {f:Str->Option PyData} (hf:jI st b=some f) {r:Bool×aA} (R:Mem X.S κ M h s) (F:Fra X κ M δ) (e:kW f (v.E st a) δ h=some r) :
  behindInMarks .NotIn b=false/\Wp X.S X.A (eval a X.env) (fun u s₁=>Wp X.S X.A (eval b X.env) (fun v s₂=>Wp X.S X.A (compareOp .NotIn u v) (Pw X.S κ M r.2 (.d (.bool r.1))) NE s₂) NE s₁) NE s:=by
 obtain ⟨y,p,p',rfl,hn,hg,hm,T⟩:=aH5 G hf;refine ⟨rfl,?_⟩;obtain ⟨x,h1,e1,e⟩:=aF e;refine thn (S.E G a R F e1) fun u s1 ⟨M1,l1,R1,r1⟩=>lL (F.go l1) R1 hg hm hn ?_;obtain ⟨g,m,g0,g1,g2⟩:=T.map (prog:=X.S.P) (F.ok.mod.kin.keeps R1.bk);rcases x with (_ | _ | _ | z | _ | _ | _) | _<;>first | cases e;done | skip
 ·cases e;cases wn.mp r1;refine wpAny_notIn_of (k:=none) rfl T.sm m ?_;rw [g0];exact (R1.tok _).pb.go l1
 ·cases e;obtain ⟨⟨t,rfl⟩,_⟩:=rep_s.mp (show Rep X.S M1.Z _ _ from r1);refine wpAny_notIn_of (k:=some z) (qH z t) T.sm m ?_;have eg:(g (some z)).isSome=(f z).isSome:=by
   cases q:f z with
   | none=>rw [g2 z q];rfl
   | some i=>obtain ⟨t',q',_⟩:=g1 z i q;rw [q'];rfl
  rw [eg];exact (R1.tok _).pb.go l1
def bD3 (S:Snd v) (G:Good X st d) {op:CmpOp} {r:Bool×aA} (R:Mem X.S κ M h s) (F:Fra X κ M δ) (e:fW v st a [op] [b] δ h=some r) :
  behindInMarks op b=false/\Wp X.S X.A (eval a X.env) (fun u s₁=>Wp X.S X.A (eval b X.env) (fun v s₂=>Wp X.S X.A (compareOp op u v) (Pw X.S κ M r.2 (.d (.bool r.1))) NE s₂) NE s₁) NE s:=by
 cases hf:jI st b with
 | some f =>
  have e:(match jI st b with
   | some f=>if op=CmpOp.NotIn then kW f (v.E st a) else xno
   | none=>if behindInMarks op b=true then xno else xC1 op (v.E st a) (v.E st b)) δ h=some r:=e
  rw [hf] at e
  by_cases ho:op=CmpOp.NotIn
  ·subst ho;exact bV4 S G hf R F e
  ·have e:(if op=CmpOp.NotIn then kW f (v.E st a) else xno) δ h=some r:=e;rw [if_neg ho] at e;cases e
 | none =>
  have e:(match jI st b with
   | some f=>if op=CmpOp.NotIn then kW f (v.E st a) else xno
   | none=>if behindInMarks op b=true then xno else xC1 op (v.E st a) (v.E st b)) δ h=some r:=e
  rw [hf] at e;have e:(if behindInMarks op b=true then xno else xC1 op (v.E st a) (v.E st b)) δ h=some r:=e
  by_cases hb:behindInMarks op b=true
  ·rw [if_pos hb] at e;cases e
  ·rw [if_neg hb] at e;refine ⟨by simpa using hb,?_⟩;obtain ⟨x,h1,e1,e⟩:=aF e;obtain ⟨y,h2,e2,e⟩:=aF e;refine thn (S.E G a R F e1) fun u s1 ⟨M1,l1,R1,r1⟩=>thn (S.E G b R1 (F.go l1) e2) fun v s2 ⟨M2,l2,R2,r2⟩=>?_;obtain ⟨q1,q2⟩:=iA (A:=X.A) (E:=NE) G.rm R2 (r1.go l2) r2 e;rw [q1];exact thn q2 fun _ _ q=>q.go (l1.trans l2)
def bH8 (S:Snd v) (G:Good X st d) {op op':CmpOp} {p:Bool×aA} (hm:lastMarks [op,op'] [b,c]=false) (R:Mem X.S κ M h s) (F:Fra X κ M δ) (e:xC2 op op' (v.E st a) (v.E st b) (v.E st c) δ h=some p):Wp X.S X.A (eval (.Compare a [op,op'] [b,c] pos) X.env) (Pw X.S κ M p.2 (.d (.bool p.1))) NE s:=by
 obtain ⟨x,h1,e1,e⟩:=aF e;obtain ⟨y,h2,e2,e⟩:=aF e;obtain ⟨p1,e3,e⟩:=bind_some e;refine Compare_chain (thn (S.E G a R F e1) fun u s1 ⟨M1,l1,R1,r1⟩=>chain_link (thn (S.E G b R1 (F.go l1) e2) fun v s2 ⟨M2,l2,R2,r2⟩=>?_)) hm;obtain ⟨q1,q2⟩:=iA (A:=X.A) (E:=NE) G.rm R2 (r1.go l2) r2 e3;obtain ⟨k,h3⟩:=p1;cases q1;refine thn q2 fun k' s3 ⟨M3,l3,R3,r3⟩=>?_;cases wb.mp r3;refine wpAny_truthy_bool ?_;dsimp only at e;cases k with
 | false=>cases e;exact ite_ff (R3.pb.go (l1.trans (l2.trans l3)))
 | true =>
  obtain ⟨⟨z,h4⟩,e4,e⟩:=bind_some e;refine ite_tt (chain_last (thn (S.E G c R3 ((F.go l1).go (l2.trans l3)) e4) fun t s4 ⟨M4,l4,R4,r4⟩=>?_));obtain ⟨q5,q6⟩:=iA (A:=X.A) (E:=NE) G.rm R4 (r2.go (l3.trans l4)) r4 e;rw [q5];exact thn q6 fun _ _ q=>q.go (l1.trans (l2.trans (l3.trans l4)))
def bH9 (S:Snd v) (G:Good X st d) {op op':CmpOp} {p:Bool×aA} (hm:lastMarks [op,op'] [b,c]=false) (R:Mem X.S κ M h s) (F:Fra X κ M δ) (e:xC2 op op' (v.E st a) (v.E st b) (v.E st c) δ h=some p) {wh:Sem Value}:Wp X.S X.A (isTrue (.Compare a [op,op'] [b,c] pos) X.env wh) (Pt X.S κ M p.2 p.1) NE s:=by
 obtain ⟨x,h1,e1,e⟩:=aF e;obtain ⟨y,h2,e2,e⟩:=aF e;obtain ⟨p1,e3,e⟩:=bind_some e;refine isTrue_chain (thn (S.E G a R F e1) fun u s1 ⟨M1,l1,R1,r1⟩=>test_link (thn (S.E G b R1 (F.go l1) e2) fun v s2 ⟨M2,l2,R2,r2⟩=>?_)) hm;obtain ⟨q1,q2⟩:=iA (A:=X.A) (E:=NE) G.rm R2 (r1.go l2) r2 e3;obtain ⟨k,h3⟩:=p1;cases q1;refine thn q2 fun k' s3 ⟨M3,l3,R3,r3⟩=>?_;cases wb.mp r3;refine wpAny_truthy_bool ?_;dsimp only at e;cases k with
 | false=>cases e;exact ite_ff ⟨rfl,M3,l1.trans (l2.trans l3),R3⟩
 | true =>
  obtain ⟨⟨z,h4⟩,e4,e⟩:=bind_some e;refine ite_tt (test_last (thn (S.E G c R3 ((F.go l1).go (l2.trans l3)) e4) fun t s4 ⟨M4,l4,R4,r4⟩=>?_));obtain ⟨q5,q6⟩:=iA (A:=X.A) (E:=NE) G.rm R4 (r2.go (l3.trans l4)) r4 e;refine thn q6 fun k2 s5 ⟨M5,l5,R5,r5⟩=>?_;cases wb.mp r5;rw [q5];exact wpAny_truthy_bool ⟨rfl,M5,l1.trans (l2.trans (l3.trans (l4.trans l5))),R5⟩
def kZ (S:Snd v) (G:Good X st d) {ops:List CmpOp} {cs:List Expr}:SE X (.Compare a ops cs pos) (aX (fW v st a ops cs)):=by
 intro κ M δ h s w h' R F e;obtain ⟨p,e2,ew⟩:=map_some (show (fW v st a ops cs δ h).map asW=_ from e);cases ew;clear e;have e:=e2;clear e2;rcases ops with _ | ⟨op,_ | ⟨op',_ | ⟨_,_⟩⟩⟩
 ·cases e
 ·rcases cs with _ | ⟨b,_ | ⟨_,_⟩⟩
  ·cases e
  ·obtain ⟨q1,q2⟩:=bD3 S G R F e;exact wpAny_Compare1 q2 q1
  ·cases e
 ·rcases cs with _ | ⟨b,_ | ⟨c,_ | ⟨_,_⟩⟩⟩
  ·cases e
  ·cases e
  ·have e:(if lastMarks [op,op'] [b,c]=true then xno else xC2 op op' (v.E st a) (v.E st b) (v.E st c)) δ h=some _:=e
   by_cases hm:lastMarks [op,op'] [b,c]=true
   ·rw [if_pos hm] at e;cases e
   ·rw [if_neg hm] at e;exact bH8 S G (by simpa using hm) R F e
  ·cases e
 ·cases e
def bV5 (S:Snd v) (G:Good X st d) {ops:List CmpOp} {cs:List Expr}:ST X (.Compare a ops cs pos) (fW v st a ops cs):=by
 intro κ M δ h s w h' R F e;rcases ops with _ | ⟨op,_ | ⟨op',_ | ⟨_,_⟩⟩⟩
 ·cases e
 ·rcases cs with _ | ⟨b,_ | ⟨_,_⟩⟩
  ·cases e
  ·obtain ⟨q1,q2⟩:=bD3 S G R F e;refine wpAny_isTrue_Compare1 (thn q2 fun u s1 q=>thn q fun v s2 q=>thn q fun k s3 ⟨M3,l3,R3,r3⟩=>?_) q1;cases wb.mp r3;exact wpAny_truthy_bool ⟨rfl,M3,l3,R3⟩
  ·cases e
 ·rcases cs with _ | ⟨b,_ | ⟨c,_ | ⟨_,_⟩⟩⟩
  ·cases e
  ·cases e
  ·have e:(if lastMarks [op,op'] [b,c]=true then xno else xC2 op op' (v.E st a) (v.E st b) (v.E st c)) δ h=some _:=e
   by_cases hm:lastMarks [op,op'] [b,c]=true
   ·rw [if_pos hm] at e;cases e
   ·rw [if_neg hm] at e;exact bH9 S G (by simpa using hm) R F e
  ·cases e
 ·cases e
def bU (e:Expr) (hs:aH e=true):starEach (e::es) X.env=(false,eval e X.env)::starEach es X.env:=by
 cases e<;>first | rfl | cases hs
theorem cG (S:Snd v) (G:Good X st d):∀ es,SA X es (aS v st es)
 | []=>fun pos _ _ _ _ _ _ _ R F e=>by cases e;exact Calls.spliced_nil ⟨_,.refl,R,.nil⟩
 | a::es=>by
  intro pos κ M δ h s ws h' R F e;have e:(if aH a=true then xb (v.E st a) fun w=>xb (aS v st es) fun ws=>aC (w::ws) else xno) δ h=some (ws,h'):=e
  by_cases hs:aH a=true
  ·rw [if_pos hs] at e;obtain ⟨x,h1,e1,e⟩:=aF e;obtain ⟨y,h2,e2,e⟩:=aF e;cases e;rw [bU a hs];show Wp _ _ (spliced ((false,eval a X.env)::backTo pos (starEach es X.env))) _ _ s;refine Calls.spliced_cons (thn (S.E G a R F e1) fun u s1 ⟨M1,l1,R1,r1⟩=>?_);exact thn (cG S G es pos R1 (F.go l1) e2) fun us s2 ⟨M2,l2,R2,r2⟩=>⟨M2,l1.trans l2,R2,.cons (r1.go l2) r2⟩
  ·rw [if_neg hs] at e;cases e
theorem eO {v:Evs} {st:Sta}:∀ {es:List Expr} {δ:DSt} {h:aA} {r:List W×aA},aS v st es δ h=some r->es.all aH=true
 | [],_,_,_,_=>rfl
 | a::es,δ,h,r,e=>by
  have e:(if aH a=true then xb (v.E st a) fun w=>xb (aS v st es) fun ws=>aC (w::ws) else xno) δ h=some r:=e
  by_cases hs:aH a=true
  ·rw [if_pos hs] at e;obtain ⟨x,h1,e1,e⟩:=aF e;obtain ⟨y,h2,e2,e⟩:=aF e;rw [List.all_cons,hs,eO e2];rfl
  ·rw [if_neg hs] at e;cases e
theorem dQ (pos:Pos):∀ (es:List Expr),es.all aH=true->(backTo pos (starEach es X.env)).any (·.1)=false
 | [],_=>rfl
 | e::es,h=>by
  rw [List.all_cons,Bool.and_eq_true] at h;have:=dQ pos es h.2;rw [bU e h.1];show (false||(backTo pos (starEach es X.env)).any (·.1))=false;rw [this];rfl
theorem mH {S:Sx} {M:Mp}:∀ {ws:List W} {xs:List PyData} {us:List Value},hX ws=some xs->RepWs S M ws us->Reps' S M xs us
 | [],_,_,e,h=>by cases e;cases h;exact .nil
 | .d x::ws,_,_,e,h=>by
  unfold hX at e;obtain ⟨ys,q,rfl⟩:=map_some e;cases h with
  | cons a t=>exact .cons a (mH q t)
 | .c _::ws,_,_,e,h=>by cases e
def wT (S:Snd v) (G:Good X st d) {xs:List PyData} {Q:List Value->Shared->Prop} (R:Mem X.S κ M h s) (F:Fra X κ M δ) (e:xPl (aS v st es) δ h=some (xs,h'))
  (q:∀ {M1 s1 us},Le M M1->Mem X.S κ M1 h' s1->Reps' X.S M1 xs us->us.length<=sizeLine->Q us s1):Wp X.S X.A (spliced (backTo pos (starEach es X.env))) Q NE s:=by
 obtain ⟨ws,h1,e1,e⟩:=aF e;refine thn (cG S G es pos R F e1) fun us s1 ⟨M1,l1,R1,r1⟩=>?_;split at e
 ·rename_i ys ey;obtain ⟨hl,e⟩:=aE e;cases e;have r:=mH ey r1;exact q l1 R1 r (by rw [<- r.length];exact hl)
 ·cases e
def bV6 (S:Snd v) (G:Good X st d) {k}:SE X (.Tuple es k pos) (xb (xPl (aS v st es)) fun xs=>aC (.d (.tuple xs))):=by
 intro κ M δ h s w h' R F e;obtain ⟨x,h1,e1,e⟩:=aF e;cases e;exact wpAny_Tuple_spliced (wT S G R F e1 fun l1 R1 r z=>⟨z,(R1.tup (t:=_) r z).go l1⟩)
def bI0 (S:Snd v) (G:Good X st d):SF X (.List es pos) (xPl (aS v st es)):=by
 intro κ M δ h s w h' R F e;refine wpAny_List_spliced (wT S G R F e fun {M1 s1 us} l1 R1 r z=>⟨z,?_⟩);obtain ⟨N,a,b⟩:=R1.lstP (t:=s1.toks) (n:=0) r z;exact ⟨N,l1.trans a,b⟩
theorem bD4 (S:Snd v) (G:Good X st d):∀ o,SO X o (uI v st o)
 | none=>fun _ _ _ _ _ _ _ R F e=>by cases e;rw [evalPart_none];exact wpAny_pure ⟨.none,_,.refl,R⟩
 | some a=>by
  intro κ M δ h s o h' R F e;obtain ⟨x,h1,e1,e⟩:=aF (show xb (v.E st a) (fun w=>match w with
   | .d (.int i)=>aC (some i)
   | _=>xno) δ h=some (o,h') from e)
  rw [evalPart_some];refine thn (S.E G a R F e1) fun u s1 ⟨M1,l1,R1,r1⟩=>?_;rcases x with (_ | _ | i | _ | _ | _ | _) | _<;>first | cases e;done | skip
  cases e;obtain ⟨t,rfl⟩:=wi.mp r1;exact ⟨.int _ t,M1,l1,R1⟩
def cL8 (S:Snd v) (G:Good X st d) {lo hi:Option Expr} {p2:Pos} {α:Type} {Q:α->Value->Shared->Prop} {k:W->Option Int->Option Int->aA->Option (α×aA)} {r:α×aA} (R:Mem X.S κ M h s) (F:Fra X κ M δ) (e:xb (v.E st a) (fun x=>xb (uI v st lo) fun l=>xb (uI v st hi) fun u=>fun _ h=>k x l u h) δ h=some r)
  (q:∀ {M1 h1 s1 x u vl vu l hh sl},Le M M1->Mem X.S κ M1 h1 s1->RepW X.S M1 x u->s1.heap.IsSliceOf sl vl vu .none->IsPart vl l->IsPart vu hh->k x l hh h1=some r->∃ T id,typeLookup (.type T) "__getitem__"=pure (some (.builtin id))/\s1.TypeIs u T/\Wp X.S X.A (getItem u (.ref sl)) (Q r.1) NE s1) :
  Wp X.S X.A (eval (.Subscript a (.Slice lo hi none p2) pos) X.env) (Q r.1) NE s:=by
 obtain ⟨x,h1,e1,e⟩:=aF e;obtain ⟨l,h2,e2,e⟩:=aF e;obtain ⟨hh,h3,e3,e⟩:=aF e;refine Subscript_ (thn (S.E G a R F e1) fun u s1 ⟨M1,l1,R1,r1⟩=>?_);refine wpAny_Slice (thn (bD4 S G lo R1 (F.go l1) e2) fun vl s2 ⟨pl,M2,l2,R2⟩=>thn (bD4 S G hi R2 ((F.go l1).go l2) e3) fun vu s3 ⟨pu,M3,l3,R3⟩=>?_);rw [evalPart_none];refine wpAny_pure ?_;have R4:Mem X.S κ M3 h3 { s3 with heap:=s3.heap.push { cls:=.type "slice",data:=.fields #[vl,vu,.none] } }:=R3.kept (t:=s3.toks) fun b ob q=>Heap.get?_push_of_some _ q;obtain ⟨T,id,hT,ht,hg⟩:=q (l1.trans (l2.trans l3)) R4 (r1.go (l2.trans l3)) (Heap.IsSliceOf.new ..) pl pu e;show Wp X.S X.A (subscriptTail a (.Slice lo hi none p2) u (.ref s3.heap.objs.size)) _ _ { s3 with heap:=s3.heap.push { cls:=.type "slice",data:=.fields #[vl,vu,.none] } };exact tail_any (ops:=[.ref s3.heap.objs.size,u]) ht hT hg (by with_unfolding_all rfl)
end
end DL

namespace DL
open PySem PySem.Spec PyProof.Rows L2 CI
structure Turn (S:Sx) (tg:Expr) (all:List PyData) (c:Cw) (M0:Mp) (fp:List Addr) (it:Addr) (tn:Nat->Heap->Prop):Prop where
 keep:∀ i h h',tn i h->(∀ b∈fp,∀ o,h.get? b=some o->h'.get? b=some o)->tn i h'
 obj:∀ i h,tn i h->∀ b∈fp,∃ o,h.get? b=some o
 item:∀ {A:Around} {κ:Kp} {M:Mp} {h:aA} {s:Shared} {E:Value->Shared->Prop} {i:Nat} {x:PyData},A.handled=none->Mem S κ M h s->Le M0 M->(∀ b∈fp,aZ κ M b)->tn i s.heap->all[i]?=some x->dZ c all h=true ->
  Wp S A (pyNext (.ref it)) (fun r s1=>∃ u,r=some u/\Wp S A (letOwnedTupleGo tg (.ref it) u) (fun _ s2=>∃ M',Le M M'/\Mem S κ M' h s2/\Rep S M'.Z x u/\tn (i+1) s2.heap/\∀ b∈fp,aZ κ M' b) E s1) E s
 done:∀ {A:Around} {κ:Kp} {M:Mp} {h:aA} {s:Shared} {E:Value->Shared->Prop} {i:Nat},A.handled=none->Mem S κ M h s->Le M0 M->(∀ b∈fp,aZ κ M b)->tn i s.heap->all.length<=i->dZ c all h=true ->
  Wp S A (pyNext (.ref it)) (fun r s1=>r=none/\Mem S κ M h s1) E s
 self:∀ (A:Around) (i:Nat) (s:Shared) (Q:Value->Shared->Prop) (E:Value->Shared->Prop),tn i s.heap->Q (.ref it) s->Wp S A (pyIter (.ref it)) Q E s
structure TurnW (S:Sx) (tg:Expr) (all:List W) (co:aA->Bool) (M0:Mp) (fp:List Addr) (it:Addr) (tn:Nat->Heap->Prop):Prop where
 keep:∀ i h h',tn i h->(∀ b∈fp,∀ o,h.get? b=some o->h'.get? b=some o)->tn i h'
 obj:∀ i h,tn i h->∀ b∈fp,∃ o,h.get? b=some o
 item:∀ {A:Around} {κ:Kp} {M:Mp} {h:aA} {s:Shared} {E:Value->Shared->Prop} {i:Nat} {x:W},A.handled=none->Mem S κ M h s->Le M0 M->(∀ b∈fp,aZ κ M b)->tn i s.heap->all[i]?=some x->co h=true ->
  Wp S A (pyNext (.ref it)) (fun r s1=>∃ u,r=some u/\Wp S A (letOwnedTupleGo tg (.ref it) u) (fun _ s2=>∃ M',Le M M'/\Mem S κ M' h s2/\RepW S M' x u/\tn (i+1) s2.heap/\∀ b∈fp,aZ κ M' b) E s1) E s
 done:∀ {A:Around} {κ:Kp} {M:Mp} {h:aA} {s:Shared} {E:Value->Shared->Prop} {i:Nat},A.handled=none->Mem S κ M h s->Le M0 M->(∀ b∈fp,aZ κ M b)->tn i s.heap->all.length<=i->co h=true ->
  Wp S A (pyNext (.ref it)) (fun r s1=>r=none/\Mem S κ M h s1) E s
 self:∀ (A:Around) (i:Nat) (s:Shared) (Q:Value->Shared->Prop) (E:Value->Shared->Prop),tn i s.heap->Q (.ref it) s->Wp S A (pyIter (.ref it)) Q E s
def Turn.w {S:Sx} {tg:Expr} {all:List PyData} {c:Cw} {M0:Mp} {fp:List Addr} {it:Addr} {tn:Nat->Heap->Prop} (T:Turn S tg all c M0 fp it tn):TurnW S tg (all.map .d) (dZ c all) M0 fp it tn where
 keep:=T.keep
 obj:=T.obj
 item:=fun {A κ M h s E i x} hd R l hf st hx co=>by
  rw [List.getElem?_map] at hx;obtain ⟨y,hy,rfl⟩:=map_some hx;exact T.item hd R l hf st hy co
 done:=fun hd R l hf st hx co=>T.done hd R l hf st (by simpa using hx) co
 self:=T.self
def Pi (S:Sx) (κ:Kp) (M:Mp) (h:aA) (tg:Expr) (p:List PyData×Cw) (u:Value) (s:Shared):Prop :=
 ∃ M' it fp tn,Le M M'/\Mem S κ M' h s/\u=.ref it/\Turn S tg p.1 p.2 M' fp it tn/\tn 0 s.heap/\(∀ b∈fp,aZ κ M' b)/\p.1.length<=sizeLine
def SI (X:Cx) (tg iter:Expr) (f:XR (List PyData×Cw)):Prop:=∀ ⦃κ M δ h s p h'⦄,Mem X.S κ M h s->Fra X κ M δ->f δ h=some (p,h')->Wp X.S X.A (eval iter X.env) (fun v s1=>Wp X.S X.A (pyIter v) (Pi X.S κ M h' tg p) NE s1) NE s
def wU {M:Model} {A:Around} {E:Value->Shared->Prop} {s:Shared} {tg:Expr} {it:Addr} {u:Value} {o:Obj} {n:String} {vs:Array Value} {Q:Unit->Shared->Prop} (ho:s.heap.get? it=some o) (hc:o.cls=.type n) (hd:o.data=.fields vs)
  (hn:["enumerate","zip","dict_itemiterator","dict_reverseitemiterator","odict_iterator","itertools.zip_longest","itertools.pairwise"].contains n=false) (hQ:Q () s):wpAny M A (letOwnedTupleGo tg (.ref it) u) Q E s:=by
 unfold letOwnedTupleGo;cases tg<;>first
  | exact wpAny_pure hQ
  | (cases u<;>first
    | exact wpAny_pure hQ
    | (refine wpAny_bind (wpAny_load ho ?_)
       rw [hc,hd];show wpAny M A (if (["enumerate","zip","dict_itemiterator","dict_reverseitemiterator","odict_iterator","itertools.zip_longest","itertools.pairwise"].contains n&&vs[0]?==some (rawInt _))=true then _ else _) Q E s;rw [if_neg (by intro h;rw [hn,Bool.false_and] at h;cases h)];exact wpAny_pure hQ))
mutual
theorem aH6:∀ {a b:PyData},peq a b=true->a=b
 | .none,b,h=>by cases b<;>first | rfl | cases h
 | .bool x,b,h=>by cases b<;>first | cases h;done | (rw [eq_of_beq (show (x==_)=true from h)])
 | .int x,b,h=>by cases b<;>first | cases h;done | (rw [eq_of_beq (show (x==_)=true from h)])
 | .str x,b,h=>by cases b<;>first | cases h;done | (rw [eq_of_beq (show (x==_)=true from h)])
 | .list x,b,h=>by cases b<;>first | cases h;done | (rw [peqs_eq (show peqs x _=true from h)])
 | .tuple x,b,h=>by cases b<;>first | cases h;done | (rw [peqs_eq (show peqs x _=true from h)])
 | .dict x,b,h=>by cases b<;>cases h
theorem peqs_eq:∀ {a b:List PyData},peqs a b=true->a=b
 | [],b,h=>by cases b<;>first | rfl | cases h
 | x::a,b,h=>by
  cases b with
  | nil=>cases h
  | cons y b=>replace h:(peq _ y&&peqs _ b)=true:=h;rw [Bool.and_eq_true] at h;rw [aH6 h.1,peqs_eq h.2]
end
section
variable {S:Sx} {κ:Kp} {M M0:Mp} {h:aA} {s:Shared} {A:Around} {E:Value->Shared->Prop} {tg:Expr} {all:List PyData} {c:Cw} {a it:Addr} {us:List Value} {n:Nat}
def Mem.turn {h2:Heap} {t:Nat} {fp:List Addr} (R:Mem S κ M h s) (hf:∀ b∈fp,aZ κ M b) (k:∀ b o,b∉fp->s.heap.get? b=some o->h2.get? b=some o):Mem S κ M h { s with heap:=h2,toks:=t } :=
 R.keep (fun b o e nf=>k b o (fun z=>nf (hf b z)) e) R.bare rfl
def aH7 {hc:c=none->∃ us n,M0.Z a=some (aV us n)/\us.length<=sizeLine/\Reps' S M0 all us} {hi:∀ q,c=some q->q.2=false/\∃ p,M0.m[q.1]?=some p/\p.1=a} (R:Mem S κ M h s) (l:Le M0 M) (co:dZ c all h=true) :
  ∃ us n,s.heap.get? a=some (aV us n)/\us.length<=sizeLine/\Reps' S M all us:=by
 cases c with
 | none =>
  obtain ⟨us,n,e,z,r⟩:=hc rfl;exact ⟨us,n,R.z _ _ (l.z _ _ e),z,r.go l⟩
 | some q =>
  obtain ⟨i,q2⟩:=q;obtain ⟨h0,p,e,rfl⟩:=hi _ rfl;cases (show q2=false from h0);have co:(match h[i]? with
   | some (.l ys)=>peqs ys all
   | _=>false)=true:=co
  split at co
  ·rename_i ys ey;rw [<- peqs_eq co];obtain ⟨us,n,e1,e2,e3⟩:=R.cel i p _ (l.at e) ey;exact ⟨us,n,e1,e2,e3⟩
  ·cases co
def oR (hc:c=none->∃ us n,M0.Z a=some (aV us n)/\us.length<=sizeLine/\Reps' S M0 all us) (hi:∀ q,c=some q->q.2=false/\∃ p,M0.m[q.1]?=some p/\p.1=a):Turn S tg all c M0 [it] it (fun i h=>h.IsListIter it a i) where
 keep:=fun i h h' st k=>st.at fun o e=>k it (by simp) o e
 obj:=fun i h st b hb=>by
  rw [List.mem_singleton.mp hb];obtain ⟨o,e,_⟩:=st;exact ⟨o,e⟩
 item:=by
  intro A κ M h s E i x hd R l hf st hx co;obtain ⟨us,n,ho,hz,rr⟩:=aH7 (hc:=hc) (hi:=hi) R l co;obtain ⟨u,hu,ru⟩:=iQ rr hx;refine wpAny_pyNext_list_item st (bM ho).isList (x:=u) (by simpa using hu) fun h' st' sb=>?_;have R1:Mem S κ M h { s with heap:=h' }:=R.turn (t:=s.toks) hf fun b o hb e=>(sb.2 b fun z=>hb (by simp [z])).trans e;obtain ⟨o,e,c,d⟩:=id st';exact ⟨u,rfl,wU (s:={ s with heap:=h' }) e c d (by decide) ⟨M,.refl,R1,ru,st',hf⟩⟩
 done:=by
  intro A κ M h s E i hd R l hf st hx co;obtain ⟨us,n,ho,hz,rr⟩:=aH7 (hc:=hc) (hi:=hi) R l co;have hl:=rr.length;exact wpAny_pyNext_list_end hd st (bM ho).isList (by simp;omega) fun h' eb=>⟨rfl,R.turn (t:=s.toks) hf fun b o hb e=>eb b o (fun z=>hb (by simp [z])) e⟩
 self:=fun _ _ _ _ _ st h=>wpAny_pyIter_listiter st h
def uO (e0:M0.Z a=some { cls:=.type "tuple",data:=.seq us.toArray n }) (r0:Reps' S M0 all us):Turn S tg all none M0 [it] it (fun i h=>h.IsTupleIter it a i) where
 keep:=fun i h h' st k=>st.at fun o e=>k it (by simp) o e
 obj:=fun i h st b hb=>by
  rw [List.mem_singleton.mp hb];obtain ⟨o,e,_⟩:=st;exact ⟨o,e⟩
 item:=by
  intro A κ M h s E i x hd R l hf st hx co;obtain ⟨u,hu,ru⟩:=iQ (r0.go l) hx;refine wpAny_pyNext_tuple_item st (show s.heap.IsTuple a us.toArray from fZ (R.z _ _ (l.z _ _ e0))) (x:=u) (by simpa using hu) fun h' st' sb=>?_;have R1:Mem S κ M h { s with heap:=h' }:=R.turn (t:=s.toks) hf fun b o hb e=>(sb.2 b fun z=>hb (by simp [z])).trans e;obtain ⟨o,e,c,d⟩:=id st';exact ⟨u,rfl,wU (s:={ s with heap:=h' }) e c d (by decide) ⟨M,.refl,R1,ru,st',hf⟩⟩
 done:=by
  intro A κ M h s E i hd R l hf st hx co;have hl:=r0.length;exact wpAny_pyNext_tuple_end hd st (show s.heap.IsTuple a us.toArray from fZ (R.z _ _ (l.z _ _ e0))) (by simp;omega) fun h' eb=>⟨rfl,R.turn (t:=s.toks) hf fun b o hb e=>eb b o (fun z=>hb (by simp [z])) e⟩
 self:=fun _ _ _ _ _ st h=>wpAny_pyIter_tupleiter st h
theorem wV:∀ {a b:List W},zT a b=true->a=b
 | [],[],_=>rfl
 | [],_::_,h=>by cases h
 | _::_,[],h=>by cases h
 | x::a,y::b,h=>by
  obtain ⟨h1,h2⟩:=Bool.and_eq_true_iff.mp (show (weq x y&&zT a b)=true from h);have e:x=y:=by
   cases x<;>cases y<;>first | (cases h1;done) | skip
   ·rw [aH6 (show peq _ _=true from h1)]
   ·rw [eq_of_beq (show (_==_)=true from h1)]
  rw [e,wV h2]
def uP {M:Mp} {j:Nat} {p:Addr×Addr} {ws:List W} (R:Mem S κ M h s) (ep:M.m[j]?=some p) (e:wsC j h=some ws):∃ us n,s.heap.get? p.1=some (aV us n)/\us.length<=sizeLine/\RepWs S M ws us:=by
 unfold wsC at e;split at e
 ·rename_i xs ej;cases e;obtain ⟨us,n,a,b,r⟩:=R.cel j p _ ep ej;exact ⟨us,n,a,b,rT r⟩
 ·rename_i ws' ej;cases e;exact R.cel j p _ ep ej
 ·cases e
def aH8 {j:Nat} {ws:List W} {h:aA} (co:coW j ws h=true):wsC j h=some ws:=by
 unfold coW at co;split at co
 ·rename_i us e;rw [e,wV co]
 ·cases co
def aU5 {j:Nat} {p:Addr×Addr} {ws:List W} (ep:M0.m[j]?=some p):TurnW S tg ws (coW j ws) M0 [it] it (fun i h=>h.IsListIter it p.1 i) where
 keep:=fun i h h' st k=>st.at fun o e=>k it (by simp) o e
 obj:=fun i h st b hb=>by
  rw [List.mem_singleton.mp hb];obtain ⟨o,e,_⟩:=st;exact ⟨o,e⟩
 item:=by
  intro A κ M h s E i x hd R l hf st hx co;obtain ⟨us,n,ho,hz,rr⟩:=uP R (l.at ep) (aH8 co);obtain ⟨u,hu,ru⟩:=iQ rr hx;refine wpAny_pyNext_list_item st (bM ho).isList (x:=u) (by simpa using hu) fun h' st' sb=>?_;have R1:Mem S κ M h { s with heap:=h' }:=R.turn (t:=s.toks) hf fun b o hb e=>(sb.2 b fun z=>hb (by simp [z])).trans e;obtain ⟨o,e,c,d⟩:=id st';exact ⟨u,rfl,wU (s:={ s with heap:=h' }) e c d (by decide) ⟨M,.refl,R1,ru,st',hf⟩⟩
 done:=by
  intro A κ M h s E i hd R l hf st hx co;obtain ⟨us,n,ho,hz,rr⟩:=uP R (l.at ep) (aH8 co);have hl:=rr.length;exact wpAny_pyNext_list_end hd st (bM ho).isList (by simp;omega) fun h' eb=>⟨rfl,R.turn (t:=s.toks) hf fun b o hb e=>eb b o (fun z=>hb (by simp [z])) e⟩
 self:=fun _ _ _ _ _ st h=>wpAny_pyIter_listiter st h
def aU6 {lo:Int} {n i:Nat} {x:PyData} (e:(rng lo n)[i]?=some x):i < n/\x=.int (lo+i):=by
 unfold rng at e;rw [List.getElem?_map] at e;obtain ⟨j,e1,rfl⟩:=map_some e;obtain ⟨h1,h2⟩:=List.getElem?_eq_some_iff.mp e1;rw [List.getElem_range] at h2;subst h2;exact ⟨by simpa using h1,rfl⟩
def uQ {lo:Int}:Turn S tg (rng lo n) none M0 [it] it (fun i h=>IsRangeIter h it (lo+(i:Nat)*1) ((n:Int) - (i:Nat)) 1) where
 keep:=fun i h h' st k=>k it (by simp) _ st
 obj:=fun i h st b hb=>by rw [List.mem_singleton.mp hb];exact ⟨_,st⟩
 item:=by
  intro A κ M h s E i x hd R l hf st hx co;obtain ⟨hi,rfl⟩:=aU6 hx;have W:=Walks.range (prog:=S.P) (w:=S.w) hd it lo 1 n;refine W.item i s _ _ hi st fun v h' tk hv st' kk=>?_;obtain ⟨t,rfl⟩:=hv;have R1:Mem S κ M h { s with heap:=h',toks:=tk }:=R.turn hf fun b o hb e=>kk b o (by simpa using hb) e;refine ⟨_,rfl,wU (s:={ s with heap:=h',toks:=tk }) (n:="range_iterator") st' rfl rfl (by decide) ⟨M,.refl,R1,rep_i.mpr ⟨t,?_⟩,st',hf⟩⟩;rw [Int.mul_one]
 done:=by
  intro A κ M h s E i hd R l hf st hx co;have hx:n<=i:=by simpa [rng] using hx
  exact wpAny_pyNext_range_end hd st (by omega) fun h' eb=>⟨rfl,R.turn (t:=s.toks) hf fun b o hb e=>eb b o (fun z=>hb (by simp [z])) e⟩
 self:=fun _ _ _ _ _ st h=>wpAny_pyIter_rangeiter st h
def Mem.one (R:Mem S κ M h s):∀ b∈[s.heap.objs.size],aZ κ M b:=fun b hb=>by rw [List.mem_singleton.mp hb];exact R.size
def sE {lo hi:Int} {t u v:Tok} {tk:Nat} (R:Mem S κ M h s) (h1:-(2^62)<=lo) (h2:lo < 2^62) (h3:-(2^62)<=hi) (h4:hi < 2^62) (h5:hi - lo<=16000000) :
  Wp S A (pyIter (.ref s.heap.objs.size)) (Pi S κ M h tg (rng lo (hi - lo).toNat,none)) E { s with heap:=s.heap.push { cls:=.type "range",data:=.fields #[.int lo t,.int hi u,.int 1 v] },toks:=tk }:=by
 refine wpAny_pyIter_range (IsRange.new ..) (small_one h1 h2 h3 h4) ?_;have R1:Mem S κ M h { s with heap:=s.heap.push { cls:=.type "range",data:=.fields #[.int lo t,.int hi u,.int 1 v] },toks:=tk }:=R.kept fun b o e=>Heap.get?_push_of_some _ e;refine ⟨M,_,[(s.heap.push { cls:=.type "range",data:=.fields #[.int lo t,.int hi u,.int 1 v] }).objs.size],_,.refl,R1.kept (t:=tk) fun b o e=>Heap.get?_push_of_some _ e,rfl,uQ,?_,R1.one,?_⟩
 case refine_2=>show (rng lo (hi - lo).toNat).length<=sizeLine;unfold rng;rw [List.length_map,List.length_range,sizeLine_eq];omega
 have e1:lo+((0:Nat):Int)*1=lo:=by simp
 have e2:(((hi - lo).toNat:Nat):Int) - ((0:Nat):Int)=Builtin.Range.rangeSize lo hi 1:=by rw [rangeSize_one];split<;>omega
 show IsRangeIter _ _ (lo+((0:Nat):Int)*1) ((((hi - lo).toNat:Nat):Int) - ((0:Nat):Int)) 1;rw [e1,e2];exact Heap.get?_push_size _ rfl
end
section
variable {X:Cx} {st:Sta} {d:Nat} {v:Evs} {a b tg iter:Expr} {κ:Kp} {M:Mp} {δ:DSt} {h h':aA} {s:Shared} {E:Value->Shared->Prop} {pos p:Pos}
def Pi.go {S:Sx} {M M':Mp} {q:List PyData×Cw} {u:Value} (l:Le M M') (x:Pi S κ M' h tg q u s):Pi S κ M h tg q u s:=let ⟨N,it,fp,tn,a,b⟩:=x;⟨N,it,fp,tn,l.trans a,b⟩
def uR (S:Snd v) (G:Good X st d):SI X tg iter (aM (v.E st iter)):=by
 intro κ M δ h s p h' R F e;obtain ⟨x,h1,e1,e⟩:=aF e;refine thn (S.E G iter R F e1) fun u s1 ⟨M1,l1,R1,r1⟩=>?_;rcases x with (_ | _ | _ | _ | xs | xs | _) | i<;>first | cases e;done | skip
 ·cases e;obtain ⟨a,us,n,rfl,z,⟨⟨n,rfl⟩,hz⟩,rr⟩:=rep_l.mp (show Rep X.S M1.Z (.list _) u from r1);exact wpAny_pyIter_list (bM (R1.z _ _ z)).isList (Pi.go l1 ⟨M1,_,[s1.heap.objs.size],_,.refl,R1.kept (t:=s1.toks) fun b o e=>Heap.get?_push_of_some _ e,rfl,oR (fun _=>⟨_,_,z,hz,rr⟩) (fun i z=>nomatch z),⟨_,Heap.get?_push_size _ rfl,rfl,rfl⟩,R1.one,by rw [rr.length];exact hz⟩)
 ·cases e;obtain ⟨a,us,n,rfl,z,hz,rr⟩:=fY R1 r1 rfl;exact wpAny_pyIter_tuple (show s1.heap.IsTuple a us.toArray from fZ (R1.z _ _ z)) (Pi.go l1 ⟨M1,_,[s1.heap.objs.size],_,.refl,R1.kept (t:=s1.toks) fun b o e=>Heap.get?_push_of_some _ e,rfl,uO z rr,⟨_,Heap.get?_push_size _ rfl,rfl,rfl⟩,R1.one,by rw [rr.length];exact hz⟩)
 ·dsimp only at e;split at e
  ·rename_i xs ei;cases e;obtain ⟨p,ep,rfl⟩:=r1;obtain ⟨us,n,ho,hz,rr⟩:=R1.cel i p _ ep ei;exact wpAny_pyIter_list (bM ho).isList (Pi.go l1 ⟨M1,_,[s1.heap.objs.size],_,.refl,R1.kept (t:=s1.toks) fun b o e=>Heap.get?_push_of_some _ e,rfl,oR (fun z=>nomatch z) (fun j z=>by cases z;exact ⟨rfl,p,ep,rfl⟩),⟨_,Heap.get?_push_size _ rfl,rfl,rfl⟩,R1.one,by rw [rr.length];exact hz⟩)
  ·cases e
def bD5 {i j:Int} (h:cU i j=true):j - i<=16000000/\-(2^62)<=i/\i < 2^62/\-(2^62)<=j/\j < 2^62:=by
 unfold cU at h
 simpa only [Bool.and_eq_true,decide_eq_true_eq] using h
def cA (G:Good X st d) {x:Str} (hx:(cL st x&&(slot st x).isNone&&st.bl.contains x)=true):eX x=true/\Gl X x/\X.S.mg x=none:=by
 rw [Bool.and_eq_true,Bool.and_eq_true] at hx;obtain ⟨h1,h2⟩:=qI G hx.1.1;exact ⟨h1,h2,G.bl _ hx.2⟩
theorem bI1 (S:Snd v) (G:Good X st d) (hx:(cL st "range"&&(slot st "range").isNone&&st.bl.contains "range")=true) (hs:aH a=true):SI X tg (.Call (.Name "range" p) [a] [] pos) (xb (v.E st a) fun w=>fun _ h=>(match w with
   | .d (.int j)=>if cU 0 j=true then some ((rng 0 j.toNat,none),h) else none
   | _=>none)):=by
 intro κ M δ h s q h' R F e;obtain ⟨h1,h2,h3⟩:=cA G hx;obtain ⟨x,hh,e1,e⟩:=aF e;have ea:aS v st [a] δ h=some ([x],hh):=by unfold aS;rw [if_pos hs];unfold aS xb aC;rw [e1];rfl
 have es:=bU (X:=X) (es:=[]) a hs;refine Call_ (bZ F R h2 h3 boot_range h1 (PyProof.Rows.callWith_type1 (thn (cG S G [a] pos R F ea) fun us s1 ⟨M1,l1,R1,r0⟩=>?_) es rfl));obtain ⟨u,rfl,r1⟩:=w1 r0;split at e
 ·obtain ⟨hb,e⟩:=aE e;cases e;obtain ⟨t,rfl⟩:=wi.mp r1;obtain ⟨b1,b2,b3,b4,b5⟩:=bD5 hb;refine call_range_1 (thn (sE (tg:=tg) R1 b2 b3 b4 b5 b1) fun _ _ q=>Pi.go l1 ?_);rw [Int.sub_zero] at q;exact q
 ·cases e
theorem bI2 (S:Snd v) (G:Good X st d) (hx:(cL st "range"&&(slot st "range").isNone&&st.bl.contains "range")=true) (hs:aH a=true) (hs2:aH b=true):SI X tg (.Call (.Name "range" p) [a,b] [] pos) (xb (v.E st a) fun u=>xb (v.E st b) fun w=>fun _ h=>(match u,w with
   | .d (.int i),.d (.int j)=>if cU i j=true then some ((rng i (j - i).toNat,none),h) else none
   | _,_=>none)):=by
 intro κ M δ h s q h' R F e;obtain ⟨h1,h2,h3⟩:=cA G hx;obtain ⟨x,hh,e1,e⟩:=aF e;obtain ⟨y,hh2,e2,e⟩:=aF e;have ea:aS v st [a,b] δ h=some ([x,y],hh2):=by unfold aS;rw [if_pos hs];unfold xb;rw [e1];unfold aS;dsimp only [Option.bind];rw [if_pos hs2];unfold aS xb aC;dsimp only;rw [e2];rfl
 refine Call_ (bZ F R h2 h3 boot_range h1 (PyProof.Rows.callWith_type1 (thn (cG S G [a,b] pos R F ea) fun us s1 ⟨M1,l1,R1,r0⟩=>?_) (bU a hs) (by rw [bU b hs2];rfl)));obtain ⟨u,v,rfl,r1,r2⟩:=w2 r0;split at e
 ·obtain ⟨hb,e⟩:=aE e;cases e;obtain ⟨t,rfl⟩:=wi.mp r1;obtain ⟨t',rfl⟩:=wi.mp r2;obtain ⟨b1,b2,b3,b4,b5⟩:=bD5 hb;exact call_range_2 (thn (sE R1 b2 b3 b4 b5 b1) fun _ _ q=>Pi.go l1 q)
 ·cases e
noncomputable def fR (κ:Kp) (fp:List Addr) (hp:Heap):Kp:=fun a=>if a∈fp then (hp.get? a).map fun o=>(true,o) else κ a
noncomputable def unK (fp:List Addr) (κ:Kp):Kp:=fun a=>if a∈fp then none else κ a
def Mem.pin {S:Sx} {fp:List Addr} (R:Mem S κ M h s) (hf:∀ b∈fp,aZ κ M b):Mem S (fR κ fp s.heap) M h s:=by
 refine ⟨R.z,fun a b o e=>?_,R.len,R.ap,fun q hq a ha=>?_,R.cel,R.base,R.bare,R.os⟩
 ·unfold fR at e;split at e
  ·rename_i hm;obtain ⟨o',e1,e2⟩:=map_some e;cases e2;exact ⟨fun _=>e1,⟨_,e1⟩,(hf a hm).1⟩
  ·exact R.k a b o e
 ·obtain ⟨h1,h2,h3⟩:=R.off q hq a ha;refine ⟨h1,?_,h3⟩;unfold fR;rw [if_neg fun hm=>by rcases ha with z | z;exact ((hf a hm).2.2 q hq).1 z.symm;exact ((hf a hm).2.2 q hq).2 z.symm];exact h2
def Fra.kp {κ':Kp} (F:Fra X κ M δ) (k:∀ a,bU5 X a->κ' a=κ a):Fra X κ' M δ :=
 ⟨F.ok,F.len,let ⟨o,m,h1,h2,h3⟩:=F.loc;⟨o,m,by rw [k _ (.inl rfl)];exact h1,h2,fun i x w a b c=>let ⟨u,r,l⟩:=h3 i x w a b c;⟨u,r,l.imp id fun ⟨q,c,o,e1,e2,e3⟩=>⟨q,c,o,e1,by rw [k _ (.inr (.inl ⟨x,e1⟩))];exact e2,e3⟩⟩⟩,fun x c e=>let ⟨o,v,h1,h2⟩:=F.cell x c e;⟨o,v,by rw [k _ (.inr (.inl ⟨x,e⟩))];exact h1,h2⟩,F.frs.kp fun a h=>k a (.inr (.inr h))⟩
def Fra.mine (F:Fra X κ M δ) {a:Addr} (ha:bU5 X a):κ a≠none:=by
 rcases ha with rfl | ⟨x,e⟩ | ⟨l,env,z1,z2,z3⟩
 ·obtain ⟨o,m,h1,_⟩:=F.loc;rw [h1];exact fun z=>nomatch z
 ·obtain ⟨o,v,h1,_⟩:=F.cell x a e;rw [h1];exact fun z=>nomatch z
 ·obtain ⟨l',y1,y2⟩:=F.frs;rw [z1] at y1;cases y1;obtain ⟨_,L,o,y3,y4,_⟩:=y2 env z2;rw [z3] at y3;cases y3;rw [y4];exact fun z=>nomatch z
def Fra.pin {fp:List Addr} {hp:Heap} (F:Fra X κ M δ) (hf:∀ b∈fp,aZ κ M b):Fra X (fR κ fp hp) M δ:=F.kp fun a ha=>by
 unfold fR;rw [if_neg fun hm=>F.mine ha (hf a hm).2.1]
def aH9 {S:Sx} {fp:List Addr} {hp:Heap} {κ2:Kp} {M2:Mp} {h2:aA} {s2:Shared} (F:Fra X κ M δ) (hf:∀ b∈fp,aZ κ M b) (ho:∀ b∈fp,∃ o,hp.get? b=some o) (o2:Own X (fR κ fp hp) κ2) (R2:Mem S κ2 M2 h2 s2) :
  Own X κ (unK fp κ2)/\Mem S (unK fp κ2) M2 h2 s2/\(∀ b∈fp,aZ (unK fp κ2) M2 b)/\(∀ b∈fp,∀ o,hp.get? b=some o->s2.heap.get? b=some o)/\∀ δ',Fra X κ2 M2 δ'->Fra X (unK fp κ2) M2 δ':=by
 have same:∀ b∈fp,κ2 b=fR κ fp hp b:=fun b hb=>by
  by_cases e:κ2 b=fR κ fp hp b
  ·exact e
  ·refine absurd (hf b hb).2.1 (F.mine ?_);rcases o2 b e with z | z
   ·exact .inl z
   ·exact .inr (.inl z.2)
 have pins:∀ b∈fp,∀ o,hp.get? b=some o->κ2 b=some (true,o):=fun b hb o e=>by rw [same b hb];unfold fR;rw [if_pos hb,e];rfl
 refine ⟨fun a ha=>?_,R2.less fun a x e=>?_,fun b hb=>?_,fun b hb o e=>?_,fun δ' F'=>F'.kp fun a ha=>?_⟩
 ·have nm:a∉fp:=fun hm=>ha (by unfold unK;rw [if_pos hm,(hf a hm).2.1]);refine o2 a fun e=>ha ?_;unfold unK;rw [if_neg nm,e];unfold fR;rw [if_neg nm]
 ·unfold unK at e;split at e
  ·cases e
  ·exact e
 ·obtain ⟨o,e⟩:=ho b hb;have k2:=pins b hb o e;exact ⟨(R2.k b _ _ k2).2.2,by unfold unK;rw [if_pos hb],R2.kc k2⟩
 ·exact (R2.k b _ _ (pins b hb o e)).1 rfl
 ·have nm:a∉fp:=fun hm=>F.mine ha (hf a hm).2.1;unfold unK;rw [if_neg nm]
end
end DL

namespace DL
open PySem PySem.Spec PyProof.Rows L2 CI
section
variable {X:Cx} {st:Sta} {d:Nat} {v:Evs} {a b c tg iter:Expr} {κ:Kp} {M:Mp} {δ:DSt} {h h':aA} {s:Shared} {pos:Pos} {body els:List Stmt} {x:Str} {g:XG} {tb:XS}
def Ps.go {κ1:Kp} {M1:Mp} {fl:Fl} {f:Flow} (o:Own X κ κ1) (l:Le M M1) (p:Ps X κ1 M1 h fl f s):Ps X κ M h fl f s:=let ⟨κ2,M2,a,b,q⟩:=p;⟨κ2,M2,o.trans a,l.trans b,q⟩
def bV7 (F:Fra X κ M δ):interactive X.env=false:=by simp [interactive,F.ok.kind]
theorem sF (S:Snd v) (G:Good X st d):∀ ss,SSs X ss (xSs v st ss)
 | []=>fun _ _ _ _ _ _ _ R F e=>by cases e;exact wpAny_execs_nil ⟨_,_,.refl,.refl,R,F⟩
 | t::r=>by
  intro κ M δ h s fl h' R F e;obtain ⟨⟨f1,h1⟩,e1,e⟩:=bind_some (show (v.S st t δ h).bind (fun p=>match p.1 with
   | .nx δ'=>xSs v st r δ' p.2
   | f=>some (f,p.2))=some (fl,h') from e)
  refine wpAny_execs_cons (thn (S.S G t R F e1) fun f s1 ⟨κ1,M1,o1,l1,R1,q⟩=>?_);cases f1 with
  | nx δ1 =>
   cases f<;>first | exact q.elim | skip
   exact thn (sF S G r R1 q e) fun _ _ p=>p.go o1 l1
  | rt w=>cases e;cases f<;>first | exact q.elim | exact ⟨κ1,M1,o1,l1,R1,q⟩
  | bk w=>cases e;cases f<;>first | exact q.elim | exact ⟨κ1,M1,o1,l1,R1,q⟩
  | ct w=>cases e;cases f<;>first | exact q.elim | exact ⟨κ1,M1,o1,l1,R1,q⟩
def kE {t:Stmt}:SS X t fun _ _=>none:=fun _ _ _ _ _ _ _ _ _ e=>by cases e
def bV8 {f:XR W} (hf:SE X a f):SS X (.Return (some a) pos) fun δ h=>(f δ h).bind fun p=>some (.rt p.1,p.2):=by
 intro κ M δ h s fl h' R F e;obtain ⟨⟨w,h1⟩,e1,e⟩:=bind_some e;cases e;exact wpAny_Return_some (thn (hf R F e1) fun u s1 ⟨M1,l1,R1,r1⟩=>⟨κ,M1,.refl,l1,R1,r1⟩)
def cL9 (S:Snd v) (G:Good X st d):SS X (.If c body els pos) fun δ h=>(v.T st c δ h).bind fun p=>if p.1=true then xSs v st body δ p.2 else xSs v st els δ p.2:=by
 intro κ M δ h s fl h' R F e;obtain ⟨⟨t,h1⟩,e1,e⟩:=bind_some e;refine wpAny_If (thn (S.T G c R F e1) fun t' s1 ⟨et,M1,l1,R1⟩=>?_);subst et;cases t' with
 | true=>exact thn (sF S G body R1 (F.go l1) e) fun _ _ p=>p.go .refl l1
 | false=>exact thn (sF S G els R1 (F.go l1) e) fun _ _ p=>p.go .refl l1
def bI3 (S:Snd v) (G:Good X st d) (hs:swapsWith a none pos.line X.env=pure false):SS X (.Expr a pos) fun δ h=>(v.E st a δ h).bind fun p=>some (.nx δ,p.2):=by
 intro κ M δ h s fl h' R F e;obtain ⟨⟨w,h1⟩,e1,e⟩:=bind_some e;cases e;exact wpAny_Expr_any (thn (S.E G a R F e1) fun u s1 ⟨M1,l1,R1,r1⟩=>⟨κ,M1,.refl,l1,R1,F.go l1⟩) (bV7 F) hs
def wW {α:Type} {l:List α} {i:Nat} {x:α} (e:l[i]?=some x):l.drop i=x::l.drop (i+1):=by
 obtain ⟨hi,rfl⟩:=List.getElem?_eq_some_iff.mp e;exact List.drop_eq_getElem_cons hi
def bV9 {f:XR (List PyData×Cw)} (hd:X.A.handled=none) (hi:SI X tg iter f) (hg:SG X tg g) (hb:SSs X body tb) (hs:∀ x,foldedSetIterable iter X.env x=pure x) :
  SS X (.For tg iter body [] pos) fun δ h=>(f δ h).bind fun p=>bJ g tb p.1.2 p.1.1 p.1.1 δ p.2:=by
 intro κ M δ h s fl h' R F e;obtain ⟨⟨⟨all,c⟩,h1⟩,e1,e⟩:=bind_some e;refine wpAny_For (thn (hi R F e1) fun v s1 q1=>thn q1 fun itv s2 q2=>?_) hs;obtain ⟨M2,it,fp,tn,l2,R2,rfl,T,t2,f2,_⟩:=q2;dsimp only at T e;have hp:PassesOwn (model X.S.P X.S.w) X.A X.env NE:=PassesOwn.never;obtain ⟨I,hI⟩:∃ I:Nat->Shared->Prop,I=fun n s'=>∃ i κ' M' δ' hh,n=all.length - i/\i<=all.length/\Own X κ κ'/\Le M2 M'/\Mem X.S κ' M' hh s'/\Fra X κ' M' δ'/\tn i s'.heap/\(∀ b∈fp,aZ κ' M' b)/\bJ g tb c all (all.drop i) δ' hh=some (fl,h'):=⟨_,rfl⟩;refine codeAny_forLoop_any I ?_ all.length (by rw [hI];exact ⟨0,κ,M2,δ,h1,rfl,Nat.zero_le _,.refl,.refl,R2,F.go l2,t2,f2,e⟩);intro n s3 hn;rw [hI] at hn;obtain ⟨i,κ3,M3,δ3,h3,rfl,hle,o3,l3,R3,F3,t3,f3,e3⟩:=hn;cases q:all[i]? with
 | none =>
  have hl:all.length<=i:=List.getElem?_eq_none_iff.mp q;rw [List.drop_of_length_le hl] at e3;obtain ⟨co,e3⟩:=aE (show (if dZ c all h3=true then some (Fl.nx δ3,h3) else none)=some (fl,h') from e3);cases e3;refine wpAny_passesOwn hp (thn (T.done hd R3 l3 f3 t3 hl co) fun r s4 ⟨hr,R4⟩=>?_);subst hr;exact wpAny_execs_nil ⟨κ3,M3,o3,l2.trans l3,R4,F3⟩
 | some x =>
  have hlt:i < all.length:=(List.getElem?_eq_some_iff.mp q).1;rw [wW q] at e3;obtain ⟨co,e3⟩:=aE (show (if dZ c all h3=true then (g (.d x) δ3 h3).bind (fun p=>(tb p.1 p.2).bind fun q=>(match q.1 with
    | .nx δ'=>bJ g tb c all (all.drop (i+1)) δ' q.2
    | .ct δ'=>bJ g tb c all (all.drop (i+1)) δ' q.2
    | .bk δ'=>some (.nx δ',q.2)
    | .rt w=>some (.rt w,q.2))) else none)=some (fl,h') from e3)
  obtain ⟨⟨δ4,h4⟩,e4,e3⟩:=bind_some e3;obtain ⟨⟨f5,h5⟩,e5,e3⟩:=bind_some e3;refine wpAny_passesOwn hp (thn (T.item hd R3 l3 f3 t3 q co) fun r s4 ⟨u,hr,q4⟩=>?_);subst hr;refine wpAny_passesOwn hp (thn q4 fun _ s5 ⟨M5,l5,R5,r5,t5,fr5⟩=>?_);have F5:=F3.go l5;refine wpAny_passesOwn hp (thn (hg (R5.pin fr5) (F5.pin fr5) (show RepW X.S M5 (.d x) u from r5) e4) fun _ s6 ⟨κ6,M6,o6,l6,R6,F6⟩=>?_);refine wpAny_passesOwn hp (thn (hb R6 F6 e5) fun f s7 ⟨κ7,M7,o7,l7,R7,q7⟩=>?_);obtain ⟨u1,u2,u3,u4,u5⟩:=aH9 F5 fr5 (T.obj _ _ t5) (o6.trans o7) R7;have l37:=l5.trans (l6.trans l7);have again:∀ {δ'},Fra X κ7 M7 δ'->bJ g tb c all (all.drop (i+1)) δ' h5=some (fl,h')->∃ m,m < all.length - i/\I m s7:=fun F7 e7 =>
   ⟨all.length - (i+1),by omega,by rw [hI];exact ⟨i+1,_,M7,_,h5,rfl,hlt,o3.trans u1,l3.trans l37,u2,u5 _ F7,T.keep _ _ _ t5 u4,u3,e7⟩⟩
  cases f5 with
  | nx δ5=>cases f<;>first | exact q7.elim | exact again q7 e3
  | ct δ5=>cases f<;>first | exact q7.elim | exact again q7 e3
  | bk δ5=>cases e3;cases f<;>first | exact q7.elim | exact ⟨_,M7,o3.trans u1,l2.trans (l3.trans l37),u2,u5 _ q7⟩
  | rt w=>cases e3;cases f<;>first | exact q7.elim | exact ⟨_,M7,o3.trans u1,l2.trans (l3.trans l37),u2,q7⟩

def bI4 (G:Good X st d) {i:Nat} (hi:slot st x=some i) (hl:(qA st.S x&&(st.top||dJ st.S x))=true):SG X (.Name x pos) fun w δ h=>some (δ.set i (some w),h):=by
 intro κ M δ h s w u δ' h' R F r e;cases e;obtain ⟨h1,h2⟩:=aH2 G hl;exact wpAny_assign_Name (aH1 F R (lM G hi) h1 h2 r fun s' κ' o R' F' _=>⟨κ',M,o,.refl,R',F'⟩)
def wX (e:Expr) (hs:aH e=true) (es:List Expr):(assignEach (e::es) X.env).map (·.2)=assign e X.env::(assignEach es X.env).map (·.2)/\(assignEach (e::es) X.env).length=(assignEach es X.env).length+1/\((assignEach es X.env).findIdx? (·.1)=none->(assignEach (e::es) X.env).findIdx? (·.1)=none):=by
 have t:assignEach (e::es) X.env=(false,assign e X.env)::assignEach es X.env:=by cases e<;>first | rfl | cases hs
 rw [t];refine ⟨rfl,rfl,fun z=>?_⟩;rw [List.findIdx?_cons,z];rfl
theorem wY:∀ (es:List Expr),es.all aH=true->(assignEach es X.env).length=es.length/\(assignEach es X.env).findIdx? (·.1)=none
 | [],_=>⟨rfl,rfl⟩
 | e::es,h=>by
  rw [List.all_cons,Bool.and_eq_true] at h;obtain ⟨h1,h2⟩:=wY es h.2;obtain ⟨_,h4,h5⟩:=wX (X:=X) e h.1 es;exact ⟨by rw [h4,h1];rfl,h5 h2⟩
theorem aI0 (S:Snd v) (G:Good X st d):∀ (es:List Expr),es.all aH=true->∀ {κ M δ h s xs us δ' h'},Mem X.S κ M h s->Fra X κ M δ->Reps' X.S M xs us->cD (mB v st es) xs δ h=some (δ',h') ->
  es.length=xs.length/\Wp X.S X.A (assignInOrder ((assignEach es X.env).map (·.2)) us) (fun _ s'=>∃ κ' M',Own X κ κ'/\Le M M'/\Mem X.S κ' M' h' s'/\Fra X κ' M' δ') NE s
 | [],_,κ,M,δ,h,s,xs,us,δ',h',R,F,r,e=>by
  cases xs with
  | nil=>cases e;cases r;exact ⟨rfl,assignInOrder_nil ⟨κ,M,.refl,.refl,R,F⟩⟩
  | cons _ _=>cases e
 | t::es,ha,κ,M,δ,h,s,xs,us,δ',h',R,F,r,e=>by
  rw [List.all_cons,Bool.and_eq_true] at ha;cases xs with
  | nil=>cases e
  | cons x xs =>
   cases r with
   | @cons _ u _ us r1 r2 =>
    obtain ⟨⟨δ1,h1⟩,e1,e⟩:=bind_some (show (v.G st t (.d x) δ h).bind (fun p=>cD (mB v st es) xs p.1 p.2)=some (δ',h') from e);have len:es.length=xs.length:=by
     have go:∀ (es:List Expr) (xs:List PyData) δ h r,cD (mB v st es) xs δ h=some r->es.length=xs.length:=by
      intro es;induction es with
      | nil=>intro xs δ h r e;cases xs with | nil=>rfl | cons _ _=>cases e
      | cons t es ih =>
       intro xs δ h r e;cases xs with
       | nil=>cases e
       | cons x xs =>
        obtain ⟨p,_,e⟩:=bind_some (show (v.G st t (.d x) δ h).bind (fun p=>cD (mB v st es) xs p.1 p.2)=some r from e);rw [List.length_cons,List.length_cons,ih _ _ _ _ e]
     exact go _ _ _ _ _ e
    refine ⟨by rw [List.length_cons,List.length_cons,len],?_⟩;rw [(wX (X:=X) t ha.1 es).1];refine assignInOrder_cons (thn (S.G G t R F (show RepW X.S M (.d x) u from r1) e1) fun _ s1 ⟨κ1,M1,o1,l1,R1,F1⟩=>?_);exact thn (aI0 S G es ha.2 R1 F1 (Reps'.go l1 r2) e).2 fun _ s2 ⟨κ2,M2,o2,l2,q⟩=>⟨κ2,M2,o1.trans o2,l1.trans l2,q⟩
def bW0 (S:Snd v) (G:Good X st d) {es:List Expr} {k} (ha:es.all aH=true):SG X (.Tuple es k pos) (aO (mB v st es)):=by
 intro κ M δ h s w u δ' h' R F r e;unfold aO at e;split at e
 ·obtain ⟨a,us,n,rfl,z,hz,rr⟩:=fY (h:=h) R r rfl;obtain ⟨h1,h2⟩:=wY (X:=X) es ha;obtain ⟨hl,_⟩:=aI0 S G es ha R F rr e;refine assign_Tuple_tuple G.rm.hd (fZ (R.z _ _ z)) (by rw [h1,hl,rr.length];simp) h2 fun h2 hx=>?_;exact (aI0 S G es ha (R.kept (t:=s.toks) fun b o e=>hx b o (Nat.ne_of_lt (Heap.lt_size e)) e) F (by simpa using rr) e).2
 ·cases e
def mI (its:List Value) (n j:Nat) (u:Value):Obj.mapSeq (·.setIfInBounds j u) (aV its n)=aV (its.set j u) n:=by simp [Obj.mapSeq]
def Mem.upd {S:Sx} {i:Nat} {p:Addr×Addr} {us us':List Value} {n n' t:Nat} {xs:List PyData} {f:Obj->Obj} (R:Mem S κ M h s) (ei:M.m[i]?=some p) (hl:∃ ys,h[i]?=some (.l ys)) (ho:s.heap.get? p.1=some (aV us n)) (hf:f (aV us n)=aV us' n') (r:Reps' S M xs us') (z:us'.length<=sizeLine) :
  Mem S κ M (h.set i (.l xs)) { s with heap:=s.heap.update p.1 f,toks:=t }:=by
 have e:(s.heap.update p.1 f).get? p.1=some (aV us' n'):=by rw [Heap.get?_update_self f ho (by rw [hf]<;>rfl),hf]
 obtain ⟨_,_,o2,ho2⟩:=R.off p (List.mem_of_getElem? ei) p.2 (.inr rfl);refine R.wr ei (fun b o n1 _ q=>(Heap.get?_update_other _ _ (Ne.symm n1)).trans q) ⟨⟨_,e⟩,?_⟩ R.bare rfl ⟨us',n',e,z,r⟩
 by_cases hq:p.2=p.1
 ·exact ⟨_,by rw [hq];exact e⟩
 ·exact ⟨o2,(Heap.get?_update_other _ _ (Ne.symm hq)).trans ho2⟩
def sG {S:Sx} {Z:Zm} {k:Key} {y x:PyData} {u:Value} (ek:bI y=some k) (rx:Rep S Z x u) {kvs:List (PyData×PyData)} {vs:List (Key×Value)} (r:RepK S Z kvs vs):RepK S Z (pZ kvs y x) (stored vs k u):=by
 unfold pZ stored;have ea:(kvs.any fun p=>decide (bI p.1=bI y))=vs.any fun kv=>decide (kv.1=k):=by
  rw [ek];induction r with
  | nil=>rfl
  | cons h t ih=>rw [List.any_cons,List.any_cons,ih,h.1];simp
 rw [ea,ek];split
 ·rename_i hq;clear ea hq;induction r with
  | nil=>exact .nil
  | @cons p q ps qs h t ih =>
   rw [List.map_cons,List.map_cons];refine .cons ?_ ih
   by_cases e:q.1=k
   ·rw [if_pos (by rw [h.1,e]),if_pos e];exact ⟨h.1,rx⟩
   ·rw [if_neg (by rw [h.1];exact fun z=>e (Option.some.inj z)),if_neg e];exact h
 ·exact Paired.snoc r ⟨ek,rx⟩
def bI5 {S:Sx} {A:Around} {E:Value->Shared->Prop} {i j:Nat} {p:Addr×Addr} {xs:List PyData} {k:Int} {t:Tok} {x:PyData} {u:Value} {Q:Unit->Shared->Prop} (R:Mem S κ M h s) (ei:M.m[i]?=some p) (eh:h[i]?=some (.l xs)) (ej:ixN xs.length k=some j) (rx:Rep S M.Z x u)
  (q:∀ s',Mem S κ M (h.set i (.l (xs.set j x))) s'->Q () s'):Wp S A (setItem (.ref p.1) (.int k t) u) Q E s:=by
 obtain ⟨us,n,ho,hz,rr⟩:=R.cel i p _ ei eh;have hl:=rr.length;obtain ⟨h1,h2,h3,h4⟩:=qD ej;have hn:=mF;have R':=R.upd (t:=s.toks) ei ⟨_,eh⟩ ho (mI us n j u) (bG0 rx j rr) (by rw [List.length_set];exact hz)
 by_cases h0:0<=k
 ·have hk:k.toNat=j:=by rw [seqIndex_of h0 h4] at h1;exact Option.some.inj h1
  exact PySem.W.ki_setAt ho h0 (by omega) (by rw [List.size_toArray,<- hl];exact h4) (by rw [hk];exact q _ R')
 ·have hk:(k+(us.toArray.size:Int)).toNat=j:=by rw [seqIndex_neg (by omega) h3] at h1;rw [List.size_toArray,<- hl];exact Option.some.inj h1
  exact PySem.W.ki_setBack ho (by omega) (by rw [List.size_toArray,<- hl];exact h3) (by omega) (by rw [hk];exact q _ R')
def bI6 {S:Sx} {A:Around} {E:Value->Shared->Prop} {i:Nat} {p:Addr×Addr} {kvs:List (PyData×PyData)} {y x:PyData} {k:Key} {u uk:Value} {Q:Unit->Shared->Prop} (R:Mem S κ M h s) (ei:M.m[i]?=some p) (eh:h[i]?=some (.k kvs)) (ek:bI y=some k) (hlt:kvs.length < sizeLine) (ry:Rep S M.Z y uk) (rx:Rep S M.Z x u)
  (q:∀ s',Mem S κ M (h.set i (.k (pZ kvs y x))) s'->Q () s'):Wp S A (setItem (.ref p.1) uk u) Q E s:=by
 obtain ⟨vs,dd,rk,hd,hz⟩:=R.cel i p _ ei eh;have hl:=rk.length;refine wpAny_setItem_pairs (hsz:=hz) (aG4 ek ry) dd fun h' dd' hs=>q _ ?_;obtain ⟨o',es',ep',ho',hx'⟩:=id dd';obtain ⟨_,_,o2,ho2⟩:=R.off p (List.mem_of_getElem? ei) p.2 (.inr rfl);refine R.wr ei (fun b o n1 _ q=>(hs.2 b n1).trans q) ⟨⟨_,ho'⟩,?_⟩ R.bare rfl ⟨_,dd',sG ek rx rk,hd,?_⟩
 ·by_cases hq:p.2=p.1
  ·exact ⟨_,by rw [hq];exact ho'⟩
  ·exact ⟨o2,(hs.2 _ hq).trans ho2⟩
 ·have:(pZ kvs y x).length<=kvs.length+1:=by
   unfold pZ;split
   ·rw [List.length_map];omega
   ·rw [List.length_append];simp
  rw [<- (sG ek rx rk).length];omega
def Mem.updW {S:Sx} {i:Nat} {p:Addr×Addr} {us us':List Value} {n n' t:Nat} {ws:List W} {f:Obj->Obj} (R:Mem S κ M h s) (ei:M.m[i]?=some p) (ho:s.heap.get? p.1=some (aV us n)) (hf:f (aV us n)=aV us' n') (r:RepWs S M ws us') (z:us'.length<=sizeLine) :
  Mem S κ M (h.set i (.r ws)) { s with heap:=s.heap.update p.1 f,toks:=t }:=by
 have e:(s.heap.update p.1 f).get? p.1=some (aV us' n'):=by rw [Heap.get?_update_self f ho (by rw [hf]<;>rfl),hf]
 obtain ⟨_,_,o2,ho2⟩:=R.off p (List.mem_of_getElem? ei) p.2 (.inr rfl);refine R.wr ei (fun b o n1 _ q=>(Heap.get?_update_other _ _ (Ne.symm n1)).trans q) ⟨⟨_,e⟩,?_⟩ R.bare rfl ⟨us',n',e,z,r⟩
 by_cases hq:p.2=p.1
 ·exact ⟨_,by rw [hq];exact e⟩
 ·exact ⟨o2,(Heap.get?_update_other _ _ (Ne.symm hq)).trans ho2⟩
def qJ {S:Sx} {A:Around} {E:Value->Shared->Prop} {i j n:Nat} {p:Addr×Addr} {us:List Value} {ws:List W} {k:Int} {t:Tok} {w:W} {u:Value} {Q:Unit->Shared->Prop} (R:Mem S κ M h s) (ei:M.m[i]?=some p) (ho:s.heap.get? p.1=some (aV us n)) (hz:us.length<=sizeLine) (rr:RepWs S M ws us) (ej:ixN ws.length k=some j) (rx:RepW S M w u)
  (q:∀ s',Mem S κ M (h.set i (.r (ws.set j w))) s'->Q () s'):Wp S A (setItem (.ref p.1) (.int k t) u) Q E s:=by
 have hl:=rr.length;obtain ⟨h1,h2,h3,h4⟩:=qD ej;have hn:=mF;have R':=R.updW (t:=s.toks) ei ho (mI us n j u) (bG0 rx j rr) (by rw [List.length_set];exact hz)
 by_cases h0:0<=k
 ·have hk:k.toNat=j:=by rw [seqIndex_of h0 h4] at h1;exact Option.some.inj h1
  exact PySem.W.ki_setAt ho h0 (by omega) (by rw [List.size_toArray,<- hl];exact h4) (by rw [hk];exact q _ R')
 ·have hk:(k+(us.toArray.size:Int)).toNat=j:=by rw [seqIndex_neg (by omega) h3] at h1;rw [List.size_toArray,<- hl];exact Option.some.inj h1
  exact PySem.W.ki_setBack ho (by omega) (by rw [List.size_toArray,<- hl];exact h3) (by omega) (by rw [hk];exact q _ R')
def bW1 (S:Snd v) (G:Good X st d) (ha:∀ v,assign (.Subscript a b pos) X.env v=(do
   let ov <- holding [v] (eval a X.env)
   let iv <- holding [v,ov] (eval b X.env)
   standAt pos
   holding [v,ov,iv] (setItem ov iv v)
   release [v,ov,iv] [])):SG X (.Subscript a b pos) fun w δ h=>(v.E st a δ h).bind fun p=>(v.E st b δ p.2).bind fun q=>(match p.1,q.1,w with
  | .c j,.d y,.d x=>kB j y x δ q.2
  | .c j,.d y,.c i=>rY j y i δ q.2
  | _,_,_=>none):=by
 intro κ M δ h s w u δ' h' R F r e;obtain ⟨⟨x1,h1⟩,e1,e⟩:=bind_some e;obtain ⟨⟨x2,h2⟩,e2,e⟩:=bind_some e;rw [ha];refine wpAny_bind (wpAny_holding (thn (S.E G a R F e1) fun ov s1 ⟨M1,l1,R1,r1⟩=>?_));refine wpAny_bind (wpAny_holding (thn (S.E G b R1 (F.go l1) e2) fun iv s2 ⟨M2,l2,R2,r2⟩=>?_));refine wpAny_bind (wpAny_standAt (wpAny_bind (wpAny_holding ?_)));have l:=l1.trans l2;have rw':=r.go l;have fin:∀ {hh:aA} {s3:Shared},Mem X.S κ M2 hh s3->Wp X.S X.A (release [u,ov,iv] []) (fun _ s'=>∃ κ' M',Own X κ κ'/\Le M M'/\Mem X.S κ' M' hh s'/\Fra X κ' M' δ) NE s3:=fun R3=>wpAny_release ⟨κ,M2,.refl,l,R3,F.go l⟩;rcases x1 with _ | j
 ·cases e
 rcases x2 with y | _
 case c=>cases e
 rcases w with x | m
 case c =>
  obtain ⟨p,ep,rfl⟩:=r1.go l2;dsimp only at e;unfold rY at e;cases ej:h2[j]? with
  | none=>rw [ej] at e;cases e
  | some c =>
   rw [ej] at e;cases c with
   | l xs =>
    cases y<;>first | cases e;done | skip
    rename_i k;obtain ⟨n,en,e⟩:=map_some e;cases e;obtain ⟨t,rfl⟩:=wi.mp r2;obtain ⟨us,q,ho,hz,rr⟩:=R2.cel j p _ ep ej;exact qJ R2 ep ho hz (ws:=xs.map .d) (rT rr) (by rw [List.length_map];exact en) rw' fun s3 R3=>fin R3
   | r ws =>
    cases y<;>first | cases e;done | skip
    rename_i k;obtain ⟨n,en,e⟩:=map_some e;cases e;obtain ⟨t,rfl⟩:=wi.mp r2;obtain ⟨us,q,ho,hz,rr⟩:=R2.cel j p _ ep ej;exact qJ R2 ep ho hz rr en rw' fun s3 R3=>fin R3
   | _=>cases e
 obtain ⟨p,ep,rfl⟩:=r1.go l2;dsimp only at e;unfold kB at e;cases ej:h2[j]? with
 | none=>rw [ej] at e;cases e
 | some c =>
  rw [ej] at e;cases c with
  | l xs =>
   cases y<;>first | cases e;done | skip
   rename_i k;obtain ⟨n,en,e⟩:=map_some e;cases e;obtain ⟨t,rfl⟩:=wi.mp r2;exact bI5 R2 ep ej en rw' fun s3 R3=>fin R3
  | k kvs =>
   obtain ⟨⟨hk,hlt⟩,e⟩:=aE e;cases e;obtain ⟨k,ek⟩:=Option.isSome_iff_exists.mp hk;exact bI6 R2 ep ej ek hlt r2 rw' fun s3 R3=>fin R3
  | r ws =>
   cases y<;>first | cases e;done | skip
   rename_i k;obtain ⟨n,en,e⟩:=map_some e;cases e;obtain ⟨t,rfl⟩:=wi.mp r2;obtain ⟨us,q,ho,hz,rr⟩:=R2.cel j p _ ep ej;exact qJ R2 ep ho hz rr en (w:=.d x) rw' fun s3 R3=>fin R3
  | _=>cases e
end
end DL

namespace DL
open PySem PySem.Spec PyProof.Rows L2 CI
structure CompSc (N N':List Str) (ixs:List (Option Nat)) (S sc:Scope):Prop where
 kind:sc.kind=.function
 nocell:∀ y∈sc.names,y.2≠.cell
 loc:∀ y∈sc.names,y.2=.local->sc.names.lookup y.1=some .local
 free:∀ y∈sc.names,y.2=.free->S.names.lookup y.1=some .cell\/S.names.lookup y.1=some .free
 nd:N'.Nodup
 len:ixs.length=N'.length
 cap:((ixs.zip N').all fun p=>match p.1 with
  | none=>true
  | some i=>decide (N[i]?=some p.2)&&decide (sc.names.lookup p.2=some NameKind.free))=true


def CompSc.at {N N':List Str} {ixs:List (Option Nat)} {S sc:Scope} (h:CompSc N N' ixs S sc) {j i:Nat} {x:Str} (e1:N'[j]?=some x) (e2:ixs[j]?=some (some i)) :
  N[i]?=some x/\sc.names.lookup x=some .free:=by
 have hm:(some i,x)∈ixs.zip N':=by
  refine List.mem_of_getElem? (i:=j) ?_;rw [List.getElem?_zip_eq_some];exact ⟨e2,e1⟩
 have q:=List.all_eq_true.mp h.cap _ hm;simp only [Bool.and_eq_true,decide_eq_true_eq] at q;exact q

theorem iB {env:Env}:∀ (names:List (Str×NameKind)) (acc:List (Str×Addr)),(∀ y∈names,y.2=.free->∃ c,env.cells.lookup y.1=some c) ->
  (∀ x c,acc.lookup x=some c->env.cells.lookup x=some c) ->
  ∃ cl,(∀ x c,cl.lookup x=some c->env.cells.lookup x=some c)/\(∀ y∈names,y.2=.free->∃ c,cl.lookup y.1=some c)/\(∀ x c,acc.lookup x=some c->∃ d,cl.lookup x=some d) /\
   (forIn names acc fun (x:Str×NameKind) (r:List (Str×Addr))=>(if (x.2==NameKind.free)=true then (do let a <- cellOf env x.1;pure (ForInStep.yield ((x.1,a)::r))) else pure (ForInStep.yield r):Sem (ForInStep (List (Str×Addr)))))=(pure cl:Sem (List (Str×Addr)))
 | [],acc,_,ha=>⟨acc,ha,fun _ h=>(nomatch h),fun x c h=>⟨c,h⟩,rfl⟩
 | (n,k)::r,acc,h,ha=>by
  by_cases hk:k=.free
  ·subst hk;obtain ⟨c,hc⟩:=h (n,.free) List.mem_cons_self rfl;obtain ⟨cl,h1,h2,h3,h4⟩:=iB r ((n,c)::acc) (fun y hy=>h y (List.mem_cons_of_mem _ hy)) (fun x d hd=>by
    rw [List.lookup_cons] at hd;cases q:x==n with
    | true =>
     rw [q] at hd;have e1:x=n:=by simpa using q
     have e2:c=d:=Option.some.inj hd;rw [e1,<- e2];exact hc
    | false=>rw [q] at hd;exact ha x d hd)
   refine ⟨cl,h1,fun y hy hf=>?_,fun x d hd=>?_,?_⟩
   ·rcases List.mem_cons.mp hy with e | hy
    ·subst e;exact h3 n c (by simp [List.lookup_cons])
    ·exact h2 y hy hf
   ·cases q:x==n with
    | true =>
     have e1:x=n:=by simpa using q
     subst e1;exact h3 x c (by simp [List.lookup_cons])
    | false=>exact h3 x d (by rw [List.lookup_cons,q];exact hd)
   ·rw [<- h4,List.forIn_cons];have e:cellOf env n=pure c:=by unfold cellOf;rw [hc]
    show ((if (NameKind.free==NameKind.free)=true then (do let a <- cellOf env n;pure (ForInStep.yield ((n,a)::acc))) else pure (ForInStep.yield acc):Sem _) >>= _)=_;rw [if_pos (by decide),e];rfl
  ·obtain ⟨cl,h1,h2,h3,h4⟩:=iB r acc (fun y hy=>h y (List.mem_cons_of_mem _ hy)) ha;refine ⟨cl,h1,fun y hy hf=>?_,h3,?_⟩
   ·rcases List.mem_cons.mp hy with e | hy
    ·subst e;exact absurd hf hk
    ·exact h2 y hy hf
   ·rw [<- h4,List.forIn_cons];have e:(k==NameKind.free)=false:=by simpa using hk
    show ((if (k==NameKind.free)=true then (do let a <- cellOf env n;pure (ForInStep.yield ((n,a)::acc))) else pure (ForInStep.yield acc):Sem _) >>= _)=_;rw [if_neg (by rw [e];exact Bool.false_ne_true)];rfl
def gK {sc:Scope} {env:Env} (h:∀ y∈sc.names,y.2=.free->∃ c,env.cells.lookup y.1=some c) :
  ∃ cl,closureFor sc env=pure cl/\(∀ x c,cl.lookup x=some c->env.cells.lookup x=some c)/\(∀ y∈sc.names,y.2=.free->∃ c,cl.lookup y.1=some c):=by
 obtain ⟨cl,h1,h2,_,h4⟩:=iB (env:=env) sc.names [] h (fun x c e=>by simp at e);refine ⟨cl,?_,h1,h2⟩;unfold closureFor;exact (congrArg (fun m:Sem (List (Str×Addr))=>m >>= fun r=>pure r) h4).trans rfl

theorem fB {env:Env} {x:Str}:∀ {names:List (Str×NameKind)} {k:NameKind},names.lookup x=some k ->
  (names.map fun (n,k)=>if (k==NameKind.free&&env.scope.kind==.function&&env.kindOf n==some .cell) then (n,NameKind.cell) else (n,k)).lookup x
   = some (if (k==NameKind.free&&env.scope.kind==.function&&env.kindOf x==some .cell) then NameKind.cell else k)
 | [],_,h=>by simp at h
 | (n,k0)::r,k,h=>by
  rw [List.lookup_cons] at h;rw [List.map_cons];cases q:x==n with
  | true =>
   have e1:x=n:=by simpa using q
   subst e1;rw [q] at h;have e2:k0=k:=Option.some.inj h;subst e2;dsimp only
   by_cases hc:(k0==NameKind.free&&env.scope.kind==.function&&env.kindOf x==some .cell)=true
   ·rw [if_pos hc,if_pos hc,List.lookup_cons,q]
   ·rw [if_neg hc,if_neg hc,List.lookup_cons,q]
  | false =>
   rw [q] at h;have ih:=fB (env:=env) h;dsimp only
   by_cases hc:(k0==NameKind.free&&env.scope.kind==.function&&env.kindOf n==some .cell)=true
   ·rw [if_pos hc,List.lookup_cons,q];exact ih
   ·rw [if_neg hc,List.lookup_cons,q];exact ih
theorem jK {env:Env} {x:Str}:∀ {names:List (Str×NameKind)},names.lookup x=none ->
  (names.map fun (n,k)=>if (k==NameKind.free&&env.scope.kind==.function&&env.kindOf n==some .cell) then (n,NameKind.cell) else (n,k)).lookup x=none
 | [],_=>rfl
 | (n,k0)::r,h=>by
  rw [List.lookup_cons] at h;rw [List.map_cons];cases q:x==n with
  | true=>rw [q] at h;cases h
  | false =>
   rw [q] at h;have ih:=jK (env:=env) h;dsimp only
   by_cases hc:(k0==NameKind.free&&env.scope.kind==.function&&env.kindOf n==some .cell)=true
   ·rw [if_pos hc,List.lookup_cons,q];exact ih
   ·rw [if_neg hc,List.lookup_cons,q];exact ih

def aA0 {prog:Program} {w:World} {A:Around} {R:Result->Shared->Prop} {s:Shared} {elt target iter:Expr} {ifs:List Expr} {scope:Scope} {pos:Pos} {it acc:Value} {env:Env} (I:Nat->Shared->Prop)
  (turn:∀ n s,I n s->wpAny (model prog w) A (pyNext it) (fun r s₁=>match r with
   | none=>R (.ok .next) s₁
   | some v=>wpAny (model prog w) A (letOwnedTupleGo target it v) (fun _ t₁=>wpAny (model prog w) A (assign target env v) (fun _ s₂ =>
     wpAny (model prog w) A (forIn ifs true fun c r=>if r=true then do let ok <- isTrue c env (eval c env);pure (ForInStep.yield ok) else pure (ForInStep.yield r)) (fun ok s₃ =>
      if ok=true then wpAny (model prog w) A (eval elt env) (fun x s₄ =>
       wpAny (model prog w) A (call (.builtin "list.append") [acc,x]) (fun _ s₅=>∃ m,m < n/\I m s₅) (fun _ _=>False) s₄) (fun _ _=>False) s₃
      else ∃ m,m < n/\I m s₃) (fun _ _=>False) s₂) (fun _ _=>False) t₁) (fun _ _=>False) s₁) (fun _ _=>False) s)
  (n:Nat) (h:I n s):codeAny (model prog w) A (.compLoop (.ListComp elt [⟨target,iter,ifs,0⟩] scope pos) 0 it acc env) R s:=by
 refine codeAny_loop rfl I (fun n s hI=>?_) n h;show wpAny _ A ((compTurn (.ListComp elt [⟨target,iter,ifs,0⟩] scope pos) 0 it acc env).onRaise (fun x=>do noteFrame x env;theTreesLotGoes x)) _ _ s;refine wpAny_noted (wpAny_noRaise ?_);rw [compTurn_list];refine wpAny_bind (wpAny_standAt (wpAny_bind (thn (turn n s hI) fun r s₁ h₁=>?_)));cases r with
 | none=>exact wpAny_pure h₁
 | some v =>
  refine wpAny_bind (thn h₁ fun _ t₁ h₂=>wpAny_bind (thn h₂ fun _ s₂ h₃=>wpAny_bind (thn h₃ fun ok s₃ h₄=>?_)));cases ok with
  | false=>exact wpAny_pure ⟨rfl,h₄⟩
  | true=>exact wpAny_bind (wpAny_bind (thn h₄ fun x s₄ h₅=>wpAny_bind (thn h₅ fun _ s₅ h₆=>wpAny_pure (wpAny_pure ⟨rfl,h₆⟩))))

def wZ {ixs:List (Option Nat)} {δ:DSt} {j:Nat} {w:W} (e:(bK ixs δ)[j]?=some (some w)):∃ i,ixs[j]?=some (some i)/\δ[i]?=some (some w):=by
 unfold bK at e;rw [List.getElem?_map] at e;cases h:ixs[j]? with
 | none=>rw [h] at e;cases e
 | some o =>
  rw [h] at e;cases o with
  | none=>cases e
  | some i =>
   refine ⟨i,rfl,?_⟩;have e':(δ[i]?).bind id=some w:=Option.some.inj e;cases q:δ[i]? with
   | none=>rw [q] at e';cases e'
   | some w=>rw [q] at e';exact congrArg some e'
def Pl (S:Sx) (κ:Kp) (M:Mp) (h:aA) (ws:List W) (u:Value) (s:Shared):Prop :=
 ∃ M',Le M M'/\Mem S κ M' h s/\∃ a us n,u=.ref a/\s.heap.get? a=some (aV us n)/\aZ κ M' a/\us.length<=sizeLine/\RepWs S M' ws us
def jL (g:XG) (tt:XR Bool) (te:XR W) (c:Cw) (all:List PyData):List PyData->DSt->aA->List W->Option (List W×aA)
 | [],_,h,ac=>if dZ c all h=true then some (ac,h) else none
 | x::r,δ,h,ac=>if dZ c all h=true then
   (g (.d x) δ h).bind fun p=>(tt p.1 p.2).bind fun q=>if q.1=true then
     (te p.1 q.2).bind fun y=>jL g tt te c all r p.1 y.2 (ac++[y.1])
    else jL g tt te c all r p.1 q.2 ac
  else none
theorem qK {g:XG} {tt:XR Bool} {te:XR W} {c:Cw} {all:List PyData}:∀ (r:List PyData) (δ:DSt) (h:aA) (ac:List W),jL g tt te c all r δ h ac=eZ g tt te (dZ c all) (r.map .d) δ h ac
 | [],δ,h,ac=>rfl
 | x::r,δ,h,ac=>by
  rw [List.map_cons,jL,eZ];simp only [qK r]
theorem jM {g:XG} {tt:XR Bool} {te:XR W} {c:Cw} {all:List PyData}:∀ {r:List PyData} {δ:DSt} {h:aA} {ac xs:List PyData} {h':aA},aN g tt te c all r δ h ac=some (xs,h')->jL g tt te c all r δ h (ac.map .d)=some (xs.map .d,h')
 | [],δ,h,ac,xs,h',e=>by
  unfold aN at e;obtain ⟨co,e⟩:=aE e;cases e;unfold jL;rw [if_pos co]
 | x::r,δ,h,ac,xs,h',e=>by
  unfold aN at e;obtain ⟨co,e⟩:=aE e;obtain ⟨p,e1,e⟩:=bind_some e;obtain ⟨q,e2,e⟩:=bind_some e;unfold jL;rw [if_pos co,e1];show (tt p.1 p.2).bind _=_;rw [e2];show (if q.1=true then _ else _)=_
  by_cases hq:q.1=true
  ·rw [if_pos hq] at e ⊢;obtain ⟨⟨y,hy⟩,e3,e⟩:=bind_some e;rw [e3];cases y with
   | c i=>cases e
   | d z =>
    have:=jM (show aN g tt te c all r p.1 hy (ac++[z])=_ from e);rw [List.map_append] at this;exact this
  ·rw [if_neg hq] at e ⊢;exact jM e
noncomputable def blk (X:Cx) (N':List Str) (sc:Scope) (cl:List (Str×Addr)) (C:Addr):Cx:={ X with N:=N',env:=compEnvC sc cl C X.env,fn:=false }
def SIf (X:Cx) (ifs:List Expr) (f:XR Bool):Prop:=∀ ⦃κ M δ h s w h'⦄,Mem X.S κ M h s->Fra X κ M δ->f δ h=some (w,h')->Wp X.S X.A (forIn ifs true fun c r=>if r=true then do let ok <- isTrue c X.env (eval c X.env);pure (ForInStep.yield ok) else pure (ForInStep.yield r)) (Pt X.S κ M h' w) NE s
section
variable {X:Cx} {κ:Kp} {M:Mp} {δ:DSt} {h h':aA} {s:Shared} {N':List Str} {ixs:List (Option Nat)} {sc:Scope} {cl:List (Str×Addr)} {C:Addr} {tg iter elt:Expr} {ifs:List Expr} {pos:Pos} {g:XG} {tt:XR Bool} {te:XR W} {f:XR (List PyData×Cw)}
def aA1 {κ':Kp} {o:Obj} (F:Fra X κ M δ) (SC:CompSc X.N N' ixs X.env.scope sc) (hcl1:∀ x c,cl.lookup x=some c->X.env.cells.lookup x=some c) (hcl2:∀ y∈sc.names,y.2=.free->∃ c,cl.lookup y.1=some c)
  (k:∀ a,κ a≠none->κ' a=κ a) (hC:κ' C=some (false,o)) (ho:aH0 o fun _=>none) (hb:X.S.base.objs.size<=C):Fra (blk X N' sc cl C) κ' M (bK ixs δ):=by
 have kfree:∀ {x:Str} {k:NameKind},(relabel sc X.env).names.lookup x=some k->k=.cell\/k=.free->(x,NameKind.free)∈sc.names:=fun {x k} e hk=>by
  cases q:sc.names.lookup x with
  | none =>
   have z:=jK (env:=X.env) q;have z':(relabel sc X.env).names.lookup x=none:=z;rw [e] at z';cases z'
  | some k0 =>
   have z:=fB (env:=X.env) q;have z':(relabel sc X.env).names.lookup x=_:=z;rw [e] at z';have m:=PySem.mem_of_lookup q;have hz:=Option.some.inj z'
   by_cases hc:(k0==NameKind.free&&X.env.scope.kind==.function&&X.env.kindOf x==some .cell)=true
   ·have h0:k0=.free:=by
     simp only [Bool.and_eq_true,beq_iff_eq] at hc;exact hc.1.1
    rw [<- h0];exact m
   ·rw [if_neg hc] at hz;subst hz;rcases hk with hk | hk
    ·exact absurd hk (SC.nocell _ m)
    ·rw [<- hk];exact m
 refine ⟨⟨F.ok.mod,SC.kind,F.ok.glob,F.ok.blt,fun x y c e1 e2=>F.ok.inj x y c (hcl1 x c e1) (hcl1 y c e2),fun x hx=>?_,hb,SC.nd⟩,?_,⟨o,_,hC,ho,fun j x w e1 e2 e3=>?_⟩,fun x c e=>?_,F.frs.kp fun a z=>k a (F.mine (.inr (.inr z)))⟩
 ·rcases hx with hx | hx
  ·exact hcl2 _ (kfree hx (.inl rfl)) rfl
  ·exact hcl2 _ (kfree hx (.inr rfl)) rfl
 ·show (bK ixs δ).length=N'.length;unfold bK;rw [List.length_map];exact SC.len
 ·obtain ⟨i,ei,ev⟩:=wZ e2;obtain ⟨eN,ef⟩:=SC.at e1 ei;have hm:=PySem.mem_of_lookup ef;have hvis:X.env.scope.names.lookup x=some .cell\/X.env.scope.names.lookup x=some .free:=SC.free _ hm rfl;obtain ⟨_,m,_,_,hl⟩:=F.loc;obtain ⟨u,r,l⟩:=hl i x w eN ev (.inr hvis);refine ⟨u,r,?_⟩;rcases l with ⟨hk,_⟩ | ⟨_,c,oc,ec,eo,ed⟩
  ·have hk':X.env.scope.names.lookup x=some .local:=hk;rcases hvis with z | z
   ·rw [hk'] at z;cases z
   ·rw [hk'] at z;cases z
  ·obtain ⟨c',ec'⟩:=hcl2 _ hm rfl;have e5:=hcl1 _ _ ec';rw [ec] at e5;have e6:c=c':=Option.some.inj e5;subst e6;refine .inr ⟨?_,c,oc,ec',by rw [k c (by rw [eo];exact fun z=>nomatch z)];exact eo,ed⟩;have z:=fB (env:=X.env) ef;have z':(relabel sc X.env).names.lookup x=_:=z
   by_cases hc:(NameKind.free==NameKind.free&&X.env.scope.kind==.function&&X.env.kindOf x==some .cell)=true
   ·rw [if_pos hc] at z';exact .inl z'
   ·rw [if_neg hc] at z';exact .inr z'
 ·obtain ⟨oc,v,e1,e2⟩:=F.cell x c (hcl1 x c e);exact ⟨oc,v,by rw [k c (by rw [e1];exact fun z=>nomatch z)];exact e1,e2⟩
def aA2 {S:Sx} {A:Around} {E:Value->Shared->Prop} {a:Addr} {us:List Value} {n:Nat} {u:Value} {Q:Value->Shared->Prop} (R:Mem S κ M h s) (ea:κ a=some (true,aV us n)) (hz:us.length < sizeLine)
  (q:∀ s' n',Mem S (κ.up a (true,aV (us++[u]) n')) M h s'->(∀ b o,b≠a->s.heap.get? b=some o->s'.heap.get? b=some o)->Q .none s'):Wp S A (call (.builtin "list.append") [.ref a,u]) Q E s:=by
 have e:=(R.k a _ _ ea).1 rfl;refine call_meets F.slot_list_append ⟨_,e,rfl⟩ F.entry_list_append (F.args_list_append_2 _ _) (PySem.list_append a us.toArray n u (by rw [List.size_toArray];omega)) ⟨e,?_⟩;have q2:=PySem.IsL.update e (·.push u);have ep:us.toArray.push u=(us++[u]).toArray:=by simp
 rw [ep] at q2;have k:∀ b o,b≠a->s.heap.get? b=some o->(s.heap.update a (Obj.mapSeq (·.push u))).get? b=some o:=fun b o hb e=>(Heap.get?_update_other s.heap _ (Ne.symm hb)).trans e;exact q _ _ (R.own ea k q2 R.bare rfl) k
def mJ (hd:X.A.handled=none) (SC:CompSc X.N N' ixs X.env.scope sc) (hcl1:∀ x c,cl.lookup x=some c->X.env.cells.lookup x=some c) (hcl2:∀ y∈sc.names,y.2=.free->∃ c,cl.lookup y.1=some c)
  (hg:∀ cl C,SG (blk X N' sc cl C) tg g) (ht:∀ cl C,SIf (blk X N' sc cl C) ifs tt) (he:∀ cl C,SE (blk X N' sc cl C) elt te) {all:List W} {co:aA->Bool} {it:Addr} {fp:List Addr} {tn:Nat->Heap->Prop} {ws:List W} {R':Value->Addr->Result->Shared->Prop}
  (F:Fra X κ M δ) (R:Mem X.S κ M h s) (T:TurnW X.S tg all co M fp it tn) (t0:tn 0 s.heap) (f0:∀ b∈fp,aZ κ M b) (hz:all.length<=sizeLine) (e:eZ g tt te co all (bK ixs δ) h []=some (ws,h'))
  (hR:∀ {s':Shared} {m:Str->Option Value} {M':Mp} {us:List Value} {n:Nat},Le M M'->Mem X.S κ M' h' s'->s'.heap.get? s.heap.objs.size=some (aV us n)->aZ κ M' s.heap.objs.size->aZ κ M' (s.heap.objs.size+1)->us.length<=sizeLine->RepWs X.S M' ws us->s'.heap.Ns (s.heap.objs.size+1) m->R' (.ref s.heap.objs.size) (s.heap.objs.size+1) (.ok .next) s') :
  Wp X.S X.A (newList []) (fun acc s₃=>Wp X.S X.A (newFunctionEnv sc X.env.globals cl [] X.env.qual none .none (some X.env)) (fun cenv s₄ =>
   codeAny (model X.S.P X.S.w) X.A (.compStart (.ListComp elt [⟨tg,iter,ifs,0⟩] sc pos) 0 (.ref it) acc { cenv with scope:=relabel sc X.env }) (R' acc cenv.locals) s₄) NE s₃) NE s:=by
 refine wpAny_newObj_type (wpAny_newFunctionEnv SC.nocell (by intro y hy;simp at hy) (fun h₁ hns₁ hsb₁=>?_) SC.kind);dsimp only at hns₁ hsb₁ ⊢;have eC:(s.heap.push { cls:=.type "list",dict:=none,data:=.seq ([]:List Value).toArray }).objs.size=s.heap.objs.size+1:=by rw [Heap.size_push]
 rw [eC] at hns₁ hsb₁ ⊢;obtain ⟨acc,ea⟩:∃ a,a=s.heap.objs.size:=⟨_,rfl⟩;rw [<- ea] at hns₁ hsb₁ hR ⊢;have nAC:acc≠acc+1:=Nat.ne_of_lt (Nat.lt_succ_self _);have old:∀ b o,s.heap.get? b=some o->h₁.get? b=some o:=fun b o e=>hsb₁.extBut b o (by rw [ea];exact Nat.ne_of_lt (Nat.lt_succ_of_lt (Heap.lt_size e))) (Heap.get?_push_of_some _ (Heap.get?_push_of_some _ e));have hacc:h₁.get? acc=some (aV [] 0):=by
  refine hsb₁.extBut _ _ nAC ?_;rw [ea];exact Heap.get?_push_of_some _ (Heap.get?_push_size _ rfl)
 obtain ⟨oC,es,ep,hoC,hd1,hk1,hm1⟩:=id hns₁;have fA:aZ κ M acc:=ea ▸ R.size;have fC:aZ κ M (acc+1):=R.new (Heap.get?_none_of_le (by rw [ea];exact Nat.le_succ _));have R1:Mem X.S κ M h { s with heap:=h₁,toks:=s.toks+([]:List (Str×Value)).length }:=R.kept old;have R2:=(R1.more (b:=true) ⟨fA.1,fA.2.2⟩ hacc).more (b:=false) ⟨fC.1,fC.2.2⟩ hoC;have hfl:∀ b∈fp,b≠acc/\b≠acc+1:=fun b hb=>by
  obtain ⟨o,q⟩:=T.obj _ _ t0 b hb;have:=Heap.lt_size q;rw [<- ea] at this;exact ⟨Nat.ne_of_lt this,Nat.ne_of_lt (Nat.lt_succ_of_lt this)⟩
 have F2:Fra (blk X N' sc cl (acc+1)) ((κ.up acc (true,aV [] 0)).up (acc+1) (false,oC)) M (bK ixs δ):=aA1 F SC hcl1 hcl2 (fun a ha=>by
  rw [bG fun z=>ha (by rw [z];exact fC.2.1),bG fun z=>ha (by rw [z];exact fA.2.1)]) fQ ⟨es,ep,hd1,hk1,hm1⟩ (by rw [ea];exact Nat.le_succ_of_le (F.size R))
 have f2:∀ b∈fp,aZ ((κ.up acc (true,aV [] 0)).up (acc+1) (false,oC)) M b:=fun b hb=>⟨(f0 b hb).1,by rw [bG (hfl b hb).2,bG (hfl b hb).1];exact (f0 b hb).2.1,(f0 b hb).2.2⟩;generalize hY:blk X N' sc cl (acc+1)=Y at F2;have hg':SG Y tg g:=by subst hY;exact hg _ _
 have ht':SIf Y ifs tt:=by subst hY;exact ht _ _
 have he':SE Y elt te:=by subst hY;exact he _ _
 have eS:Y.S=X.S:=by subst hY;rfl
 have eA:Y.A=X.A:=by subst hY;rfl
 have eL:Y.env.locals=acc+1:=by subst hY;rfl
 have eF:Y.fn=false:=by subst hY;rfl
 have loop:∀ s₃:Shared,s₃={ s with heap:=h₁,toks:=s.toks+([]:List (Str×Value)).length } ->
   codeAny (model X.S.P X.S.w) X.A (.compLoop (.ListComp elt [⟨tg,iter,ifs,0⟩] sc pos) 0 (.ref it) (.ref acc) Y.env) (R' (.ref acc) (acc+1)) s₃:=by
  rintro s₃ rfl;clear hY;obtain ⟨I,hI⟩:∃ I:Nat->Shared->Prop,I=fun n s'=>∃ i κ' M' δ' hh us m ac,n=all.length - i/\i<=all.length/\(κ' acc=some (true,aV us m)/\∀ a,a≠acc->a≠acc+1->κ' a=κ a)/\Le M M'/\Mem X.S κ' M' hh s'/\Fra Y κ' M' δ'/\tn i s'.heap/\(∀ b∈fp,aZ κ' M' b)/\ac.length<=i/\RepWs X.S M' ac us/\eZ g tt te co (all.drop i) δ' hh ac=some (ws,h'):=⟨_,rfl⟩;refine aA0 I ?_ all.length (by rw [hI];exact ⟨0,_,M,_,h,[],0,[],rfl,Nat.zero_le _,⟨by rw [bG nAC];exact fQ,fun a h1 h2=>by rw [bG h2,bG h1]⟩,.refl,R2,F2,T.keep _ _ _ t0 (fun b _ o e=>old b o e),f2,Nat.le_refl _,.nil,e⟩);intro n s3 hn;rw [hI] at hn;obtain ⟨i,κ3,M3,δ3,h3,us,m,ac,rfl,hle,⟨ka,ko⟩,l3,R3,F3,t3,f3,hac,rac,e3⟩:=hn;have hlen:=rac.length;have back:∀ {κ7 M7 h7 s7},(κ7 acc=some (true,aV us m)/\∀ a,a≠acc->a≠acc+1->κ7 a=κ a)->Mem X.S κ7 M7 h7 s7->Mem X.S κ M7 h7 s7:=fun k R7=>R7.less fun a x q=>by
   rw [k.2 a (fun z=>by rw [z,fA.2.1] at q;cases q) (fun z=>by rw [z,fC.2.1] at q;cases q)];exact q
  cases q:all[i]? with
  | none =>
   have hl:all.length<=i:=List.getElem?_eq_none_iff.mp q;rw [List.drop_of_length_le hl] at e3;obtain ⟨co3,e3⟩:=aE (show (if co h3=true then some (ac,h3) else none)=some (ws,h') from e3);cases e3;refine thn (T.done hd R3 l3 f3 t3 hl co3) fun r s4 ⟨hr,R4⟩=>?_;subst hr;obtain ⟨mC,hnC,_⟩:=F3.ns (h:=h') (s:=s4) (by rw [eS];exact R4);rw [eL] at hnC;have ho:=(R4.k acc _ _ ka).1 rfl;have za:=(R4.k acc _ _ ka).2.2;obtain ⟨oL,_,kL,_⟩:=F3.loc;rw [eL] at kL;have R5:=back ⟨ka,ko⟩ R4;have fr:aZ κ M3 acc:=⟨za,fA.2.1,R4.kc ka⟩;exact hR l3 R5 ho fr ⟨(R4.k _ _ _ kL).2.2,fC.2.1,R4.kc kL⟩ (by omega) rac hnC
  | some x =>
   have hlt:i < all.length:=(List.getElem?_eq_some_iff.mp q).1;rw [wW q] at e3;unfold eZ at e3;obtain ⟨co3,e3⟩:=aE e3;obtain ⟨⟨δ4,h4⟩,e4,e3⟩:=bind_some e3;obtain ⟨⟨tb,h5⟩,e5,e3⟩:=bind_some e3;refine thn (T.item hd R3 l3 f3 t3 q co3) fun r s4 ⟨u,hr,q4⟩=>?_;subst hr;refine thn q4 fun _ s5 ⟨M5,l5,R5,r5,t5,fr5⟩=>?_;have F5:=F3.go l5;rw [<- eS] at R5;have w6:=hg' (R5.pin fr5) (F5.pin fr5) (show RepW Y.S M5 x u by rw [eS];exact r5) e4;rw [eS,eA] at w6;refine thn w6 fun _ s6 ⟨κ6,M6,o6,l6,R6,F6⟩=>?_;rw [<- eS] at R6;have w7:=ht' R6 F6 e5;rw [eS,eA] at w7;refine thn w7 fun t' s7 ⟨et,M7,l7,R7⟩=>?_;subst et;have notC:∀ a,a≠acc+1->κ6 a=fR κ3 fp s5.heap a:=fun a ha=>by
    by_cases z:κ6 a=fR κ3 fp s5.heap a
    ·exact z
    ·rcases o6 a z with y | y
     ·rw [eL] at y;exact absurd y ha
     ·rw [eF] at y;exact absurd y.1 Bool.false_ne_true
   have k6:κ6 acc=some (true,aV us m):=by
    rw [notC acc nAC];unfold fR;rw [if_neg fun hm=>(hfl acc hm).1 rfl];exact ka
   have kun:∀ κ8:Kp,(∀ a,a≠acc->κ8 a=κ6 a)->∀ a,a≠acc->a≠acc+1->unK fp κ8 a=κ a:=fun κ8 hk a h1 h2=>by
    unfold unK;split
    ·rename_i hm;rw [<- ko a h1 h2];exact (f3 a hm).2.1.symm
    ·rename_i hm;rw [hk a h1,notC a h2];unfold fR;rw [if_neg hm];exact ko a h1 h2
   cases t' with
   | false =>
    obtain ⟨u1,u2,u3,u4,u5⟩:=aH9 F5 fr5 (T.obj _ _ t5) o6 R7;exact ⟨all.length - (i+1),by omega,by rw [hI];exact ⟨i+1,_,M7,δ4,h5,us,m,ac,rfl,hlt,⟨by unfold unK;rw [if_neg fun hm=>(hfl acc hm).1 rfl];exact k6,kun κ6 fun _ _=>rfl⟩,l3.trans (l5.trans (l6.trans l7)),u2,u5 _ (F6.go l7),T.keep _ _ _ t5 u4,u3,by omega,rac.go (l5.trans (l6.trans l7)),e3⟩⟩
   | true =>
    obtain ⟨⟨y,h8⟩,e8,e3⟩:=bind_some (show (te δ4 h5).bind (fun y=>eZ g tt te co (all.drop (i+1)) δ4 y.2 (ac++[y.1]))=some (ws,h') from e3);rw [<- eS] at R7;have w8:=he' R7 (F6.go l7) e8;rw [eS,eA] at w8;refine thn w8 fun v s8 ⟨M8,l8,R8,r8⟩=>?_;refine aA2 R8 k6 (by omega) fun s9 m9 R9 k9=>?_;have o9:Own Y (fR κ3 fp s5.heap) κ6:=o6;obtain ⟨_,u2,u3,u4,_⟩:=aH9 (X:=Y) F5 fr5 (T.obj _ _ t5) o9 R8;have u4':∀ b∈fp,∀ o,s5.heap.get? b=some o->s9.heap.get? b=some o:=fun b hb o e=>k9 b o (hfl b hb).1 (u4 b hb o e);have Rn:Mem X.S (unK fp (κ6.up acc (true,aV (us++[v]) m9))) M8 h8 s9:=R9.less fun a x q=>by
     unfold unK at q;split at q
     ·cases q
     ·exact q
    have fn:∀ b∈fp,aZ (unK fp (κ6.up acc (true,aV (us++[v]) m9))) M8 b:=fun b hb=>⟨(u3 b hb).1,by unfold unK;rw [if_pos hb],(u3 b hb).2.2⟩;have Fn:Fra Y (unK fp (κ6.up acc (true,aV (us++[v]) m9))) M8 δ4:=(F6.go (l7.trans l8)).kp fun a ha=>by
     have z:=F5.mine ha;have n1:a∉fp:=fun hm=>z (fr5 a hm).2.1;have n2:a≠acc:=fun hz=>by
      rcases ha with y | ⟨x,y⟩ | ⟨l,env,z1,z2,z3⟩
      ·rw [eL] at y;exact nAC (hz.symm.trans y)
      ·obtain ⟨o,vv,q1,q2⟩:=F3.cell x a y;rw [hz,ka] at q1;cases q1;cases q2
      ·obtain ⟨l',y1,y2⟩:=F3.frs;rw [z1] at y1;cases y1;obtain ⟨_,L,o,y3,y4,_⟩:=y2 env z2;rw [z3] at y3;cases y3;rw [hz,ka] at y4;cases y4
     unfold unK;rw [if_neg n1,bG n2]
    have l:=l3.trans (l5.trans (l6.trans (l7.trans l8)));exact ⟨all.length - (i+1),by omega,by rw [hI];exact ⟨i+1,_,M8,δ4,h8,us++[v],m9,ac++[y],rfl,hlt,⟨by unfold unK;rw [if_neg fun hm=>(hfl acc hm).1 rfl];exact fQ,kun _ fun a h1=>bG h1⟩,l,Rn,Fn,T.keep _ _ _ t5 u4',fn,by rw [List.length_append,List.length_singleton];omega,Paired.snoc (rac.go (l5.trans (l6.trans (l7.trans l8)))) r8,e3⟩⟩
 have eEnv:Y.env={ (newEnv sc (acc+1) X.env.globals cl X.env.qual none .none (some X.env) builtinsNs) with scope:=relabel sc X.env }:=by subst hY;rfl
 rw [eEnv] at loop;exact codeAny_compStart_list (loop _ rfl) (T.self X.A 0 _ _ _ (T.keep _ _ _ t0 fun b _ o e=>old b o e) (loop _ rfl))
end
end DL

namespace DL
open PySem PySem.Spec PyProof.Rows L2 CI
section
variable {X:Cx} {st:Sta} {d:Nat} {v:Evs} {κ:Kp} {M:Mp} {δ:DSt} {h h' h2:aA} {s:Shared} {N':List Str} {ixs:List (Option Nat)} {sc:Scope} {a b e tg iter elt:Expr} {es:List Expr} {ifs:List Expr} {pos:Pos} {g:XG} {tt:XR Bool} {te:XR W} {f:XR (List PyData×Cw)} {x:Str} {i:Nat} {w:W}
def Mem.drop {S:Sx} {C:Addr} {h3:Heap} (R:Mem S κ M h s) (f:aZ κ M C) (k:Heap.SameBut C s.heap h3):Mem S κ M h { s with heap:=h3 }:=R.keep (fun b o e nf=>(k.2 b fun z=>nf (by rw [z];exact f)).trans e) R.bare rfl
def bI7 {all:List PyData} {c:Cw} {h1:aA} {ws:List W} (hd:X.A.handled=none) (SC:CompSc X.N N' ixs X.env.scope sc) (hi:SI X tg iter f) (hg:∀ cl C,SG (blk X N' sc cl C) tg g) (ht:∀ cl C,SIf (blk X N' sc cl C) ifs tt) (he:∀ cl C,SE (blk X N' sc cl C) elt te) (hs:∀ x,foldedSetIterable iter X.env x=pure x)
  (R:Mem X.S κ M h s) (F:Fra X κ M δ) (e1:f δ h=some ((all,c),h1)) (e2:jL g tt te c all all (bK ixs δ) h1 []=some (ws,h')):Wp X.S X.A (eval (.ListComp elt [⟨tg,iter,ifs,0⟩] sc pos) X.env) (Pl X.S κ M h' ws) NE s:=by
 obtain ⟨cl,ecl,hcl1,hcl2⟩:=gK (sc:=sc) (env:=X.env) fun y hy hf=>F.ok.has y.1 (SC.free y hy hf);rw [eval_ListComp];refine wpAny_comprehension_free (use:=none) rfl hs ecl SC.kind SC.loc ?_;refine thn (hi R F e1) fun v s1 q1=>thn q1 fun itv s2 q2=>?_;obtain ⟨M2,it,fp,tn,l2,R2,rfl,T,t2,f2,hz⟩:=q2;refine mJ (R':=fun acc C=>compPost (model X.S.P X.S.w) X.A NE none (Pl X.S κ M h' ws) acc C) hd SC hcl1 hcl2 hg ht he (F.go l2) R2 T.w t2 f2 (by rw [List.length_map];exact hz) (by rw [<- qK];exact e2) fun {s' m M' us n} l R ho fa fc z r hn=>⟨m,hn,fun h3 k3=>?_⟩;exact ⟨M',l2.trans l,R.drop fc k3,_,us,n,rfl,(k3.2 _ (Nat.ne_of_lt (Nat.lt_succ_self _))).trans ho,fa,z,r⟩
def bI8 {all:List PyData} {c:Cw} {h1:aA} {ws:List W} {py spos:Pos} (hd:X.A.handled=none) (SC:CompSc X.N N' ixs X.env.scope sc) (hi:SI X tg iter f) (hg:∀ cl C,SG (blk X N' sc cl C) tg g) (ht:∀ cl C,SIf (blk X N' sc cl C) ifs tt) (he:∀ cl C,SE (blk X N' sc cl C) elt te) (hs:∀ x,foldedSetIterable iter X.env x=pure x)
  (R:Mem X.S κ M h s) (F:Fra X κ M δ) (e1:f δ h=some ((all,c),h1)) (e2:jL g tt te c all all (bK ixs δ) h1 []=some (ws,h')) (cv:∀ {κ:Kp} {M:Mp} {u:Value} {s:Shared},Pl X.S κ M h' ws u s->Pw X.S κ M h2 w u s)
  (hiN:X.N[i]?=some x) (hx:X.env.scope.names.lookup x=some .local) (hsw:swapsWith (.ListComp elt [⟨tg,iter,ifs,0⟩] sc pos) (some (.Name x py)) spos.line X.env=pure true):Wp X.S X.A (exec (.Assign [.Name x py] (.ListComp elt [⟨tg,iter,ifs,0⟩] sc pos) spos) X.env) (Ps X κ M h2 (.nx (δ.set i (some w)))) NE s:=by
 obtain ⟨cl,ecl,hcl1,hcl2⟩:=gK (sc:=sc) (env:=X.env) fun y hy hf=>F.ok.has y.1 (SC.free y hy hf);rw [exec_Assign_Name_used _ _ _ _ hsw];refine wpAny_bind (wpAny_standAt (wpAny_bind ?_));show wpAny _ _ (do let _ <- comprehension (.ListComp elt [⟨tg,iter,ifs,0⟩] sc pos) sc X.env _ (newList []) false (eval iter X.env) (some (assign (.Name x py) X.env))) _ _ s;refine wpAny_bind (thn (wpAny_comprehension_free (use:=some (assign (.Name x py) X.env)) (Q:=fun _ s'=>Ps X κ M h2 (.nx (δ.set i (some w))) .next s') rfl hs ecl SC.kind SC.loc ?_) fun _ s' hq=>wpAny_pure (wpAny_pure hq));refine thn (hi R F e1) fun v s1 q1=>thn q1 fun itv s2 q2=>?_;obtain ⟨M2,it,fp,tn,l2,R2,rfl,T,t2,f2,hz⟩:=q2;refine mJ (R':=fun acc C=>compPost (model X.S.P X.S.w) X.A NE (some (assign (.Name x py) X.env)) (fun _ s'=>Ps X κ M h2 (.nx (δ.set i (some w))) .next s') acc C) hd SC hcl1 hcl2 hg ht he (F.go l2) R2 T.w t2 f2 (by rw [List.length_map];exact hz) (by rw [<- qK];exact e2) fun {s' m M' us n} l R ho fa fc z r hn=>?_;show wpAny _ _ (assign (.Name x py) X.env (.ref s2.heap.objs.size)) _ _ s';generalize eC:s2.heap.objs.size+1=C at fc hn;have nA:s2.heap.objs.size≠C:=by rw [<- eC];exact Nat.ne_of_lt (Nat.lt_succ_self _)
 obtain ⟨oC,es,ep,hoC,hC⟩:=id hn;have RC:=R.more (b:=true) ⟨fc.1,fc.2.2⟩ hoC;have FC:Fra X (κ.up C (true,oC)) M' δ:=((F.go l2).go l).kp fun a ha=>bG fun z=>F.mine ha (by rw [z];exact fc.2.1);obtain ⟨M3,l3,R3,r3⟩:=cv ⟨M',.refl,RC,_,us,n,rfl,ho,⟨fa.1,by rw [bG nA];exact fa.2.1,fa.2.2⟩,z,r⟩;refine wpAny_assign_Name (aH1 (FC.go l3) R3 hiN (.inl hx) (.inr hx) r3 fun s4 κ4 o4 R4 F4 _=>?_);have kC:κ4 C=some (true,oC):=by
  by_cases q:κ4 C=κ.up C (true,oC) C
  ·rw [q];exact fQ
  ·have own:C=X.env.locals\/∃ x,X.env.cells.lookup x=some C:=by
    rcases o4 C q with y | y
    ·exact .inl y
    ·exact .inr y.2
   exact absurd fc.2.1 (F.mine (own.imp_right .inl))
 have h4:=(R4.k C _ _ kC).1 rfl;refine ⟨m,⟨oC,es,ep,h4,hC⟩,fun h5 k5=>⟨unK [C] κ4,M3,fun a ha=>?_,l2.trans (l.trans l3),?_,F4.kp fun a ha=>?_⟩⟩
 ·have na:a≠C:=fun z=>ha (by unfold unK;rw [if_pos (by simp [z]),z];exact fc.2.1.symm);refine o4 a fun q=>ha ?_;unfold unK;rw [if_neg (by simpa using na),q,bG na]
 ·have R5:Mem X.S (unK [C] κ4) M3 h2 s4:=R4.less fun a x q=>by
   unfold unK at q;split at q
   ·cases q
   ·exact q
  exact R5.drop ⟨(R4.k C _ _ kC).2.2,by unfold unK;rw [if_pos (by simp)],R4.kc kC⟩ k5
 ·unfold unK;rw [if_neg fun hm=>F.mine ha (by rw [List.mem_singleton.mp hm];exact fc.2.1)]
def bW2 {S:Sx} {xs:List PyData} {u:Value} (p:Pl S κ M h (xs.map .d) u s):Pf S κ M h xs u s:=let ⟨N,l,R,a,us,n,e1,e2,f,z,r⟩:=p;⟨N,l,R,a,us,n,e1,e2,f,z,show Paired (fun a b=>RepW S N (.d a) b) xs us from bC5 r⟩
def cM0 {S:Sx} {is:List W} {u:Value} (p:Pl S κ M h is u s):Pw S κ M (h++[.r is]) (.c h.length) u s:=by
 obtain ⟨N,l,R,a,us,n,rfl,e,f,z,r⟩:=p;exact ⟨N.cel (a,a),l.trans .cel,R.add f f ⟨⟨_,e⟩,_,e⟩ ⟨us,n,e,z,r.go .cel⟩,(a,a),by show (N.m++[(a,a)])[h.length]?=_;rw [<- R.len];simp,rfl⟩
def lN {N:List Str} {S:Scope} (h:oO N sc S=true):CompSc N (iZ sc) (fL N sc) S sc:=by
 unfold oO at h;simp only [Bool.and_eq_true,decide_eq_true_eq,List.all_eq_true] at h;obtain ⟨h1,h2,h3,h4,h5,h6⟩:=h;refine ⟨h1,fun y hy e=>?_,fun y hy e=>?_,fun y hy e=>?_,h5,by unfold fL;rw [List.length_map],?_⟩
 ·have:=h2 y hy;rw [e] at this;simp at this
 ·have:=h3 y hy;rw [e] at this
  simpa using this
 ·have:=h4 y hy;rw [e] at this
  simpa using this
 ·rw [List.all_eq_true];exact h6
def cV (G:Good X st d) (cl:List (Str×Addr)) (C:Addr):Good (blk X (iZ sc) sc cl C) (st.blk sc) d:=by
 refine ⟨G.bl,G.gc,G.tk,G.fn,G.fnW,G.cls,G.om,G.fo,rfl,?_,(fun z=>nomatch z),G.rm,fun q z=>nomatch z⟩;show relabel sc X.env=bG8 sc st.S;unfold relabel bG8 Env.kindOf;rw [G.S]
theorem uS (S:Snd v) (G:Good X st d):∀ ifs,SIf X ifs (aF9 v st ifs)
 | []=>fun _ _ _ _ _ _ _ R F e=>by cases e;exact wpAny_tests_nil ⟨rfl,_,.refl,R⟩
 | [c]=>fun _ _ _ _ _ _ _ R F e=>wpAny_tests_one (S.T G c R F e)
 | _::_::_=>fun _ _ _ _ _ _ _ R F e=>by cases e
def qL (h:jJ e=false) (env:Env) (y:Value):foldedSetIterable e env y=pure y:=by
 cases e<;>first | rfl | cases h
def ItS (v:Evs):Prop:=∀ {X:Cx} {st:Sta} {d:Nat},Good X st d->∀ tg iter,SI X tg iter (rV v st tg iter)
def bI9 (S:Snd v) (I:ItS v) (G:Good X st d):SF X (.ListComp elt [⟨tg,iter,ifs,0⟩] sc pos) (kX v st elt tg iter ifs sc):=by
 unfold kX;split
 ·rename_i hc;rw [Bool.and_eq_true] at hc;have hs:jJ iter=false:=by simpa using hc.2
  intro κ M δ h s w h' R F e;obtain ⟨⟨all,c⟩,h1,e1,e⟩:=aF e;exact thn (bI7 G.rm.hd (by rw [G.S,G.N];exact lN hc.1) (I G tg iter) (fun cl C=>S.G (cV G cl C) tg) (fun cl C=>uS S (cV G cl C) ifs) (fun cl C=>S.E (cV G cl C) elt) (qL hs _) R F e1 (jM e)) fun _ _ p=>bW2 p
 ·exact fun _ _ _ _ _ _ _ _ _ e=>by cases e
def aU7 (S:Snd v) (G:Good X st d):SE X (.ListComp elt [⟨tg,iter,ifs,0⟩] sc pos) (qB v st elt tg iter ifs sc):=by
 unfold qB;split
 ·rename_i hc;rw [Bool.and_eq_true] at hc;have hs:jJ iter=false:=by simpa using hc.2
  intro κ M δ h s w h' R F e;obtain ⟨x,h1,e1,e⟩:=aF e;cases x with
  | d x=>cases e
  | c j =>
   obtain ⟨ws,ew,e⟩:=bind_some e;obtain ⟨⟨vs,h2⟩,e2,e⟩:=bind_some e;cases e;have SC:CompSc X.N (iZ sc) (fL X.N sc) X.env.scope sc:=by rw [G.S,G.N];exact lN hc.1
   have e2:eZ (v.G (st.blk sc) tg) (aF9 v (st.blk sc) ifs) (v.E (st.blk sc) elt) (coW j ws) ws (bK (fL X.N sc) δ) h1 []=some (vs,h2):=by rw [G.N];exact e2
   obtain ⟨cl,ecl,hcl1,hcl2⟩:=gK (sc:=sc) (env:=X.env) fun y hy hf=>F.ok.has y.1 (SC.free y hy hf);refine thn ?_ fun _ _ p=>cM0 p;rw [eval_ListComp];refine wpAny_comprehension_free (use:=none) rfl (qL hs _) ecl SC.kind SC.loc ?_;refine thn (S.E G iter R F e1) fun u s1 ⟨M1,l1,R1,r1⟩=>?_;obtain ⟨p,ep,rfl⟩:=r1;obtain ⟨us,n,ho,hz,rr⟩:=uP R1 ep ew;refine wpAny_pyIter_list (bM ho).isList ?_;exact mJ (R':=fun acc C=>compPost (model X.S.P X.S.w) X.A NE none (Pl X.S κ M h2 vs) acc C) G.rm.hd SC hcl1 hcl2 (fun cl C=>S.G (cV G cl C) tg) (fun cl C=>uS S (cV G cl C) ifs) (fun cl C=>S.E (cV G cl C) elt) (F.go l1) (R1.kept (t:=s1.toks) fun b o e=>Heap.get?_push_of_some _ e) (aU5 ep) ⟨_,Heap.get?_push_size _ rfl,rfl,rfl⟩ R1.one (by rw [rr.length];exact hz) e2 fun {s' m M' us n} l R ho fa fc z r hn=>⟨m,hn,fun h3 k3 =>
    ⟨M',l1.trans l,R.drop fc k3,_,us,n,rfl,(k3.2 _ (Nat.ne_of_lt (Nat.lt_succ_self _))).trans ho,fa,z,r⟩⟩
 ·exact fun _ _ _ _ _ _ _ _ _ e=>by cases e
def bW3 {gs:List Comprehension} {tg iter:Expr} {ifs:List Expr} (e:gW st gs=some (tg,iter,ifs)):gs=[⟨tg,iter,ifs,0⟩]:=by
 unfold gW at e;obtain ⟨y,_,ey⟩:=Option.map_eq_some_iff.mp e;have:=y.2;rw [ey] at this;exact this
def xA {f:XR (List PyData)} (hf:SF X e f):SE X e (bS f):=by
 intro κ M δ h s w h' R F e;obtain ⟨⟨xs,h1⟩,e1,e⟩:=bind_some (show (f δ h).bind _=_ from e);cases e;exact thn (hf R F e1) fun _ _ p=>aG3 p
def oS {f:XR (List PyData)} (hf:SF X e f):SE X e (aK f):=by
 intro κ M δ h s w h' R F e;obtain ⟨⟨xs,h1⟩,e1,e⟩:=bind_some (show (f δ h).bind _=_ from e);cases e;exact thn (hf R F e1) fun _ _ p=>qC p
def gL:SF X e xno:=fun _ _ _ _ _ _ _ _ _ e=>by cases e
def Pf.go {S:Sx} {M M':Mp} {xs:List PyData} {u:Value} (l:Le M M') (p:Pf S κ M' h xs u s):Pf S κ M h xs u s:=let ⟨N,a,b⟩:=p;⟨N,l.trans a,b⟩
theorem bW4 (S:Snd v) (G:Good X st d):SF X (.BinOp a .Add b pos) (xb (v.E st a) fun u=>xb (v.E st b) fun w=>fun _ h=>(match ref h u,ref h w with
  | some (.list xs),some (.list ys)=>if xs.length+ys.length<=sizeLine then some (xs++ys,h) else none
  | _,_=>none)):=by
 intro κ M δ h s w h' R F e;obtain ⟨x,h1,e1,e⟩:=aF e;obtain ⟨y,h2,e2,e⟩:=aF e;refine wpAny_BinOp (thn (S.E G a R F e1) fun u s1 ⟨M1,l1,R1,r1⟩=>thn (S.E G b R1 (F.go l1) e2) fun v s2 ⟨M2,l2,R2,r2⟩=>?_);split at e
 ·rename_i ha hb;obtain ⟨hz,e⟩:=aE e;cases e;obtain ⟨a,us,n,rfl,ea,la,ra'⟩:=dI R2 (r1.go l2) ha;obtain ⟨b,vs,m,rfl,eb,lb,rb'⟩:=dI R2 r2 hb;have k1:=ra'.length;have k2:=rb'.length;refine PySem.P.add_list ea eb ?_ (by rw [List.size_toArray,List.size_toArray];omega);have ea:us.toArray++vs.toArray=(us++vs).toArray:=by simp
  rw [ea];exact Pf.go (l1.trans l2) (R2.lstP (t:=s2.toks) (aF0 ra' rb') (by rw [List.length_append];omega))
 ·cases e
def bW5 (S:Snd v) (G:Good X st d) {lo hi:Option Expr} {p2:Pos}:SE X (.Subscript a (.Slice lo hi none p2) pos) (xb (v.E st a) fun x=>xb (uI v st lo) fun l=>xb (uI v st hi) fun u=>fun _ h=>xSl x l u h):=by
 intro κ M δ h s w h' R F e;refine cL8 S G (Q:=Pw X.S κ M h') (r:=(w,h')) R F e fun l1 R1 r1 hs pl pu e=>?_;unfold xSl at e;split at e
 ·cases e;obtain ⟨t,q⟩:=sl_t (A:=X.A) (E:=NE) R1 r1 hs pl pu;exact ⟨"tuple",_,PyProof.Rows.slot_tuple_getitem.lookup,t,thn q fun _ _ p=>p.go l1⟩
 ·split at e
  ·rename_i ea;cases e;obtain ⟨t,q⟩:=sl_l (A:=X.A) (E:=NE) R1 r1 ea hs pl pu;exact ⟨"list",_,slot_list_getitem.lookup,t,thn q fun _ _ p=>(qC p).go l1⟩
  ·cases e
end
end DL


namespace DL
open PySem PySem.Spec PyProof.Rows L2 CI
section
variable {S:Sx} {κ:Kp} {M:Mp} {h h':aA} {s:Shared} {A:Around} {E:Value->Shared->Prop} {d:Nat}
def Room.deeper {k:Nat} (r:Room (k+1) A) (env:Env):Room k (A.deeper env) :=
 ⟨r.hd,by have:=r.dp;show A.depth+1+3*k+5 < _;omega,by have:=r.un;show A.units+3+16*k+200 < _;omega⟩
def aI1 {f:Addr} {fd:FuncData} {ps:List Str} {m:XFW} {us:List Value} {ws:List W} {w:W} (F:FnS S d f fd ps m) (hr:Room d A) (fo:FrO κ A) (hb:hU S.K fd ps) (md:Mod S) (hz:S.base.objs.size<=s.heap.objs.size) (R:Mem S κ M h s) (r:RepWs S M ws us) (e:m ws h=some (w,h')):Wp S A (call (.ref f) us) (Pw S κ M h' w) E s:=by
 have hl:us.length=ps.length:=by rw [<- r.length];exact F.len _ _ _ e
 refine wpAny_call (codeAny_mono (F.run (args:=⟨us,[]⟩) hr fo md hz R (hb s us (md.kin.keeps R.bk) hl) r e) fun r s' ⟨u,hq,p⟩=>?_);subst hq;exact p
def RelO.some_of {w:W} {o:Option Value} (r:RelO S M (some w) o):∃ u,o=some u/\RepW S M w u:=by
 cases o with
 | none=>exact (show False from r).elim
 | some u=>exact ⟨u,rfl,r⟩
def Mem.lset {i:Nat} {p:Addr×Addr} {us us':List Value} {n t:Nat} {c:Cell} {f:Array Value->Array Value} (R:Mem S κ M h s) (ei:M.m[i]?=some p) (e:s.heap.get? p.1=some (aV us n)) (hf:f us.toArray=us'.toArray)
  (x:∀ (h2:Heap) (n':Nat),h2.get? p.1=some (aV us' n')->CellOk S M h2 p c):Mem S κ M (h.set i c) { s with heap:=s.heap.update p.1 (Obj.mapSeq f),toks:=t }:=by
 have q:=PySem.IsL.update e f;rw [hf] at q;obtain ⟨_,_,o2,ho2⟩:=R.off p (List.mem_of_getElem? ei) p.2 (.inr rfl);refine R.wr ei (fun b o n1 _ q=>(Heap.get?_update_other _ _ (Ne.symm n1)).trans q) ⟨⟨_,q⟩,?_⟩ R.bare rfl (x _ _ q)
 by_cases hq:p.2=p.1
 ·exact ⟨_,by rw [hq];exact q⟩
 ·exact ⟨o2,(Heap.get?_update_other _ _ (Ne.symm hq)).trans ho2⟩
def bJ0 {i:Nat} {p:Addr×Addr} {xs:List PyData} {x:PyData} {u:Value} (R:Mem S κ M h s) (ep:M.m[i]?=some p) (ei:h[i]?=some (.l xs)) (hz:xs.length < sizeLine) (rx:Rep S M.Z x u):Wp S A (call (.builtin "list.append") [.ref p.1,u]) (Pw S κ M (h.set i (.l (xs++[x]))) (.d .none)) E s:=by
 obtain ⟨us,n,e,hl,r⟩:=R.cel i p _ ep ei;have hlen:=r.length;refine call_meets F.slot_list_append ⟨_,e,rfl⟩ F.entry_list_append (F.args_list_append_2 _ _) (PySem.list_append p.1 us.toArray n u (by rw [List.size_toArray];omega)) ⟨e,?_⟩;exact (R.lset (t:=s.toks) (us':=us++[u]) (c:=.l (xs++[x])) ep e (by simp) fun h2 n' e'=>⟨_,n',e',by rw [List.length_append,List.length_singleton];omega,Paired.snoc r rx⟩).pn
end
section
variable {X:Cx} {st:Sta} {d:Nat} {v:Evs} {κ:Kp} {M:Mp} {δ:DSt} {h h':aA} {s:Shared} {a o:Expr} {es:List Expr} {pos p apos:Pos} {x m:Str} {w:W}
def Fra.kin (F:Fra X κ M δ):X.S.K.In X.S.base:=F.ok.mod.kin
def bJ1 {m:XFW} {fa:XR (List W)} (G:Good X st d) (ht:cL st x=true) (hm:FnG X.S d x m) (hA:SA X (a::es) fa) (hstar:∀ {δ h r},fa δ h=some r->(a::es).all aH=true):SE X (.Call (.Name x p) (a::es) [] pos) (xb fa fun ws=>fun _ h=>m ws h):=by
 intro κ M δ h s w h' R F e;obtain ⟨hn,hg⟩:=qI G ht;obtain ⟨ws,h1,e1,e⟩:=aF e;have hst:=hstar e1;rw [List.all_cons,Bool.and_eq_true] at hst;rcases hm with z | ⟨f,fd,ps,mg,kp,hb,FF⟩
 ·rw [z] at e;cases e
 refine wpAny_Call_Name_kw (lL F R hg mg hn ?_);refine PySem.W.callWith_K (h₀:=X.S.base) F.kin kp (thn (hA pos R F e1) fun us s1 ⟨M1,l1,R1,r1⟩=>⟨F.kin.keeps R1.bk,?_⟩) (bU a hst.1) (dQ pos es hst.2);exact thn (aI1 FF G.rm F.frs hb F.ok.mod ((F.go l1).size R1) R1 r1 e) fun _ _ q=>q.go l1
def bD6 (S:Snd v) (G:Good X st d) {m:XFW} (ht:cL st x=true) (hm:FnG X.S d x m):SE X (.Call (.Name x p) (a::es) [] pos) (xb (aS v st (a::es)) fun ws=>fun _ h=>m ws h):=bJ1 G ht hm (cG S G _) eO
def bJ2 (S:Snd v) (G:Good X st d):SE X (.Call (.Name x p) (a::es) [] pos) (uL v st x (a::es)):=by
 intro κ M δ h s w h' R F e;unfold uL at e;dsimp only at e;obtain ⟨y,h1,e1,e⟩:=aF e;rcases y with z | j
 ·cases z with
  | dict kvs =>
   dsimp only at e;cases hg:fP kvs with
   | none=>rw [hg] at e;cases e
   | some g =>
    rw [hg] at e;dsimp only at e;cases hm:st.fn g with
    | none=>rw [hm] at e;cases e
    | some m =>
     rw [hm] at e;obtain ⟨ws,h2,e2,e⟩:=aF e;have hst:=eO e2;rw [List.all_cons,Bool.and_eq_true] at hst;refine wpAny_Call_Name_kw (thn (aH3 G R F e1) fun u s1 ⟨M1,l1,R1,r1⟩=>?_);obtain ⟨⟨af,rfl⟩,mg'⟩:=(aF4 hg).mp (show Rep X.S M1.Z (.dict kvs) u from r1);rcases G.fn _ _ hm with z | ⟨f,fd,ps,mg,kp,hb,FF⟩
     ·exact absurd ((z ws h2).symm.trans e) (by simp)
     rw [mg'] at mg;cases mg;refine PySem.W.callWith_K (h₀:=X.S.base) F.kin kp (thn (cG S G _ pos R1 (F.go l1) e2) fun us s2 ⟨M2,l2,R2,r2⟩=>⟨F.kin.keeps R2.bk,?_⟩) (bU a hst.1) (dQ pos es hst.2);exact thn (aI1 FF G.rm F.frs hb F.ok.mod ((F.go (l1.trans l2)).size R2) R2 r2 e) fun _ _ q=>q.go (l1.trans l2)
  | _=>cases e
 ·cases e
theorem sH (env:Env) (cpos:Pos):∀ (es:List Expr),es.all aH=true->(backTo cpos (starEach es env)).all (fun x=>!x.1)=true
 | [],_=>rfl
 | e::es,h=>by
  rw [List.all_cons,Bool.and_eq_true] at h;have t:starEach (e::es) env=(false,eval e env)::starEach es env:=by
   have h1:=h.1;cases e<;>first | rfl | cases h1
  rw [t];exact sH env cpos es h.2
def bJ3 (hs:(a::es).all aH=true) (hl:(a::es).length < 29) (env:Env) (cpos:Pos) :
  ((backTo cpos (starEach (a::es) env)).all (fun x=>!x.1)&&(backToKw cpos (keywordEach [] env)).all (fun x=>x.1.isSome)
   && decide ((a::es).length+([]:List Keyword).length+(if ([]:List Keyword).isEmpty then 0 else 1) < 30))=true:=by
 rw [sH _ _ _ hs];have:(a::es).length+0+0 < 30:=by omega
 show (true&&true&&decide _)=true;simp only [Bool.true_and,decide_eq_true_eq];exact this
def qM (ho:jA o=true) (m:Str) (env:Env):attributeBase o m env (eval o env)=eval o env:=by
 cases o<;>first | rfl | (cases ho;done) | skip
 rename_i f a k p;cases f<;>first | (cases ho;done) | skip
 cases a<;>first | (cases ho;done) | skip
 cases k<;>first | (cases ho;done) | rfl
def kF (S:Snd v) (G:Good X st d) {f:Value} {ws:List W} {h1:aA} {Q:Value->Shared->Prop} (hx:(cL st x&&(slot st x).isNone&&st.bl.contains x)=true) (hv:bootBuiltins x=some f) (hf:(∃ i,f=.builtin i)\/∃ i,f=.type i) (R:Mem X.S κ M h s) (F:Fra X κ M δ) (e:aS v st (a::es) δ h=some (ws,h1))
  (q:∀ {M1 us s1},Le M M1->Mem X.S κ M1 h1 s1->RepWs X.S M1 ws us->Wp X.S X.A (call f us) Q NE s1):Wp X.S X.A (eval (.Call (.Name x p) (a::es) [] pos) X.env) Q NE s:=by
 obtain ⟨h1,h2,h3⟩:=cA G hx;have hst:=eO e;rw [List.all_cons,Bool.and_eq_true] at hst;refine wpAny_Call_Name_kw (bZ F R h2 h3 hv h1 ?_);rcases hf with ⟨i,rfl⟩ | ⟨i,rfl⟩
 ·exact PyProof.Rows.callWith_builtin1 (thn (cG S G _ pos R F e) fun us s1 ⟨M1,l1,R1,r1⟩=>q l1 R1 r1) (bU a hst.1) (dQ pos es hst.2)
 ·exact PyProof.Rows.callWith_type1 (thn (cG S G _ pos R F e) fun us s1 ⟨M1,l1,R1,r1⟩=>q l1 R1 r1) (bU a hst.1) (dQ pos es hst.2)
def qN (F:Fra X κ M δ) (R:Mem X.S κ M h s):(s.heap.objs.size==sysModules)=false:=by
 have h:mainGlobals < s.heap.objs.size:=(F.ok.mod.glob.keeps R.bk).lt;have:sysModules < s.heap.objs.size:=Nat.lt_trans (by decide) h;exact beq_eq_false_iff_ne.mpr (Nat.ne_of_gt this)
def cM1 (S:Snd v) (G:Good X st d) {f:Value} {g:List W->aA->Option (W×aA)} (hx:(cL st x&&(slot st x).isNone&&st.bl.contains x)=true) (hv:bootBuiltins x=some f) (hf:(∃ i,f=.builtin i)\/∃ i,f=.type i) (hg:BfS X.S f g):SE X (.Call (.Name x p) (a::es) [] pos) (xb (aS v st (a::es)) fun ws=>fun _ h=>g ws h):=by
 intro κ M δ h s w h' R F e;obtain ⟨ws,h1,e1,e⟩:=aF e;exact kF S G hx hv hf R F e1 fun l1 R1 r1=>thn (hg G.rm F.kin (qN (F.go l1) R1) R1 r1 e) fun _ _ q=>q.go l1
theorem bW6 (S:Snd v) (G:Good X st d) (hx:(cL st "list"&&(slot st "list").isNone&&st.bl.contains "list")=true):SF X (.Call (.Name "list" p) (a::es) [] pos) (xb (aS v st (a::es)) fun ws=>fun _ h=>(match ws with
  | [w]=>(match ref h w with
   | some (.list xs)=>some (xs,h)
   | some (.tuple xs)=>some (xs,h)
   | _=>none)
  | _=>none)):=by
 intro κ M δ h s w h' R F e;obtain ⟨ws,h1,e1,e⟩:=aF e;refine kF (f:=.type "list") S G hx (by decide +kernel) (.inr ⟨_,rfl⟩) R F e1 fun {M1 us s1} l1 R1 r1=>?_;rcases ws with _ | ⟨x,_ | ⟨_,_⟩⟩
 ·cases e
 ·obtain ⟨u,rfl,ru⟩:=w1 r1;dsimp only at e;split at e
  ·rename_i ex;cases e;exact thn (aG7 R1 ru (.inl ex)) fun _ _ q=>q.go l1
  ·rename_i ex;cases e;exact thn (aG7 R1 ru (.inr ex)) fun _ _ q=>q.go l1
  ·cases e
 ·cases e
def aU8 {T:Str} {Ts:String} (h:aT5 T=some Ts):bootBuiltins T=some (.type Ts)/\mG Ts:=by
 unfold aT5 at h;split at h
 ·rename_i e;cases h;subst e;exact ⟨by decide +kernel,aU2⟩
 split at h
 ·rename_i e;cases h;subst e;exact ⟨by decide +kernel,aG8⟩
 split at h
 ·rename_i e;cases h;subst e;exact ⟨by decide +kernel,aU3⟩
 split at h
 ·rename_i e;cases h;subst e;exact ⟨by decide +kernel,zZ⟩
 split at h
 ·rename_i e;cases h;subst e;exact ⟨by decide +kernel,aG9⟩
 ·cases h
def bW7 (S:Snd v) (G:Good X st d) {T:Str} {Ts:String} {q:Pos} (hx:(cL st "isinstance"&&(slot st "isinstance").isNone&&st.bl.contains "isinstance")=true) (hs:aH a=true) (hT:(cL st T&&(slot st T).isNone&&st.bl.contains T)=true) (ht:aT5 T=some Ts) :
  SE X (.Call (.Name "isinstance" p) [a,.Name T q] [] pos) (xb (v.E st a) fun w=>fun _ h=>(ref h w).bind fun d=>if noD d=true then some (.d (.bool (isi d Ts)),h) else none):=by
 intro κ M δ h s w h' R F e;obtain ⟨x,h1,e1,e⟩:=aF e;obtain ⟨z,ez,e⟩:=bind_some e;obtain ⟨hnd,e⟩:=aE e;cases e;obtain ⟨n1,n2,n3⟩:=cA G hx;obtain ⟨m1,m2,m3⟩:=cA G hT;obtain ⟨hb,hk⟩:=aU8 ht;refine wpAny_Call_Name_kw (bZ (u:=.builtin "isinstance") F R n2 n3 (by decide +kernel) n1 ?_);refine PyProof.Rows.callWith_builtin1 ?_ (bU a hs) (dQ pos [.Name T q] rfl);rw [bU a hs];show Wp _ _ (spliced ((false,eval a X.env)::backTo pos (starEach [.Name T q] X.env))) _ _ s;refine Calls.spliced_cons (thn (S.E G a R F e1) fun u s1 ⟨M1,l1,R1,r1⟩=>?_);rw [bU (X:=X) (es:=[]) (.Name T q) rfl];show Wp _ _ (spliced ((false,eval (.Name T q) X.env)::[])) _ _ s1;refine Calls.spliced_cons (bZ (F.go l1) R1 m2 m3 hb m1 (Calls.spliced_nil ?_));exact thn (bH6 F.kin hk R1 r1 ez hnd) fun _ _ q=>q.go l1
def aI2 (S:Snd v) (G:Good X st d) {id:String} {x:W} {h1 h2:aA} {ws:List W} {Q:Value->Shared->Prop} (slot:Slot "list" m id) (hty:typeOf (.builtin id)=pure (.type "method_descriptor")) (ho:jA o=true) (hl:(apos.endLine==pos.line)=true) (hn:(a::es).length < 29)
  (R:Mem X.S κ M h s) (F:Fra X κ M δ) (e1:v.E st o δ h=some (x,h1)) (et:(∃ xs,DL.ref h1 x=some (.list xs))\/∃ i xs,x=.c i/\h1[i]?=some (.r xs)) (e2:aS v st (a::es) δ h1=some (ws,h2))
  (q:∀ {M2 u us s2},Le M M2->Mem X.S κ M2 h2 s2->RepW X.S M2 x u->RepWs X.S M2 ws us->Wp X.S X.A (call (.builtin id) (u::us)) Q NE s2):Wp X.S X.A (eval (.Call (.Attribute o m apos) (a::es) [] pos) X.env) Q NE s:=by
 have hst:=eO e2;have hst':=hst;rw [List.all_cons,Bool.and_eq_true] at hst';refine wpAny_Call_method_late (qM ho _ _) (bJ3 hst hn _ _) hl rfl (thn (S.E G o R F e1) fun u s1 ⟨M1,l1,R1,r1⟩=>?_);have ty:∃ b us n,u=.ref b/\s1.heap.get? b=some (aV us n):=by
  obtain ⟨xs,ex⟩ | ⟨i,xs,rfl,ei⟩:=et
  ·obtain ⟨b,us,n,rfl,ho,_⟩:=dI R1 r1 ex;exact ⟨b,us,n,rfl,ho⟩
  ·obtain ⟨p,ep,rfl⟩:=r1;obtain ⟨us,n,ho,_⟩:=R1.cel i p _ ep ei;exact ⟨_,us,n,rfl,ho⟩
 obtain ⟨b,us,n,rfl,hob⟩:=ty;refine ⟨"list",id,PySem.F.plainAttrs_list,slot,hty,(bM hob).isList.typeIs,fun c ec=>by cases ec;exact ⟨_,hob,rfl⟩,?_⟩;have hA:=cG S G _ pos R1 (F.go l1) e2;rw [bU a hst'.1] at hA ⊢;refine Calls.callWith_builtin (by show (false||(backTo pos (starEach es X.env)).any (·.1))=false;rw [dQ pos es hst'.2]<;>rfl) (Calls.evalArgs_plain ?_);exact thn hA fun us s2 ⟨M2,l2,R2,r2⟩=>q (l1.trans l2) R2 (r1.go l2) r2
end
end DL

namespace PySem
open PyProof.Rows
section
variable {prog:Program} {w:World} {A:Around} {E:Value->Shared->Prop} {s:Shared}
def jN {it t:Addr} {i:Nat} {items:Array Value} {x:Value} {Q:Value->Shared->Prop} (hit:s.heap.IsTupleIter it t i) (hl:s.heap.IsTuple t items) (hx:items[i]?=some x)
  (hQ:∀ h',h'.IsTupleIter it t (i+1)->Heap.SameBut it s.heap h'->Q x { s with heap:=h' }):wpAny (model prog w) A (Builtin.SmallTypes.nextOf (.ref it)) Q E s:=by
 obtain ⟨o,ho,hc,hd⟩:=id hit;obtain ⟨ol,hol,hlc,nl,hdl⟩:=hl;unfold Builtin.SmallTypes.nextOf;refine wpAny_bind (wpAny_callSpecial?_slot (hit.typeIs) F.slot_tuple_iterator_next (wpAny_call_entry F.slot_tuple_iterator_next hit.typeIs F.entry_tuple_iterator_next ?_ (F.args_tuple_iterator_next_1 _)));refine wpAny_bind (wpAny_pure (a:=(Value.ref it,[])) ?_);refine wpAny_bind (wpAny_field ho hd rfl ?_);rw [if_neg (by exact Bool.false_ne_true)];refine wpAny_bind (wpAny_field ho hd rfl ?_);refine wpAny_bind (wpAny_seqItems hol hdl ?_);show wpAny _ _ (match items[((i:Int)).toNat]? with | some x=>_ | none=>_) _ _ _;rw [Int.toNat_natCast,hx];refine wpAny_bind (wpAny_setField ho hd (by simp) ?_);refine wpAny_pure ⟨x,rfl,wpAny_pure (hQ _ ⟨_,Heap.get?_update_self _ ho (Obj.isFreed_of_fields (Obj.data_mapFields hd _)),(Obj.cls_mapFields o _).trans hc,?_⟩ (Heap.SameBut.update _ _ _))⟩;rw [Obj.data_mapFields hd];rfl
def kG {it t:Addr} {i:Nat} {items:Array Value} {Q:Value->Shared->Prop} (hh:A.handled=none) (hit:s.heap.IsTupleIter it t i) (hl:s.heap.IsTuple t items) (hx:items[i]?=none)
  (hE:∀ h' e,Heap.ExtBut it s.heap h'->(∃ o,h'.get? e=some o/\o.cls=.type "StopIteration")->E (.ref e) { s with heap:=h' }):wpAny (model prog w) A (Builtin.SmallTypes.nextOf (.ref it)) Q E s:=by
 obtain ⟨o,ho,hc,hd⟩:=id hit;obtain ⟨ol,hol,hlc,nl,hdl⟩:=hl;unfold Builtin.SmallTypes.nextOf;refine wpAny_bind (wpAny_callSpecial?_slot (hit.typeIs) F.slot_tuple_iterator_next (wpAny_call_entry F.slot_tuple_iterator_next hit.typeIs F.entry_tuple_iterator_next ?_ (F.args_tuple_iterator_next_1 _)));refine wpAny_bind (wpAny_pure (a:=(Value.ref it,[])) ?_);refine wpAny_bind (wpAny_field ho hd rfl ?_);rw [if_neg (by exact Bool.false_ne_true)];refine wpAny_bind (wpAny_field ho hd rfl ?_);refine wpAny_bind (wpAny_seqItems hol hdl ?_);show wpAny _ _ (match items[((i:Int)).toNat]? with | some x=>_ | none=>_) _ _ _;rw [Int.toNat_natCast,hx];refine wpAny_bind (wpAny_rule ?_);refine wpAny_bind (wpAny_setField ho hd (by simp) ?_);unfold Builtin.SmallTypes.stopIteration newExc;refine wpAny_bind (wpAny_bind (wpAny_newObj_type ?_ (by show (([]:List Value).toArray.size<=sizeLine);simp)));refine wpAny_bind (wpAny_pure (a:=Value.none) ?_);refine wpAny_newObj_type ?_ (sizeOk_excFields ..);unfold raiseNew;refine wpAny_bind (wpAny_handled ?_);rw [show A.in1.handled=none from hh];refine wpAny_throw (hE _ _ (fun b o' hb e=>?_) ⟨_,Heap.get?_push_size _ rfl,rfl⟩);refine Heap.get?_push_of_some _ (Heap.get?_push_of_some _ ?_);rw [(Heap.SameBut.update s.heap it _).2 b hb];exact e
noncomputable def SqAt:Bool->Heap->Addr->Array Value->Prop
 | true,h,l,xs=>h.IsTuple l xs
 | false,h,l,xs=>h.IsList l xs
noncomputable def ItAt:Bool->Heap->Addr->Addr->Nat->Prop
 | true,h,it,l,k=>h.IsTupleIter it l k
 | false,h,it,l,k=>h.IsListIter it l k
def jO (b:Bool) (l:Addr):Obj:={ cls:=.type (if b=true then "tuple_iterator" else "list_iterator"),data:=.fields #[.ref l,.int 0 0] }
def SqAt.keep {b:Bool} {h h':Heap} {l:Addr} {xs:Array Value} (x:SqAt b h l xs) (k:∀ o,h.get? l=some o->h'.get? l=some o):SqAt b h' l xs:=by
 cases b<;>exact let ⟨o,h1,h2⟩:=x;⟨o,k o h1,h2⟩
def ItAt.keep {b:Bool} {h h':Heap} {it l:Addr} {i:Nat} (x:ItAt b h it l i) (k:∀ o,h.get? it=some o->h'.get? it=some o):ItAt b h' it l i:=by
 cases b<;>exact let ⟨o,h1,h2⟩:=x;⟨o,k o h1,h2⟩
def ItAt.new {b:Bool} {h:Heap} {it l:Addr} (e:h.get? it=some (jO b l)):ItAt b h it l 0:=by
 cases b<;>exact ⟨_,e,rfl,rfl⟩
def eP {b:Bool} {l:Addr} {xs:Array Value} {Q:Value->Shared->Prop} (hl:SqAt b s.heap l xs) (h:Q (.ref s.heap.objs.size) { s with heap:=s.heap.push (jO b l) }):wpAny (model prog w) A (pyIter (.ref l)) Q E s:=by
 cases b
 ·exact wpAny_pyIter_list hl h
 ·exact wpAny_pyIter_tuple hl h
def bV {b:Bool} {it l:Addr} {i:Nat} {items:Array Value} {x:Value} {Q:Value->Shared->Prop} (hit:ItAt b s.heap it l i) (hl:SqAt b s.heap l items) (hx:items[i]?=some x)
  (hQ:∀ h',ItAt b h' it l (i+1)->Heap.SameBut it s.heap h'->Q x { s with heap:=h' }):wpAny (model prog w) A (Builtin.SmallTypes.nextOf (.ref it)) Q E s:=by
 cases b
 ·exact wpAny_nextOf_list_item hit hl hx hQ
 ·exact jN hit hl hx hQ
def fD {b:Bool} {it l:Addr} {i:Nat} {items:Array Value} {Q:Value->Shared->Prop} (hh:A.handled=none) (hit:ItAt b s.heap it l i) (hl:SqAt b s.heap l items) (hx:items[i]?=none)
  (hE:∀ h' e,Heap.ExtBut it s.heap h'->(∃ o,h'.get? e=some o/\o.cls=.type "StopIteration")->E (.ref e) { s with heap:=h' }):wpAny (model prog w) A (Builtin.SmallTypes.nextOf (.ref it)) Q E s:=by
 cases b
 ·exact wpAny_nextOf_list_end hh hit hl hx hE
 ·exact kG hh hit hl hx hE
abbrev zH1 (b:Bool) (h:Heap) (l1:Addr):Heap:=h.push (jO b l1)
abbrev zH2 (b c:Bool) (h:Heap) (l1 l2:Addr):Heap:=(zH1 b h l1).push (jO c l2)
abbrev zH3 (b c:Bool) (h:Heap) (l1 l2:Addr):Heap:=(zH2 b c h l1 l2).push { cls:=.type "tuple",data:=.seq #[.ref h.objs.size,.ref (zH1 b h l1).objs.size] }
abbrev zH4 (b c:Bool) (h:Heap) (l1 l2:Addr):Heap:=(zH3 b c h l1 l2).push { cls:=.type "tuple",data:=.seq #[.none,.none] }
abbrev zH5 (b c:Bool) (h:Heap) (l1 l2:Addr):Heap:=(zH4 b c h l1 l2).push { cls:=.type "zip",data:=.fields #[.none,.bool false,.bool false,.ref (zH2 b c h l1 l2).objs.size,.ref (zH3 b c h l1 l2).objs.size] }
def aU9 (b c:Bool) (l1 l2:Addr) (xs ys:Array Value):Meets (Builtin.«zip.__new__» { pos:=[.type "zip",.ref l1,.ref l2] }) fun _ R s=>SqAt b s.heap l1 xs/\SqAt c s.heap l2 ys /\
  R (.ok (.ret (.ref (zH4 b c s.heap l1 l2).objs.size))) { s with heap:=zH5 b c s.heap l1 l2 }:=by
 refine Meets.of_wp fun prog w A R s h=>?_;obtain ⟨h1,h2,h⟩:=h;unfold Builtin.«zip.__new__»;refine wpAny_bind (wpAny_pure (a:=(Value.type "zip",[Value.ref l1,Value.ref l2])) ?_);dsimp only;rw [if_neg (by decide)];refine wpAny_bind ?_;unfold Builtin.SmallTypes.iterAll;refine wpAny_bind ?_;rw [List.forIn_cons];refine wpAny_bind (wpAny_bind (wpAny_holding (eP h1 (wpAny_pure ?_))));dsimp only;rw [List.forIn_cons];refine wpAny_bind (wpAny_bind (wpAny_holding (eP (h2.keep fun o e=>Heap.get?_push_of_some _ e) (wpAny_pure ?_))));dsimp only;rw [List.forIn_nil];refine wpAny_pure (wpAny_pure ?_);refine wpAny_bind (wpAny_newObj_type ?_ (by show (_:Array Value).size<=sizeLine;simp [sizeLine_eq]));refine wpAny_bind (wpAny_newObj_type ?_ (by show (_:Array Value).size<=sizeLine;simp [sizeLine_eq]));refine wpAny_bind ?_;unfold Builtin.SmallTypes.newRecord;refine wpAny_newObj_type (wpAny_pure ⟨_,rfl,h⟩) ?_;simp [sizeOk,Builtin.SmallTypes.ownedTupleFields,sizeLine_eq]
def sI {b c:Bool} {l1 l2:Addr} {xs ys:Array Value} {Q:Value->Shared->Prop} (h1:SqAt b s.heap l1 xs) (h2:SqAt c s.heap l2 ys)
  (h:∀ h',IsZip h' (s.heap.objs.size+4) (s.heap.objs.size+2) (s.heap.objs.size+3) .none->IsPair h' (s.heap.objs.size+2) (.ref s.heap.objs.size) (.ref (s.heap.objs.size+1))->IsPair h' (s.heap.objs.size+3) .none .none ->
   ItAt b h' s.heap.objs.size l1 0->ItAt c h' (s.heap.objs.size+1) l2 0->h'.objs.size=s.heap.objs.size+5->(∀ a o,s.heap.get? a=some o->h'.get? a=some o)->Q (.ref (s.heap.objs.size+4)) { s with heap:=h' }) :
  wpAny (model prog w) A (call (.type "zip") [.ref l1,.ref l2]) Q E s:=by
 have z1:(zH1 b s.heap l1).objs.size=s.heap.objs.size+1:=Heap.size_push ..;have z2:(zH2 b c s.heap l1 l2).objs.size=s.heap.objs.size+2:=by rw [zH2,Heap.size_push,z1]
 have z3:(zH3 b c s.heap l1 l2).objs.size=s.heap.objs.size+3:=by rw [zH3,Heap.size_push,z2]
 have z4:(zH4 b c s.heap l1 l2).objs.size=s.heap.objs.size+4:=by rw [zH4,Heap.size_push,z3]
 have z5:(zH5 b c s.heap l1 l2).objs.size=s.heap.objs.size+5:=by rw [zH5,Heap.size_push,z4]
 have g5:(zH5 b c s.heap l1 l2).get? (zH4 b c s.heap l1 l2).objs.size=_:=Heap.get?_push_size _ rfl;have g4:(zH5 b c s.heap l1 l2).get? (zH3 b c s.heap l1 l2).objs.size=_:=Heap.get?_push_of_some _ (Heap.get?_push_size _ rfl);have g3:(zH5 b c s.heap l1 l2).get? (zH2 b c s.heap l1 l2).objs.size=_:=Heap.get?_push_of_some _ (Heap.get?_push_of_some _ (Heap.get?_push_size _ rfl));have g2:(zH5 b c s.heap l1 l2).get? (zH1 b s.heap l1).objs.size=_:=Heap.get?_push_of_some _ (Heap.get?_push_of_some _ (Heap.get?_push_of_some _ (Heap.get?_push_size _ rfl)));have g1:(zH5 b c s.heap l1 l2).get? s.heap.objs.size=_:=Heap.get?_push_of_some _ (Heap.get?_push_of_some _ (Heap.get?_push_of_some _ (Heap.get?_push_of_some _ (Heap.get?_push_size _ rfl))));refine callType_new F.called_zip (by decide) (F.typeCall_zip_2 _ _) (F.newCall_zip_2 _ _) (fun obj=>F.args_object_init_3 obj _ _) F.entry_zip_new (aU9 b c l1 l2 xs ys) ⟨h1,h2,?_⟩;have q:=h (zH5 b c s.heap l1 l2) (by rw [z4,z3,z2] at g5;exact g5) (by rw [z2,z1] at g3;exact g3) (by rw [z3] at g4;exact g4) (.new g1) (.new (by rw [z1] at g2;exact g2)) z5
  (fun a o e=>Heap.get?_push_of_some _ (Heap.get?_push_of_some _ (Heap.get?_push_of_some _ (Heap.get?_push_of_some _ (Heap.get?_push_of_some _ e)))))
 rw [<- z4] at q;exact ⟨⟨_,g5,rfl⟩,q⟩
def qO {h:Heap} {z TI TO:Addr} {f0 x:Value} (hz:IsZip h z TI TO f0):IsZip (h.update z (Obj.mapFields fun a=>a.setIfInBounds 0 x)) z TI TO x:=by
 refine (Heap.get?_update_self _ hz (Obj.isFreed_of_fields (Obj.data_mapFields rfl _))).trans ?_;rfl
def aI3 {h:Heap} {z TI TO:Addr} {f0:Value} (hz:IsZip h z TI TO f0):IsZip (h.update z (Obj.mapFields fun a=>a.setIfInBounds 1 (.bool false))) z TI TO f0:=by
 refine (Heap.get?_update_self _ hz (Obj.isFreed_of_fields (Obj.data_mapFields rfl _))).trans ?_;rfl
structure ZApart (z TI TO i1 i2:Addr):Prop where
 TIz:TI≠z
 TOz:TO≠z
 i1z:i1≠z
 i2z:i2≠z
 TITO:TI≠TO
 TOi1:TO≠i1
 TOi2:TO≠i2
 TIi1:TI≠i1
 TIi2:TI≠i2
 i12:i1≠i2
def oU {b c:Bool} {z TI TO i1 i2 l1 l2:Addr} {k:Nat} {xs ys:Array Value} {x y u v:Value} {Q:Value->Shared->Prop} (D:ZApart z TI TO i1 i2) (hz:IsZip s.heap z TI TO .none) (hTI:IsPair s.heap TI (.ref i1) (.ref i2)) (hTO:IsPair s.heap TO u v)
  (h1:ItAt b s.heap i1 l1 k) (h2:ItAt c s.heap i2 l2 k) (q1:SqAt b s.heap l1 xs) (q2:SqAt c s.heap l2 ys) (nz1:l1≠z) (nz2:l2≠z) (nT2:l2≠TO) (n21:l2≠i1) (hx:xs[k]?=some x) (hy:ys[k]?=some y)
  (hQ:∀ h',IsZip h' z TI TO (rawInt s.heap.objs.size)->IsPair h' TO x y->ItAt b h' i1 l1 (k+1)->ItAt c h' i2 l2 (k+1)->IsPair h' s.heap.objs.size x y->h'.objs.size=s.heap.objs.size+1 ->
   (∀ a o,a≠z->a≠TO->a≠i1->a≠i2->s.heap.get? a=some o->h'.get? a=some o)->Q (.ref s.heap.objs.size) { s with heap:=h' }) :
  wpAny (model prog w) A (Builtin.«zip.__next__» { pos:=[.ref z] }) (fun fin s'=>∃ v,fin=Fin.done (.ret v)/\Q v s') E s:=by
 unfold Builtin.«zip.__next__»;refine wpAny_bind (wpAny_pure (a:=(Value.ref z,[])) ?_);refine wpAny_bind (wpAny_field hz rfl rfl ?_);refine wpAny_bind (wpAny_field hz rfl rfl ?_);refine wpAny_bind (wpAny_seqItems hTI rfl ?_);dsimp only;rw [if_neg (by simp)];refine wpAny_bind ?_;unfold Builtin.SmallTypes.ownedTupleIsFree;refine wpAny_bind (wpAny_field hz rfl rfl ?_);refine wpAny_pure ?_;rw [if_pos rfl];refine wpAny_bind (wpAny_rule ?_);refine wpAny_bind (wpAny_field hz rfl rfl ?_);refine wpAny_bind (wpAny_setField hz rfl (by simp) ?_);have e1:=Heap.SameBut.update s.heap z (Obj.mapFields fun a=>a.setIfInBounds 0 Value.ellipsis);have hz1:=qO (x:=Value.ellipsis) hz;generalize s.heap.update z (Obj.mapFields fun a=>a.setIfInBounds 0 Value.ellipsis)=H1 at e1 hz1 ⊢;have h11:ItAt b H1 i1 l1 k:=h1.keep fun o e=>(e1.2 _ D.i1z).trans e;have q11:SqAt b H1 l1 xs:=q1.keep fun o e=>(e1.2 _ nz1).trans e;have hTO1:IsPair H1 TO u v:=(e1.2 _ D.TOz).trans hTO;refine wpAny_bind ?_;rw [show [Value.ref i1,Value.ref i2].zipIdx=[(Value.ref i1,0),(Value.ref i2,1)] from rfl,List.forIn_cons];refine wpAny_bind (wpAny_bind (wpAny_onRaise ?_))
 change wpAny _ _ (Builtin.SmallTypes.nextOf (Value.ref i1) >>= fun v=>pure (some v)) _ _ _
 refine wpAny_bind (bV h11 q11 hx fun H2 h12 e2=>wpAny_pure ?_);have hz2:IsZip H2 z TI TO .ellipsis:=(e2.2 _ D.i1z.symm).trans hz1;have hTO2:IsPair H2 TO u v:=(e2.2 _ D.TOi1).trans hTO1;refine wpAny_bind (wpAny_seqItems hTO2 rfl (wpAny_bind (wpAny_updateSeq_pair hTO2 fun H3 hTO3 e3=>wpAny_bind (wpAny_letGo (wpAny_pure ?_)))));have hTO3:IsPair H3 TO x v:=hTO3;have hz3:IsZip H3 z TI TO .ellipsis:=(e3.2 _ D.TOz.symm).trans hz2;have h23:ItAt c H3 i2 l2 k:=h2.keep fun o e=>(e3.2 _ D.TOi2.symm).trans ((e2.2 _ D.i12.symm).trans ((e1.2 _ D.i2z).trans e));have q23:SqAt c H3 l2 ys:=q2.keep fun o e=>(e3.2 _ nT2).trans ((e2.2 _ n21).trans ((e1.2 _ nz2).trans e));dsimp only;rw [List.forIn_cons];refine wpAny_bind (wpAny_bind (wpAny_onRaise ?_))
 change wpAny _ _ (Builtin.SmallTypes.nextOf (Value.ref i2) >>= fun v=>pure (some v)) _ _ _
 refine wpAny_bind (bV h23 q23 hy fun H4 h24 e4=>wpAny_pure ?_);have hz4:IsZip H4 z TI TO .ellipsis:=(e4.2 _ D.i2z.symm).trans hz3;have hTO4:IsPair H4 TO x v:=(e4.2 _ D.TOi2).trans hTO3;refine wpAny_bind (wpAny_seqItems hTO4 rfl (wpAny_bind (wpAny_updateSeq_pair hTO4 fun H5 hTO5 e5=>wpAny_bind (wpAny_letGo (wpAny_pure ?_)))));have hTO5:IsPair H5 TO x y:=hTO5;have hz5:IsZip H5 z TI TO .ellipsis:=(e5.2 _ D.TOz.symm).trans hz4;dsimp only;rw [List.forIn_nil];refine wpAny_pure ?_;refine wpAny_bind (wpAny_seqItems hTO5 rfl ?_);refine wpAny_bind (wpAny_newObj_type ?_ (by simp [sizeOk,sizeLine_eq]));have es:H5.objs.size=s.heap.objs.size:=by rw [e5.1,e4.1,e3.1,e2.1,e1.1]
 have g6:IsPair (H5.push { cls:=.type "tuple",data:=.seq #[x,y] }) H5.objs.size x y:=Heap.get?_push_size _ rfl;have k6:∀ a o,H5.get? a=some o->(H5.push { cls:=.type "tuple",data:=.seq #[x,y] }).get? a=some o:=fun a o e=>Heap.get?_push_of_some _ e;have s6:(H5.push { cls:=.type "tuple",data:=.seq #[x,y] }).objs.size=s.heap.objs.size+1:=by rw [Heap.size_push,es]
 have hz6:=k6 _ _ hz5;refine wpAny_bind ?_;unfold Builtin.SmallTypes.ownedTupleHandOut;refine wpAny_bind (wpAny_setField hz6 rfl (by simp) ?_);have hz7:=qO (x:=rawInt H5.objs.size) hz6;refine wpAny_setField hz7 rfl (by simp) ?_;have hz8:=aI3 hz7;have e7:=Heap.SameBut.update (H5.push { cls:=.type "tuple",data:=.seq #[x,y] }) z (Obj.mapFields fun a=>a.setIfInBounds 0 (rawInt H5.objs.size));have e8:=Heap.SameBut.update ((H5.push { cls:=.type "tuple",data:=.seq #[x,y] }).update z (Obj.mapFields fun a=>a.setIfInBounds 0 (rawInt H5.objs.size))) z (Obj.mapFields fun a=>a.setIfInBounds 1 (.bool false));have kk:∀ a o,a≠z->H5.get? a=some o->(((H5.push { cls:=.type "tuple",data:=.seq #[x,y] }).update z (Obj.mapFields fun a=>a.setIfInBounds 0 (rawInt H5.objs.size))).update z (Obj.mapFields fun a=>a.setIfInBounds 1 (.bool false))).get? a=some o :=
  fun a o n e=>(e8.2 a n).trans ((e7.2 a n).trans (k6 a o e))
 have nsz:H5.objs.size≠z:=fun e=>by
  have:=Heap.lt_size hz5;rw [<- e] at this;exact Nat.lt_irrefl _ this
 have g8:=(e8.2 _ nsz).trans ((e7.2 _ nsz).trans g6);have hs8:=e8.1.trans (e7.1.trans s6);have h15:ItAt b H5 i1 l1 (k+1):=h12.keep fun o e=>(e5.2 _ D.TOi1.symm).trans ((e4.2 _ D.i12).trans ((e3.2 _ D.TOi1.symm).trans e));have h25:ItAt c H5 i2 l2 (k+1):=h24.keep fun o e=>(e5.2 _ D.TOi2.symm).trans e;have q:=hQ _ (by rw [es] at hz8;rw [es];exact hz8) (kk _ _ D.TOz hTO5) (h15.keep fun o e=>kk _ _ D.i1z e) (h25.keep fun o e=>kk _ _ D.i2z e) (by rw [<- es];exact g8) hs8
  (fun a o n1 n2 n3 n4 e=>kk _ _ n1 ((e5.2 _ n2).trans ((e4.2 _ n4).trans ((e3.2 _ n2).trans ((e2.2 _ n3).trans ((e1.2 _ n1).trans e))))))
 refine wpAny_pure ⟨_,rfl,?_⟩;rw [<- es] at q;exact q
def sJ {b c:Bool} {z TI TO i1 i2 l1 l2:Addr} {k:Nat} {xs ys:Array Value} {u v:Value} {Q:Fin->Shared->Prop} (hh:A.handled=none) (D:ZApart z TI TO i1 i2) (hz:IsZip s.heap z TI TO .none) (hTI:IsPair s.heap TI (.ref i1) (.ref i2)) (hTO:IsPair s.heap TO u v)
  (h1:ItAt b s.heap i1 l1 k) (h2:ItAt c s.heap i2 l2 k) (q1:SqAt b s.heap l1 xs) (q2:SqAt c s.heap l2 ys) (nz1:l1≠z) (nz2:l2≠z) (nT2:l2≠TO) (n21:l2≠i1) (hn:xs[k]?=none\/ys[k]?=none)
  (hE:∀ h' e,(∀ a o,a≠z->a≠TO->a≠i1->a≠i2->s.heap.get? a=some o->h'.get? a=some o)->(∃ o,h'.get? e=some o/\o.cls=.type "StopIteration")->E (.ref e) { s with heap:=h' }) :
  wpAny (model prog w) A (Builtin.«zip.__next__» { pos:=[.ref z] }) Q E s:=by
 unfold Builtin.«zip.__next__»;refine wpAny_bind (wpAny_pure (a:=(Value.ref z,[])) ?_);refine wpAny_bind (wpAny_field hz rfl rfl ?_);refine wpAny_bind (wpAny_field hz rfl rfl ?_);refine wpAny_bind (wpAny_seqItems hTI rfl ?_);dsimp only;rw [if_neg (by simp)];refine wpAny_bind ?_;unfold Builtin.SmallTypes.ownedTupleIsFree;refine wpAny_bind (wpAny_field hz rfl rfl ?_);refine wpAny_pure ?_;rw [if_pos rfl];refine wpAny_bind (wpAny_rule ?_);refine wpAny_bind (wpAny_field hz rfl rfl ?_);refine wpAny_bind (wpAny_setField hz rfl (by simp) ?_);have e1:=Heap.SameBut.update s.heap z (Obj.mapFields fun a=>a.setIfInBounds 0 Value.ellipsis);have hz1:=qO (x:=Value.ellipsis) hz;generalize s.heap.update z (Obj.mapFields fun a=>a.setIfInBounds 0 Value.ellipsis)=H1 at e1 hz1 ⊢;have h11:ItAt b H1 i1 l1 k:=h1.keep fun o e=>(e1.2 _ D.i1z).trans e;have q11:SqAt b H1 l1 xs:=q1.keep fun o e=>(e1.2 _ nz1).trans e;have hTO1:IsPair H1 TO u v:=(e1.2 _ D.TOz).trans hTO;have aJ:∀ (H4 H5:Heap) (e:Addr),IsZip H5 z TI TO .ellipsis->(∀ a o,a≠z->a≠TO->a≠i1->a≠i2->s.heap.get? a=some o->H5.get? a=some o)->(∃ o,H5.get? e=some o/\o.cls=.type "StopIteration") ->
   wpAny (model prog w) A (setField (.ref z) 0 .none) (fun _ s''=>E (.ref e) s'') E { s with heap:=H5 }:=fun H4 H5 e hz5 kk ⟨o,ho,hc⟩=>by
  refine wpAny_setField hz5 rfl (by simp) ?_;have e6:=Heap.SameBut.update H5 z (Obj.mapFields fun a=>a.setIfInBounds 0 Value.none);refine hE _ e (fun a o n1 n2 n3 n4 g=>(e6.2 _ n1).trans (kk a o n1 n2 n3 n4 g)) ⟨o,(e6.2 _ fun z'=>?_).trans ho,hc⟩;rw [z'] at ho;have hz5:H5.get? z=_:=hz5;rw [ho] at hz5;cases hz5;simp at hc
 refine wpAny_bind ?_;rw [show [Value.ref i1,Value.ref i2].zipIdx=[(Value.ref i1,0),(Value.ref i2,1)] from rfl,List.forIn_cons];refine wpAny_bind (wpAny_bind (wpAny_onRaise ?_))
 change wpAny _ _ (Builtin.SmallTypes.nextOf (Value.ref i1) >>= fun v=>pure (some v)) _ _ _
 by_cases hx:xs[k]?=none
 ·refine wpAny_bind (fD hh h11 q11 hx fun H2 e g2 he=>aJ H2 H2 e ?_ (fun a o n1 n2 n3 n4 g=>?_) he)
  ·exact g2 _ _ D.i1z.symm hz1
  ·exact g2 _ _ n3 ((e1.2 _ n1).trans g)
 obtain ⟨x,hx⟩:=Option.ne_none_iff_exists'.mp hx;have hy:ys[k]?=none:=hn.resolve_left (by rw [hx];simp);refine wpAny_bind (bV h11 q11 hx fun H2 h12 e2=>wpAny_pure ?_);have hz2:IsZip H2 z TI TO .ellipsis:=(e2.2 _ D.i1z.symm).trans hz1;have hTO2:IsPair H2 TO u v:=(e2.2 _ D.TOi1).trans hTO1;refine wpAny_bind (wpAny_seqItems hTO2 rfl (wpAny_bind (wpAny_updateSeq_pair hTO2 fun H3 hTO3 e3=>wpAny_bind (wpAny_letGo (wpAny_pure ?_)))));have hz3:IsZip H3 z TI TO .ellipsis:=(e3.2 _ D.TOz.symm).trans hz2;have h23:ItAt c H3 i2 l2 k:=h2.keep fun o e=>(e3.2 _ D.TOi2.symm).trans ((e2.2 _ D.i12.symm).trans ((e1.2 _ D.i2z).trans e));have q23:SqAt c H3 l2 ys:=q2.keep fun o e=>(e3.2 _ nT2).trans ((e2.2 _ n21).trans ((e1.2 _ nz2).trans e));dsimp only;rw [List.forIn_cons];refine wpAny_bind (wpAny_bind (wpAny_onRaise ?_))
 change wpAny _ _ (Builtin.SmallTypes.nextOf (Value.ref i2) >>= fun v=>pure (some v)) _ _ _
 refine wpAny_bind (fD hh h23 q23 hy fun H4 e g4 he=>aJ H4 H4 e ?_ (fun a o n1 n2 n3 n4 g=>?_) he)
 ·exact g4 _ _ D.i2z.symm hz3
 ·exact g4 _ _ n4 ((e3.2 _ n2).trans ((e2.2 _ n3).trans ((e1.2 _ n1).trans g)))
end
end PySem
namespace PySem
open PySem.Spec PyProof.Rows
def SqAt.ob {b:Bool} {h:Heap} {l:Addr} {xs:Array Value} (x:SqAt b h l xs):∃ o,h.get? l=some o:=by cases b<;>exact ⟨_,x.choose_spec.1⟩
def ItAt.ob {b:Bool} {h:Heap} {it l:Addr} {i:Nat} (x:ItAt b h it l i):∃ o,h.get? it=some o:=by cases b<;>exact ⟨_,x.choose_spec.1⟩
def aI4 (b:Bool) (l:Addr) (xs:Array Value):Meets (Builtin.«enumerate.__new__» ⟨[.type "enumerate",.ref l],[]⟩) fun _ R s=>SqAt b s.heap l xs /\
  R (.ok (.ret (.ref (s.heap.push (jO b l)).objs.size))) { s with heap:=(s.heap.push (jO b l)).push { cls:=.type "enumerate",data:=.fields #[.none,.bool false,.ref s.heap.objs.size,rawInt 0,.none,.none] } }:=by
 refine Meets.of_wp fun prog w A R s h=>?_;obtain ⟨h1,h⟩:=h;obtain ⟨o,ho⟩:=h1.ob;obtain ⟨hp,g,d,tk,os⟩:=s;have hsub:=sub_enumerate
 wp_walk using AutoSeq1.wpAny_loadPart' ho
 refine wpAny_stack_any fun st=>wpAny_pure ?_;split
 ·rename_i c _ _ _ _ _;cases (c==Value.type "enumerate")
  ·wp_walk using AutoSeq1.wpAny_loadPart' ho,eP h1
   exact ⟨_,rfl,h⟩
  ·wp_walk using AutoSeq1.wpAny_loadPart' ho,eP h1
   exact ⟨_,rfl,h⟩
 ·wp_walk using AutoSeq1.wpAny_loadPart' ho,eP h1
  exact ⟨_,rfl,h⟩
section
variable {prog:Program} {w:World} {A:Around} {E:Value->Shared->Prop} {s:Shared}
def aV0 {b:Bool} {e it l:Addr} {i:Nat} {items:Array Value} {x old:Value} {Q:Option Value->Shared->Prop}
  (he:IsEnum s.heap e it i old) (hit:ItAt b s.heap it l i) (hl:SqAt b s.heap l items) (hx:items[i]?=some x) (hne:e≠it)
  (hQ:∀ h',IsEnumOut h' e it ((i:Int)+1) x s.heap.objs.size->ItAt b h' it l (i+1)->h'.get? s.heap.objs.size=some { cls:=.type "tuple",data:=.seq #[.int i s.toks,x] }->h'.objs.size=s.heap.objs.size+1 ->
   (∀ c o,c≠e->c≠it->s.heap.get? c=some o->h'.get? c=some o)->Q (some (.ref s.heap.objs.size)) { s with heap:=h',toks:=s.toks+1 }):wpAny (model prog w) A (pyNext (.ref e)) Q E s:=by
 have hT:s.TypeIs (.ref e) "enumerate":=⟨_,he,rfl⟩;have ne':∀ {h1 h2:Heap},Heap.SameBut e h1 h2->∀ o,h1.get? it=some o->h2.get? it=some o:=fun sb o q=>(sb.2 _ hne.symm).trans q;unfold pyNext;refine wpAny_bind (wpAny_attempt (wpAny_callSpecial?_slot (name:=Str.ofString "__next__") hT F.slot_enumerate_next (wpAny_call_entry F.slot_enumerate_next hT F.entry_enumerate_next ?_ (F.args_enumerate_next_1 _))));unfold Builtin.«enumerate.__next__»;refine wpAny_bind (wpAny_pure (a:=(Value.ref e,[])) (wpAny_bind (wpAny_field he rfl (x:=.ref it) rfl (wpAny_bind (bV hit hl hx fun H1 it1 e1=>?_)))));have he1:IsEnum H1 e it i old:=(e1.2 _ hne).trans he;refine wpAny_bind (wpAny_field he1 rfl (x:=rawInt i) rfl ?_);dsimp only [rawInt];refine wpAny_bind (wpAny_field he1 rfl (x:=.none) rfl ?_);rw [if_pos (by rfl)];refine wpAny_bind (wpAny_mkInt ?_);refine wpAny_bind (wpAny_setField_rec he1 (by simp) fun H2 he2 s2=>wpAny_bind (wpAny_setField_rec (s:={ s with heap:=H2,toks:=s.toks+1 }) he2 (by simp) fun H3 he3 s3=>?_));have he3':IsEnum H3 e it ((i:Int)+1) old:=he3;have z3:H3.objs.size=s.heap.objs.size:=by
  have q2:H2.objs.size=H1.objs.size:=s2.1;have q3:H3.objs.size=H2.objs.size:=s3.1;rw [q3,q2];exact e1.1
 refine wpAny_bind (wpAny_newTuple (items:=[.int i s.toks,x]) ?_);have he4:IsEnum (H3.push { cls:=.type "tuple",data:=.seq #[.int i s.toks,x] }) e it ((i:Int)+1) old:=Heap.get?_push_of_some _ he3';have g4:(H3.push { cls:=.type "tuple",data:=.seq #[.int i s.toks,x] }).get? s.heap.objs.size=some { cls:=.type "tuple",data:=.seq #[.int i s.toks,x] }:=by rw [<- z3];exact Heap.get?_push_size _ rfl
 have z4:(H3.push { cls:=.type "tuple",data:=.seq #[.int i s.toks,x] }).objs.size=s.heap.objs.size+1:=by rw [Heap.size_push,z3]
 have k4:∀ c o,c≠e->c≠it->s.heap.get? c=some o->(H3.push { cls:=.type "tuple",data:=.seq #[.int i s.toks,x] }).get? c=some o:=fun c o n1 n2 q=>Heap.get?_push_of_some _ ((s3.2 _ n1).trans ((s2.2 _ n1).trans ((e1.2 _ n2).trans q)));have it4:ItAt b (H3.push { cls:=.type "tuple",data:=.seq #[.int i s.toks,x] }) it l (i+1):=it1.keep fun o q=>Heap.get?_push_of_some _ (ne' s3 o (ne' s2 o q));refine wpAny_bind ?_;unfold Builtin.SmallTypes.ownedTupleIsFree;refine wpAny_bind (wpAny_field he4 rfl (x:=.none) rfl (wpAny_pure ?_));rw [if_pos rfl];have el:s.heap.objs.size≠e:=Nat.ne_of_gt (Heap.lt_size he);refine wpAny_bind (wpAny_rule (wpAny_bind (wpAny_field he4 rfl (x:=old) rfl (wpAny_bind (wpAny_setField_rec (s:={ s with heap:=H3.push { cls:=.type "tuple",data:=.seq #[.int i s.toks,x] },toks:=s.toks+1 }) he4 (by simp) fun H5 he5 s5=>wpAny_bind ?_)))));unfold Builtin.SmallTypes.ownedTupleHandOut;rw [z3];refine wpAny_bind (wpAny_setField_rec (s:={ s with heap:=H5,toks:=s.toks+1 }) he5 (by simp) fun H6 he6 s6=>wpAny_setField_rec (s:={ s with heap:=H6,toks:=s.toks+1 }) he6 (by simp) fun H7 he7 s7=>wpAny_bind (wpAny_letGo (wpAny_pure ⟨_,rfl,wpAny_pure (hQ H7 he7 ?_ ?_ ?_ fun c o n1 n2 q=>?_)⟩)))
 ·exact it4.keep fun o q=>ne' s7 o (ne' s6 o (ne' s5 o q))
 ·exact (s7.2 _ el).trans ((s6.2 _ el).trans ((s5.2 _ el).trans g4))
 ·have q5:H5.objs.size=_:=s5.1;have q6:H6.objs.size=H5.objs.size:=s6.1;have q7:H7.objs.size=H6.objs.size:=s7.1;rw [q7,q6,q5];exact z4
 ·exact (s7.2 _ n1).trans ((s6.2 _ n1).trans ((s5.2 _ n1).trans (k4 c o n1 n2 q)))
def bJ4 {b:Bool} {e it l:Addr} {i:Nat} {items:Array Value} {old:Value} {Q:Option Value->Shared->Prop} (hh:A.handled=none) (he:IsEnum s.heap e it i old) (hit:ItAt b s.heap it l i) (hl:SqAt b s.heap l items) (hx:items[i]?=none)
  (hQ:∀ h',(∀ c o,c≠it->s.heap.get? c=some o->h'.get? c=some o)->Q none { s with heap:=h' }):wpAny (model prog w) A (pyNext (.ref e)) Q E s:=by
 have hT:s.TypeIs (.ref e) "enumerate":=⟨_,he,rfl⟩;unfold pyNext;refine wpAny_bind (wpAny_attempt (wpAny_callSpecial?_slot (name:=Str.ofString "__next__") hT F.slot_enumerate_next (wpAny_call_entry F.slot_enumerate_next hT F.entry_enumerate_next ?_ (F.args_enumerate_next_1 _))));unfold Builtin.«enumerate.__next__»;refine wpAny_bind (wpAny_pure (a:=(Value.ref e,[])) (wpAny_bind (wpAny_field he rfl (x:=.ref it) rfl (wpAny_bind (fD (A:=A.in1) hh hit hl hx fun H1 x k1 ⟨o,ho,hc⟩=>?_)))));exact wpAny_bind (wpAny_isInstance ⟨o,ho,hc⟩ isSubtype_stop (wpAny_pure (hQ H1 k1)))
end
end PySem

namespace DL
open PySem PySem.Spec PyProof.Rows L2 CI
section
variable {S:Sx} {κ:Kp} {M M0:Mp} {h:aA} {s:Shared} {A:Around} {E:Value->Shared->Prop} {elts:List Expr} {n:Nat} {pos:Pos}
def SqZ (M:Mp) (b:Bool) (a:Addr) (us:List Value):Prop:=∃ n,M.Z a=some { cls:=.type (if b=true then "tuple" else "list"),data:=.seq us.toArray n }
def SqZ.at {b:Bool} {a:Addr} {us:List Value} (x:SqZ M0 b a us) (l:Le M0 M) (R:Mem S κ M h s):SqAt b s.heap a us.toArray:=by
 obtain ⟨n,e⟩:=x;have e:=R.z _ _ (l.z _ _ e);cases b
 ·exact (bM e).isList
 ·exact fZ e
def SqZ.ne {b:Bool} {a c:Addr} {us:List Value} (x:SqZ M0 b a us) (l:Le M0 M) (f:aZ κ M c):a≠c:=fun z=>by
 obtain ⟨n,e⟩:=x;have e:=l.z _ _ e;rw [z,f.1] at e;cases e
def sK {w:W} {u:Value} {xs:List PyData} (e:iY w=some xs) (r:RepW S M w u):∃ b a us,u=.ref a/\SqZ M b a us/\us.length<=sizeLine/\Reps' S M xs us:=by
 unfold iY at e;split at e
 ·cases e;obtain ⟨a,o,us,rfl,z,⟨⟨n,rfl⟩,hz⟩,rr⟩:=rep_l.mp (show Rep S M.Z _ _ from r);exact ⟨false,a,us,rfl,⟨n,z⟩,hz,rr⟩
 ·cases e;obtain ⟨a,o,us,rfl,z,⟨⟨n,rfl⟩,hz⟩,rr⟩:=rep_t.mp (show Rep S M.Z _ _ from r);exact ⟨true,a,us,rfl,⟨n,z⟩,hz,rr⟩
 ·cases e
def Mem.pair {h2:Heap} {t:Nat} {fp:List Addr} {x y:PyData} {u v:Value} (R:Mem S κ M h s) (hf:∀ b∈fp,aZ κ M b) (hs:∀ b∈fp,∃ o,s.heap.get? b=some o) (k:∀ b o,b∉fp->s.heap.get? b=some o->h2.get? b=some o) (e:h2.get? s.heap.objs.size=some { cls:=.type "tuple",data:=.seq #[u,v] }) (rx:Rep S M.Z x u) (ry:Rep S M.Z y v) :
  ∃ M',Le M M'/\Mem S κ M' h { s with heap:=h2,toks:=t }/\Rep S M'.Z (.tuple [x,y]) (.ref s.heap.objs.size)/\∀ b∈fp,aZ κ M' b:=by
 have R1:Mem S κ M h { s with heap:=h2,toks:=t }:=R.turn hf k;refine ⟨_,.add R.size.1,R1.frz R.size e,rep_t.mpr ⟨_,_,[u,v],rfl,hO,⟨⟨0,rfl⟩,by simp [sizeLine_eq]⟩,.cons (Rep.go (Le.add R.size.1).z rx) (.cons (Rep.go (Le.add R.size.1).z ry) .nil)⟩,fun b hb=>⟨?_,(hf b hb).2⟩⟩;obtain ⟨o,q⟩:=hs b hb;show (if b=s.heap.objs.size then _ else M.Z b)=none;rw [if_neg (Nat.ne_of_lt (Heap.lt_size q))];exact (hf b hb).1
def ZSt (b c:Bool) (z TI TO i1 i2 l1 l2:Addr) (i:Nat) (h:Heap):Prop :=
 IsZip h z TI TO .none/\IsPair h TI (.ref i1) (.ref i2)/\(∃ u v,IsPair h TO u v)/\ItAt b h i1 l1 i/\ItAt c h i2 l2 i
def ZSt.obj {b c:Bool} {z TI TO i1 i2 l1 l2:Addr} {i:Nat} {h:Heap} (st:ZSt b c z TI TO i1 i2 l1 l2 i h):∀ a∈[z,TI,TO,i1,i2],∃ o,h.get? a=some o:=fun a ha=>by
 obtain ⟨s1,s2,⟨u,v,s3⟩,s4,s5⟩:=st;simp only [List.mem_cons,List.not_mem_nil,or_false] at ha;rcases ha with rfl | rfl | rfl | rfl | rfl
 ·exact ⟨_,s1⟩
 ·exact ⟨_,s2⟩
 ·exact ⟨_,s3⟩
 ·exact s4.ob
 ·exact s5.ob
def bJ5 {xs ys:List PyData} {i:Nat} {x:PyData} (e:(fV xs ys)[i]?=some x):∃ a b,xs[i]?=some a/\ys[i]?=some b/\x=.tuple [a,b]:=by
 unfold fV at e;rw [List.getElem?_zipWith] at e;cases q1:xs[i]? with
 | none=>rw [q1] at e;cases e
 | some a =>
  cases q2:ys[i]? with
  | none=>rw [q1,q2] at e;cases e
  | some b=>rw [q1,q2] at e;cases e;exact ⟨a,b,rfl,rfl,rfl⟩
def aI5 {b c:Bool} {z TI TO i1 i2 l1 l2:Addr} {xs ys:List PyData} {us vs:List Value} (D:ZApart z TI TO i1 i2) (q1:SqZ M0 b l1 us) (q2:SqZ M0 c l2 vs) (r1:Reps' S M0 xs us) (r2:Reps' S M0 ys vs):Turn S (.Tuple elts n pos) (fV xs ys) none M0 [z,TI,TO,i1,i2] z (ZSt b c z TI TO i1 i2 l1 l2) where
 obj:=fun i h st=>st.obj
 keep:=fun i h h' st k=>by
  obtain ⟨s1,s2,⟨u,v,s3⟩,s4,s5⟩:=st;exact ⟨k z (by simp) _ s1,k TI (by simp) _ s2,⟨u,v,k TO (by simp) _ s3⟩,s4.keep fun o e=>k i1 (by simp) o e,s5.keep fun o e=>k i2 (by simp) o e⟩
 item:=by
  intro A κ M h s E i x hd R l hf st hx co;obtain ⟨x1,x2,h1,h2,rfl⟩:=bJ5 hx;obtain ⟨u1,hu1,ru1⟩:=iQ (r1.go l) h1;obtain ⟨u2,hu2,ru2⟩:=iQ (r2.go l) h2;have ob:=st.obj;obtain ⟨s1,s2,⟨u,v,s3⟩,s4,s5⟩:=st;have hT:s.TypeIs (.ref z) "zip":=⟨_,s1,rfl⟩;have fz:=hf z (by simp);have fTO:=hf TO (by simp);have fi1:=hf i1 (by simp);refine wpAny_bind (wpAny_attempt (wpAny_callSpecial?_slot hT F.slot_zip_next (wpAny_call_entry F.slot_zip_next hT F.entry_zip_next
   (oU D s1 s2 s3 s4 s5 (q1.at l R) (q2.at l R) (q1.ne l fz) (q2.ne l fz) (q2.ne l fTO) (q2.ne l fi1) (x:=u1) (y:=u2) (by simpa using hu1) (by simpa using hu2)
    fun h' a1 a2 a3 a4 a5 a6 a7=>wpAny_pure ?_) (F.args_zip_next_1 _))))
  refine ⟨_,rfl,wpAny_letOwnedTupleGo_zip (s:={ s with heap:=h' }) a1 fun h'' b1 b2=>?_⟩;have zs:s.heap.objs.size≠z:=Nat.ne_of_gt (Heap.lt_size s1);obtain ⟨M',l',R',r',f'⟩:=R.pair (h2:=h'') (t:=s.toks) hf ob (fun a o ha e=>by
   simp only [List.mem_cons,List.not_mem_nil,or_false,not_or] at ha;exact (b2.2 a ha.1).trans (a7 a o ha.1 ha.2.2.1 ha.2.2.2.1 ha.2.2.2.2 e)) ((b2.2 _ zs).trans a5) ru1 ru2
  exact ⟨M',l',R',r',⟨b1,(b2.2 _ D.TIz).trans (a7 _ _ D.TIz D.TITO D.TIi1 D.TIi2 s2),⟨u1,u2,(b2.2 _ D.TOz).trans a2⟩,a3.keep fun o e=>(b2.2 _ D.i1z).trans e,a4.keep fun o e=>(b2.2 _ D.i2z).trans e⟩,f'⟩
 done:=by
  intro A κ M h s E i hd R l hf st hl co;obtain ⟨s1,s2,⟨u,v,s3⟩,s4,s5⟩:=st;have k1:=r1.length;have k2:=r2.length;unfold fV at hl;rw [List.length_zipWith] at hl;have hT:s.TypeIs (.ref z) "zip":=⟨_,s1,rfl⟩;have fz:=hf z (by simp);have fTO:=hf TO (by simp);have fi1:=hf i1 (by simp);refine wpAny_bind (wpAny_attempt (wpAny_callSpecial?_slot hT F.slot_zip_next (wpAny_call_entry F.slot_zip_next hT F.entry_zip_next
   (sJ hd D s1 s2 s3 s4 s5 (q1.at l R) (q2.at l R) (q1.ne l fz) (q2.ne l fz) (q2.ne l fTO) (q2.ne l fi1) (by simp;omega)
    fun h' e kk ⟨o,ho,hc⟩=>wpAny_bind (wpAny_isInstance ⟨o,ho,hc⟩ isSubtype_stop (wpAny_pure ⟨rfl,?_⟩))) (F.args_zip_next_1 _))))
  exact R.turn (t:=s.toks) hf fun a o ha e=>by
   simp only [List.mem_cons,List.not_mem_nil,or_false,not_or] at ha;exact kk a o ha.1 ha.2.2.1 ha.2.2.2.1 ha.2.2.2.2 e
 self:=fun _ _ _ _ _ st h=>wpAny_pyIter_zip st.1 h
theorem oV:∀ {xs:List PyData} {k i:Nat} {z:PyData},(iS k xs)[i]?=some z->∃ x,xs[i]?=some x/\z=.tuple [.int (k+i:Nat),x]
 | [],_,_,_,e=>by simp [iS] at e
 | x::xs,k,0,z,e=>by simp [iS] at e;exact ⟨x,rfl,by rw [<- e];simp⟩
 | x::xs,k,i+1,z,e=>by
  obtain ⟨y,h1,h2⟩:=oV (xs:=xs) (k:=k+1) (i:=i) (by simpa [iS] using e);exact ⟨y,by simpa using h1,by rw [h2,show k+1+i=k+(i+1) by omega]⟩
theorem iI:∀ (xs:List PyData) (k:Nat),(iS k xs).length=xs.length
 | [],_=>rfl
 | _::xs,k=>by rw [iS,List.length_cons,List.length_cons,iI]
def ESt (b:Bool) (e it l:Addr) (i:Nat) (h:Heap):Prop:=(∃ old,IsEnum h e it i old)/\ItAt b h it l i
def aA3 {b:Bool} {e it l:Addr} {all:List PyData} {c:Cw} (hne:e≠it) (hq:∀ {κ:Kp} {M:Mp} {h:aA} {s:Shared},Mem S κ M h s->Le M0 M->dZ c all h=true->∃ xs us,all=dY xs/\SqAt b s.heap l us.toArray/\Reps' S M xs us):Turn S (.Tuple elts n pos) all c M0 [e,it] e (ESt b e it l) where
 obj:=fun i h st a ha=>by
  obtain ⟨⟨old,s1⟩,s2⟩:=st;simp only [List.mem_cons,List.not_mem_nil,or_false] at ha;rcases ha with rfl | rfl
  ·exact ⟨_,s1⟩
  ·exact s2.ob
 keep:=fun i h h' st k=>by
  obtain ⟨⟨old,s1⟩,s2⟩:=st;exact ⟨⟨old,k e (by simp) _ s1⟩,s2.keep fun o q=>k it (by simp) o q⟩
 item:=by
  intro A κ M h s E i x hd R l' hf st hx co;obtain ⟨xs,us,rfl,q1,r1⟩:=hq R l' co;obtain ⟨y,h1,rfl⟩:=oV hx;rw [Nat.zero_add];obtain ⟨u,hu,ru⟩:=iQ r1 h1;obtain ⟨⟨old,s1⟩,s2⟩:=st;refine aV0 s1 s2 q1 (x:=u) (by simpa using hu) hne fun h' a1 a2 a3 a4 a5=>⟨_,rfl,wpAny_letOwnedTupleGo_enum (s:={ s with heap:=h',toks:=s.toks+1 }) a1 fun h'' b1 b2=>?_⟩;have zs:s.heap.objs.size≠e:=Nat.ne_of_gt (Heap.lt_size s1);obtain ⟨M',l2,R',r',f'⟩:=R.pair (h2:=h'') (t:=s.toks+1) (x:=.int i) hf (fun a ha=>by
   simp only [List.mem_cons,List.not_mem_nil,or_false] at ha;rcases ha with rfl | rfl
   ·exact ⟨_,s1⟩
   ·exact s2.ob) (fun a o ha q=>by
   simp only [List.mem_cons,List.not_mem_nil,or_false,not_or] at ha;exact (b2.2 a ha.1).trans (a5 a o ha.1 ha.2 q)) ((b2.2 _ zs).trans a3) (rep_i.mpr ⟨_,rfl⟩) ru
  refine ⟨M',l2,R',r',⟨⟨u,?_⟩,a2.keep fun o q=>(b2.2 _ hne.symm).trans q⟩,f'⟩;have:((i+1:Nat):Int)=(i:Int)+1:=by omega
  unfold IsEnum;rw [this];exact b1
 done:=by
  intro A κ M h s E i hd R l' hf st hl co;obtain ⟨xs,us,rfl,q1,r1⟩:=hq R l' co;obtain ⟨⟨old,s1⟩,s2⟩:=st;have k1:=r1.length;unfold dY at hl;rw [iI] at hl;refine bJ4 hd s1 s2 q1 (by simp;omega) fun h' kk=>⟨rfl,?_⟩;exact R.turn (t:=s.toks) hf fun a o ha q=>by
   simp only [List.mem_cons,List.not_mem_nil,or_false,not_or] at ha;exact kk a o ha.2 q
 self:=fun _ _ s _ _ st h=>by
  obtain ⟨⟨old,s1⟩,s2⟩:=st;have hT:s.TypeIs (.ref e) "enumerate":=⟨_,s1,rfl⟩;refine wpAny_pyIter_slot hT PySem.F.slot_enumerate_iter (wpAny_call_entry PySem.F.slot_enumerate_iter hT PySem.F.entry_enumerate_iter ?_ (PySem.F.args_enumerate_iter_1 _));show wpAny _ _ (ret (.ref e)) _ _ s;exact wpAny_pure ⟨_,rfl,"enumerate",_,hT,PySem.F.slot_enumerate_next.lookup,h⟩
end
section
variable {X:Cx} {st:Sta} {d:Nat} {v:Evs} {a b:Expr} {κ:Kp} {M:Mp} {δ:DSt} {h h':aA} {s:Shared} {pos p tp:Pos} {elts:List Expr} {n:Nat}
theorem bW8 (S:Snd v) (G:Good X st d) (hx:(cL st "zip"&&(slot st "zip").isNone&&st.bl.contains "zip")=true) (hs:aH a=true) (hs2:aH b=true):SI X (.Tuple elts n tp) (.Call (.Name "zip" p) [a,b] [] pos) (xb (v.E st a) fun u=>xb (v.E st b) fun w=>fun _ h=>(match iY u,iY w with
   | some xs,some ys=>some ((fV xs ys,none),h)
   | _,_=>none)):=by
 intro κ M δ h s q h' R F e;obtain ⟨h1,h2,h3⟩:=cA G hx;obtain ⟨x,hh,e1,e⟩:=aF e;obtain ⟨y,hh2,e2,e⟩:=aF e;have ea:aS v st [a,b] δ h=some ([x,y],hh2):=by unfold aS;rw [if_pos hs];unfold xb;rw [e1];unfold aS;dsimp only [Option.bind];rw [if_pos hs2];unfold aS xb aC;dsimp only;rw [e2];rfl
 refine Call_ (bZ (u:=.type "zip") F R h2 h3 (by decide +kernel) h1 (PyProof.Rows.callWith_type1 (thn (cG S G [a,b] pos R F ea) fun us s1 ⟨M1,l1,R1,r0⟩=>?_) (bU a hs) (by rw [bU b hs2];rfl)));obtain ⟨u,v,rfl,r1,r2⟩:=w2 r0;split at e
 ·rename_i xs ys ex ey;cases e;obtain ⟨b1,l1',us,rfl,q1,z1,rr1⟩:=sK ex r1;obtain ⟨b2,l2',vs,rfl,q2,z2,rr2⟩:=sK ey r2;refine sI (q1.at .refl R1) (q2.at .refl R1) fun h' a1 a2 a3 a4 a5 a6 a7=>?_;have D:ZApart (s1.heap.objs.size+4) (s1.heap.objs.size+2) (s1.heap.objs.size+3) s1.heap.objs.size (s1.heap.objs.size+1):=by
   constructor<;>(intro e;exact absurd e (by simp [Addr]<;>omega))
  refine wpAny_pyIter_zip a1 (Pi.go l1 ⟨M1,_,_,_,.refl,R1.kept (t:=s1.toks) a7,rfl,aI5 D q1 q2 rr1 rr2,⟨a1,a2,⟨_,_,a3⟩,a4,a5⟩,fun x hx=>R1.new (Heap.get?_none_of_le ?_),?_⟩)
  ·simp only [List.mem_cons,List.not_mem_nil,or_false] at hx;rcases hx with rfl | rfl | rfl | rfl | rfl<;>simp
  ·show (fV xs ys).length<=sizeLine;unfold fV;rw [List.length_zipWith,rr1.length];omega
 ·cases e
def bJ6 (S:Snd v) (G:Good X st d) (hx:(cL st "enumerate"&&(slot st "enumerate").isNone&&st.bl.contains "enumerate")=true) (hs:aH a=true):SI X (.Tuple elts n tp) (.Call (.Name "enumerate" p) [a] [] pos) (xb (v.E st a) fun u=>fun _ h=>lY u h):=by
 intro κ M δ h s q h' R F e;obtain ⟨h1,h2,h3⟩:=cA G hx;obtain ⟨x,hh,e1,e⟩:=aF e;have ea:aS v st [a] δ h=some ([x],hh):=by unfold aS;rw [if_pos hs];unfold aS xb aC;rw [e1];rfl
 refine Call_ (bZ (u:=.type "enumerate") F R h2 h3 (by decide +kernel) h1 (PyProof.Rows.callWith_type1 (thn (cG S G [a] pos R F ea) fun us s1 ⟨M1,l1,R1,r0⟩=>?_) (bU a hs) rfl));obtain ⟨u,rfl,r1⟩:=w1 r0;have ex:∃ b l us,u=.ref l/\SqAt b s1.heap l us/\h'=hh/\q.1.length<=sizeLine/\∀ {κ:Kp} {M:Mp} {h:aA} {s:Shared},Mem X.S κ M h s->Le M1 M->dZ q.2 q.1 h=true->∃ xs us,q.1=dY xs/\SqAt b s.heap l (List.toArray us)/\Reps' X.S M xs us:=by
  unfold lY at e;split at e
  ·rename_i xs ex;cases e;obtain ⟨b,l,us,rfl,q1,z1,rr1⟩:=sK ex r1;refine ⟨b,l,us.toArray,rfl,q1.at .refl R1,rfl,?_,fun R l' _=>⟨xs,us,rfl,q1.at l' R,rr1.go l'⟩⟩;show (dY xs).length<=sizeLine;unfold dY;rw [iI,rr1.length];exact z1
  ·cases x with
   | d y=>cases e
   | c i =>
    dsimp only at e;split at e
    ·rename_i xs ey;cases e;obtain ⟨pp,ep,rfl⟩:=r1;obtain ⟨us,k,g1,g2,g3⟩:=R1.cel i pp _ ep ey;refine ⟨false,pp.1,us.toArray,rfl,(bM g1).isList,rfl,?_,fun {κ M h s} R l' co=>?_⟩
     ·show (dY xs).length<=sizeLine;unfold dY;rw [iI,g3.length];exact g2
     ·have co:(match h[i]? with
       | some (.l ys)=>peqs (dY ys) (dY xs)
       | _=>false)=true:=co
      split at co
      ·rename_i ys ey';obtain ⟨vs,k',f1,f2,f3⟩:=R.cel i pp _ (l'.at ep) ey';exact ⟨ys,vs,(peqs_eq co).symm,(bM f1).isList,f3⟩
      ·cases co
    ·cases e
 obtain ⟨b,l,us,rfl,q1,rfl,hz,hq⟩:=ex;refine callType_new PySem.F.called_enumerate (by decide) (PySem.F.typeCall_enumerate_1 _) (PySem.F.newCall_enumerate_1 _) (fun obj=>PySem.F.args_object_init_2 obj _) PySem.F.entry_enumerate_new (aI4 b l us) ⟨q1,⟨_,Heap.get?_push_size _ rfl,rfl⟩,?_⟩;have z1':(s1.heap.push (jO b l)).objs.size=s1.heap.objs.size+1:=by rw [Heap.size_push]
 have ge:((s1.heap.push (jO b l)).push { cls:=.type "enumerate",data:=.fields #[.none,.bool false,.ref s1.heap.objs.size,rawInt 0,.none,.none] }).get? (s1.heap.push (jO b l)).objs.size=some { cls:=.type "enumerate",data:=.fields #[.none,.bool false,.ref s1.heap.objs.size,rawInt 0,.none,.none] }:=Heap.get?_push_size _ rfl;have gi:((s1.heap.push (jO b l)).push { cls:=.type "enumerate",data:=.fields #[.none,.bool false,.ref s1.heap.objs.size,rawInt 0,.none,.none] }).get? s1.heap.objs.size=some (jO b l):=Heap.get?_push_of_some _ (Heap.get?_push_size _ rfl);have hne:(s1.heap.push (jO b l)).objs.size≠s1.heap.objs.size:=by rw [z1'];exact Nat.succ_ne_self _
 refine wpAny_pyIter_enum (s:={ s1 with heap:=_ }) ge (Pi.go l1 ⟨M1,_,_,_,.refl,R1.kept (t:=s1.toks) fun c o e=>Heap.get?_push_of_some _ (Heap.get?_push_of_some _ e),rfl,aA3 hne hq,⟨⟨.none,ge⟩,ItAt.new gi⟩,fun x hx=>R1.new (Heap.get?_none_of_le ?_),hz⟩);simp only [List.mem_cons,List.not_mem_nil,or_false] at hx;rcases hx with rfl | rfl
 ·rw [z1'];exact Nat.le_succ _
 ·exact Nat.le_refl _
end
end DL

namespace DL
open PySem PySem.Spec PyProof.Rows L2 CI
section
variable {X:Cx} {st:Sta} {d:Nat} {v:Evs} {κ:Kp} {M:Mp} {δ:DSt} {h h':aA} {s:Shared} {a b c e o tg iter:Expr} {es:List Expr} {pos p p2 apos:Pos} {x m:Str} {w:W}
def bJ7 (S:Snd v) (G:Good X st d) {op op' op'':CmpOp} {p:Bool×aA} (hm:lastMarks [op,op',op''] [b,c,e]=false) (R:Mem X.S κ M h s) (F:Fra X κ M δ) (eq:xC3 op op' op'' (v.E st a) (v.E st b) (v.E st c) (v.E st e) δ h=some p):Wp X.S X.A (eval (.Compare a [op,op',op''] [b,c,e] pos) X.env) (Pw X.S κ M p.2 (.d (.bool p.1))) NE s:=by
 obtain ⟨x,h1,e1,eq⟩:=aF eq;obtain ⟨y,h2,e2,eq⟩:=aF eq;obtain ⟨p1,e3,eq⟩:=bind_some eq;refine Compare_chain (thn (S.E G a R F e1) fun u s1 ⟨M1,l1,R1,r1⟩=>chain_link (thn (S.E G b R1 (F.go l1) e2) fun v s2 ⟨M2,l2,R2,r2⟩=>?_)) hm;obtain ⟨q1,q2⟩:=iA (A:=X.A) (E:=NE) G.rm R2 (r1.go l2) r2 e3;obtain ⟨k,h3⟩:=p1;cases q1;refine thn q2 fun k' s3 ⟨M3,l3,R3,r3⟩=>?_;cases wb.mp r3;refine wpAny_truthy_bool ?_;dsimp only at eq;cases k with
 | false=>cases eq;exact ite_ff (R3.pb.go (l1.trans (l2.trans l3)))
 | true =>
  obtain ⟨⟨z,h4⟩,e4,eq⟩:=bind_some eq;obtain ⟨p2,e5,eq⟩:=bind_some eq;refine ite_tt (chain_link (thn (S.E G c R3 ((F.go l1).go (l2.trans l3)) e4) fun t s4 ⟨M4,l4,R4,r4⟩=>?_));obtain ⟨q5,q6⟩:=iA (A:=X.A) (E:=NE) G.rm R4 (r2.go (l3.trans l4)) r4 e5;obtain ⟨k2,h5⟩:=p2;cases q5;refine thn q6 fun k' s5 ⟨M5,l5,R5,r5⟩=>?_;cases wb.mp r5;refine wpAny_truthy_bool ?_;dsimp only at eq;cases k2 with
  | false=>cases eq;exact ite_ff (R5.pb.go (l1.trans (l2.trans (l3.trans (l4.trans l5)))))
  | true =>
   obtain ⟨⟨z',h6⟩,e6,eq⟩:=bind_some eq;refine ite_tt (chain_last (thn (S.E G e R5 ((F.go l1).go (l2.trans (l3.trans (l4.trans l5)))) e6) fun t' s6 ⟨M6,l6,R6,r6⟩=>?_));obtain ⟨q7,q8⟩:=iA (A:=X.A) (E:=NE) G.rm R6 (r4.go (l5.trans l6)) r6 eq;rw [q7];exact thn q8 fun _ _ q=>q.go (l1.trans (l2.trans (l3.trans (l4.trans (l5.trans l6)))))
def bJ8 (S:Snd v) (G:Good X st d) {ops:List CmpOp} {cs:List Expr}:SE X (.Compare a ops cs pos) (aX (kA v st a ops cs)):=by
 unfold kA;rcases ops with _ | ⟨op,_ | ⟨op',_ | ⟨op'',_ | ⟨_,_⟩⟩⟩⟩
 ·exact kZ S G
 ·exact kZ S G
 ·exact kZ S G
 ·rcases cs with _ | ⟨b,_ | ⟨c,_ | ⟨e',_ | ⟨_,_⟩⟩⟩⟩
  ·exact kZ S G
  ·exact kZ S G
  ·exact kZ S G
  ·intro κ M δ h s w h' R F eq;obtain ⟨p,e2,ew⟩:=map_some (show ((if lastMarks [op,op',op''] [b,c,e']=true then xno else xC3 op op' op'' (v.E st a) (v.E st b) (v.E st c) (v.E st e')) δ h).map asW=_ from eq);cases ew
   by_cases hm:lastMarks [op,op',op''] [b,c,e']=true
   ·rw [if_pos hm] at e2;cases e2
   ·rw [if_neg hm] at e2;exact bJ7 S G (by simpa using hm) R F e2
  ·exact kZ S G
 ·exact kZ S G
def iJ {P:List Value->Shared->Prop} {E:Value->Shared->Prop} (hs:aH e=true) (h:Wp X.S X.A (eval e X.env) (fun v s1=>P [v] s1) E s):Wp X.S X.A (spliced (backTo pos (starEach [e] X.env))) P E s:=by
 rw [bU (es:=[]) e hs];show Wp _ _ (spliced ((false,eval e X.env)::backTo pos [])) _ _ s;exact Calls.spliced_cons (thn h fun u s1 q=>wpAny_pure q)
theorem bW9 (S:Snd v) (G:Good X st d) {pos2:Pos} (hx:okC st "list"=true) (hr:okC st "range"=true) (hs:aH b=true):SF X (.Call (.Name "list" p) [.Call (.Name "range" p2) [b] [] pos2] [] pos) (xb (aS v st [b]) fun ws=>fun _ h=>(match ws with
   | [.d (.int j)]=>if -(2^62)<=j/\j < 2^62/\j<=16000000 then some (rng 0 j.toNat,h) else none
   | _=>none)):=by
 intro κ M δ h s w h' R F e;obtain ⟨ws,h1,e1,e⟩:=aF e;obtain ⟨n1,n2,n3⟩:=cA G hx;refine wpAny_Call_Name_kw (bZ (u:=.type "list") F R n2 n3 (by decide +kernel) n1 ?_);refine PyProof.Rows.callWith_type1 (iJ (by rfl) ?_) rfl rfl;refine kF (f:=.type "range") S G hr boot_range (.inr ⟨_,rfl⟩) R F e1 fun {M1 us s1} l1 R1 r1=>?_;split at e
 ·rename_i j;obtain ⟨⟨b3,b4,b5⟩,e⟩:=aE e;cases e;obtain ⟨u,rfl,ru⟩:=w1 r1;obtain ⟨t2,rfl⟩:=wi.mp ru;refine call_range_1 (call_list_range (n:=j.toNat) G.rm.hd (IsRange.new ..) (small_one (by decide) (by decide) b3 b4) (by rw [rangeSize_one];split<;>omega) (by omega) fun h' tk acc c' k hS hacc=>?_);rw [Heap.size_push] at hS ⊢;have k1:∀ b o,s1.heap.get? b=some o->h'.get? b=some o:=fun b o e=>k b o (Heap.get?_push_of_some _ e);refine ⟨M1,l1,R1.kept (t:=tk) k1,s1.heap.objs.size+1,acc.toList,c',rfl,by rw [Array.toArray_toList];exact hS,R1.new (Heap.get?_none_of_le (Nat.le_succ _)),by rw [Array.length_toList,hacc.1,sizeLine_eq];omega,?_⟩;have gen:∀ (l:List Value) (m:List PyData),l.length=m.length->(∀ (k:Nat) v,l[k]?=some v->∃ x,m[k]?=some x/\Rep X.S M1.Z x v)->Reps' X.S M1 m l:=by
   intro l;induction l with
   | nil=>intro m hm _;rw [List.length_eq_zero_iff.mp hm.symm];exact .nil
   | cons v l ih =>
    intro m hm hv;cases m with
    | nil=>simp at hm
    | cons x m =>
     obtain ⟨x',e1,e2⟩:=hv 0 v rfl;simp at e1;subst e1;exact .cons e2 (ih m (by simpa using hm) fun k v e=>hv (k+1) v (by simpa using e))
  refine gen _ _ (by simp [hacc.1,rng]) fun k v e=>?_;rw [Array.getElem?_toList] at e;obtain ⟨tk,rfl⟩:=hacc.2 k v e;have hk:k < j.toNat:=by have:=(Array.getElem?_eq_some_iff.mp e).1;rw [hacc.1] at this;exact this
  exact ⟨.int k,by simp [rng,hk],rep_i.mpr ⟨tk,by simp⟩⟩
 ·cases e
end
end DL

namespace DL
open PySem PySem.Spec PyProof.Rows L2 CI
section
variable {X:Cx} {st:Sta} {d:Nat} {v:Evs} {κ:Kp} {M:Mp} {δ:DSt} {h h':aA} {s:Shared} {a b c e o tg iter:Expr} {es:List Expr} {pos p p2 apos:Pos} {x m:Str} {w:W}
theorem aI6 {h1:aA} {j:Nat} (hp:(match W.c j with
  | .c j=>(match h1[j]? with
   | some (.l _)=>true
   | some (.r _)=>true
   | _=>false)
  | _=>false)=true):(∃ xs,DL.ref h1 (.c j)=some (.list xs))\/∃ i xs,W.c j=.c i/\h1[i]?=some (.r xs):=by
 dsimp only at hp;split at hp
 ·rename_i xs e;exact .inl ⟨xs,by unfold DL.ref;dsimp only;rw [e]⟩
 ·rename_i xs e;exact .inr ⟨j,xs,rfl,e⟩
 ·cases hp
def aV1 {S:Sx} {A:Around} {E:Value->Shared->Prop} {i k:Nat} {p:Addr×Addr} {is:List W} {u:Value} (R:Mem S κ M h s) (ep:M.m[i]?=some p) (ei:h[i]?=some (.r is)) (hz:is.length < sizeLine) (rx:RepW S M (.c k) u):Wp S A (call (.builtin "list.append") [.ref p.1,u]) (Pw S κ M (h.set i (.r (is++[.c k]))) (.d .none)) E s:=by
 obtain ⟨us,n,e,hl,r⟩:=R.cel i p _ ep ei;have hlen:=r.length;refine call_meets F.slot_list_append ⟨_,e,rfl⟩ F.entry_list_append (F.args_list_append_2 _ _) (PySem.list_append p.1 us.toArray n u (by rw [List.size_toArray];omega)) ⟨e,?_⟩;exact (R.lset (t:=s.toks) (us':=us++[u]) (c:=.r (is++[.c k])) (f:=fun a=>a.push u) ep e (by simp) fun h2 n' e'=>⟨_,n',e',by rw [List.length_append,List.length_singleton];omega,Paired.snoc r rx⟩).pn
def aV2 {S:Sx} {A:Around} {E:Value->Shared->Prop} {x w:W} {h':aA} {u:Value} (R:Mem S κ M h s) (r:RepW S M x u) (e:aG0 x h=some (w,h')):(∃ b us n,u=.ref b/\s.heap.get? b=some (aV us n))/\Wp S A (call (.builtin "list.clear") [u]) (Pw S κ M h' w) E s:=by
 unfold aG0 at e;split at e
 ·rename_i j;obtain ⟨p,ep,rfl⟩:=r;split at e
  ·rename_i xs ej;cases e;obtain ⟨us,n,ho,hz,rr⟩:=R.cel j p _ ep ej;refine ⟨⟨_,us,n,rfl,ho⟩,call_meets F.slot_list_clear ⟨_,ho,rfl⟩ F.entry_list_clear (F.args_list_clear_1 _) (AutoSeq1.list_clear_list_0 p.1 us.toArray n (by rw [List.size_toArray];exact hz)) ⟨ho,?_⟩⟩;exact (R.lset (t:=s.toks) (us':=[]) (c:=.l []) (f:=fun _=>#[]) ep ho rfl fun h2 n' e'=>⟨_,n',e',Nat.zero_le _,.nil⟩).pn
  ·cases e
 ·cases e
def bJ9 (S:Snd v) (G:Good X st d) (ho:jA o=true) (hl:(apos.endLine==pos.line)=true):SE X (.Call (.Attribute o "clear" apos) [] [] pos) (bT6 v st o):=by
 intro κ M δ h s w h' R F e;obtain ⟨x,h1,e1,e⟩:=aF e;refine wpAny_Call_method_late (qM ho _ _) (by rfl) hl rfl (thn (S.E G o R F e1) fun u s1 ⟨M1,l1,R1,r1⟩=>?_);obtain ⟨⟨b,us,n,rfl,hob⟩,hw⟩:=aV2 (A:=X.A) (E:=NE) R1 r1 e;refine ⟨"list",_,PySem.F.plainAttrs_list,PySem.F.slot_list_clear,PySem.F.type_list_clear,(bM hob).isList.typeIs,fun c ec=>by cases ec;exact ⟨_,hob,rfl⟩,?_⟩;exact Calls.callWith_builtin rfl (evalArgs_nil3 (thn hw fun _ _ q=>q.go l1))
def bK0 (S:Snd v) (G:Good X st d) {g:W->List W->aA->Option (W×aA)} (hg:bG9 m=some g) (ho:jA o=true) (hl:(apos.endLine==pos.line)=true) (hn:(a::es).length < 29):SE X (.Call (.Attribute o m apos) (a::es) [] pos) (bC8 v st o m g (a::es)):=by
 intro κ M δ h s w h' R F q0;obtain ⟨x,h1,e1,q1⟩:=aF q0;obtain ⟨hp,q2⟩:=aE q1;obtain ⟨⟨ws,h2⟩,e2,e⟩:=bind_some q2;clear q0 q1 q2;unfold bG9 at hg;split at hg
 ·rename_i hm;subst hm;cases hg;unfold lG at hp;rw [if_pos rfl] at hp;unfold uK at e;dsimp only at e;split at e
  ·rename_i j z;refine aI2 S G PySem.F.slot_list_append PySem.F.type_list_append ho hl hn R F e1 (aI6 hp) e2 fun {M2 u us s2} l2 R2 r2 rs=>?_;split at e
   ·rename_i xs ej;obtain ⟨hz,e⟩:=aE e;cases e;obtain ⟨u1,rfl,ru⟩:=w1 rs;obtain ⟨p,ep,rfl⟩:=r2;exact thn (bJ0 R2 ep ej hz ru) fun _ _ q=>q.go l2
   ·cases e
  ·rename_i j k;refine aI2 S G PySem.F.slot_list_append PySem.F.type_list_append ho hl hn R F e1 (aI6 hp) e2 fun {M2 u us s2} l2 R2 r2 rs=>?_;split at e
   ·rename_i is ej;obtain ⟨hz,e⟩:=aE e;cases e;obtain ⟨u1,rfl,ru⟩:=w1 rs;obtain ⟨p,ep,rfl⟩:=r2;exact thn (aV1 R2 ep ej hz ru) fun _ _ q=>q.go l2
   ·cases e
  ·cases e
 ·cases hg
def aI7:SI X tg iter xno:=fun _ _ _ _ _ _ _ _ _ e=>by cases e
def aI8 (h:wP tg=true):∃ es k p,tg=.Tuple es k p:=by
 cases tg<;>first | exact ⟨_,_,_,rfl⟩ | cases h
def uT (S:Snd v):ItS v:=by
 intro X st d G tg iter;unfold rV;cases hq:itS iter with
 | some y =>
  obtain ⟨⟨x,a,ob⟩,p,pos,he⟩:=y;clear hq;subst he;cases ob with
  | none =>
  dsimp only;split
  ·rename_i hx;subst hx;split
   ·rename_i hc;rw [Bool.and_eq_true] at hc;exact bI1 S G hc.1 hc.2
   ·exact aI7
  ·split
   ·rename_i hx;subst hx;split
    ·rename_i hc;rw [Bool.and_eq_true,Bool.and_eq_true] at hc;obtain ⟨es,k,p,rfl⟩:=aI8 hc.2;exact bJ6 S G hc.1.1 hc.1.2
    ·exact aI7
   ·exact uR S G
  | some b =>
  dsimp only;split
  ·rename_i hx;subst hx;split
   ·rename_i hc;rw [Bool.and_eq_true,Bool.and_eq_true] at hc;exact bI2 S G hc.1.1 hc.1.2 hc.2
   ·exact aI7
  ·split
   ·rename_i hx;subst hx;split
    ·rename_i hc;rw [Bool.and_eq_true,Bool.and_eq_true,Bool.and_eq_true] at hc;obtain ⟨es,k,p,rfl⟩:=aI8 hc.2;exact bW8 S G hc.1.1.1 hc.1.1.2 hc.1.2
    ·exact aI7
   ·exact uR S G
 | none =>
  dsimp only;split
  ·exact aI7
  ·exact uR S G
end
end DL

namespace PySem
open PySem.Spec PyProof.Rows
abbrev iC (h:Heap) (z TI TO:Addr) (f0:Value) (f:Bool):Prop:=h.get? z=some { cls:=.type "zip",data:=.fields #[f0,.bool f,.bool false,.ref TI,.ref TO] }
section
variable {prog:Program} {w:World} {A:Around} {E:Value->Shared->Prop} {s:Shared}
def oW {z TI TO T0:Addr} {f:Bool} {oT:Obj} (hz:iC s.heap z TI TO (rawInt T0) f) (hT:s.heap.get? T0=some oT) {Q:Bool->Shared->Prop}
  (h:∀ h',iC h' z TI TO (rawInt T0) true->Heap.SameBut z s.heap h'->Q false { s with heap:=h' }):wpAny (model prog w) A (Builtin.SmallTypes.ownedTupleIsFree (.ref z)) Q E s:=by
 unfold Builtin.SmallTypes.ownedTupleIsFree;refine wpAny_bind (wpAny_field hz rfl rfl ?_);dsimp only [rawInt];refine wpAny_bind ?_;refine (show wpAny (model prog w) A (loadIfAlive ((T0:Int).toNat)) _ _ _ from ?_);rw [Int.toNat_natCast];refine PySem.W.kdx_alive hT ?_;rw [if_neg (by simp)];refine wpAny_bind (wpAny_field hz rfl rfl ?_);cases f with
 | true =>
  refine wpAny_ite_split (fun z'=>?_) fun _=>wpAny_pure (h s.heap hz (Heap.SameBut.refl _ _));have z2:(Value.bool true != Value.bool true)=true:=z';exact absurd z2 (by decide)
 | false =>
  refine wpAny_ite_split (fun _=>wpAny_bind (wpAny_setField_rec hz (by simp) fun h1 e1 s1=>wpAny_pure (h h1 e1 s1))) fun z'=>?_;exact absurd (show (Value.bool false != Value.bool true)=true by decide) z'
def aA4 {b c:Bool} {z TI TO T0 i1 i2 l1 l2:Addr} {f:Bool} {oT:Obj} {k:Nat} {xs ys:Array Value} {x y:Value} {Q:Value->Shared->Prop} (D:ZApart z TI TO i1 i2) (hz:iC s.heap z TI TO (rawInt T0) f) (hT:s.heap.get? T0=some oT) (hTI:IsPair s.heap TI (.ref i1) (.ref i2))
  (h1:ItAt b s.heap i1 l1 k) (h2:ItAt c s.heap i2 l2 k) (q1:SqAt b s.heap l1 xs) (q2:SqAt c s.heap l2 ys) (nz1:l1≠z) (nz2:l2≠z) (n21:l2≠i1) (hx:xs[k]?=some x) (hy:ys[k]?=some y)
  (hQ:∀ h',iC h' z TI TO (rawInt T0) true->ItAt b h' i1 l1 (k+1)->ItAt c h' i2 l2 (k+1)->IsPair h' s.heap.objs.size x y->h'.objs.size=s.heap.objs.size+1 ->
   (∀ a o,a≠z->a≠i1->a≠i2->s.heap.get? a=some o->h'.get? a=some o)->Q (.ref s.heap.objs.size) { s with heap:=h' }) :
  wpAny (model prog w) A (Builtin.«zip.__next__» { pos:=[.ref z] }) (fun fin s'=>∃ v,fin=Fin.done (.ret v)/\Q v s') E s:=by
 unfold Builtin.«zip.__next__»;refine wpAny_bind (wpAny_pure (a:=(Value.ref z,[])) ?_);refine wpAny_bind (wpAny_field hz rfl rfl (wpAny_bind (wpAny_field hz rfl rfl (wpAny_bind (wpAny_seqItems hTI rfl ?_)))));dsimp only;rw [if_neg (by simp)];refine wpAny_bind (oW hz hT fun H1 hz1 e1=>?_);rw [if_neg (by simp)];have h11:ItAt b H1 i1 l1 k:=h1.keep fun o e=>(e1.2 _ D.i1z).trans e;have q11:SqAt b H1 l1 xs:=q1.keep fun o e=>(e1.2 _ nz1).trans e;have h21:ItAt c H1 i2 l2 k:=h2.keep fun o e=>(e1.2 _ D.i2z).trans e;have q21:SqAt c H1 l2 ys:=q2.keep fun o e=>(e1.2 _ nz2).trans e;rw [List.forIn_toArray,List.forIn_cons];refine wpAny_bind (wpAny_bind (wpAny_bind (wpAny_holding ?_)))
 change wpAny _ _ (Builtin.SmallTypes.nextOf (Value.ref i1) >>= fun v=>pure (some v)) _ _ _
 refine wpAny_bind (bV (s:={ s with heap:=H1 }) h11 q11 hx fun H2 h12 e2=>wpAny_pure (wpAny_pure ?_));dsimp only;rw [List.forIn_cons];have h22:ItAt c H2 i2 l2 k:=h21.keep fun o e=>(e2.2 _ D.i12.symm).trans e;have q22:SqAt c H2 l2 ys:=q21.keep fun o e=>(e2.2 _ n21).trans e;refine wpAny_bind (wpAny_bind (wpAny_holding ?_))
 change wpAny _ _ (Builtin.SmallTypes.nextOf (Value.ref i2) >>= fun v=>pure (some v)) _ _ _
 refine wpAny_bind (bV (s:={ s with heap:=H2 }) h22 q22 hy fun H3 h23 e3=>wpAny_pure (wpAny_pure ?_));dsimp only;rw [List.forIn_nil];refine wpAny_pure ?_;dsimp only;have es:H3.objs.size=s.heap.objs.size:=by rw [e3.1];exact e2.1.trans e1.1
 refine wpAny_bind (wpAny_newTuple (items:=[x,y]) (wpAny_pure ⟨_,rfl,?_⟩) (by simp [sizeLine_eq]));have k3:∀ a o,a≠z->a≠i1->a≠i2->s.heap.get? a=some o->H3.get? a=some o:=fun a o n1 n2 n3 e=>(e3.2 _ n3).trans ((e2.2 _ n2).trans ((e1.2 _ n1).trans e));have hz3:iC H3 z TI TO (rawInt T0) true:=(e3.2 _ D.i2z.symm).trans ((e2.2 _ D.i1z.symm).trans hz1);have q:=hQ (H3.push { cls:=.type "tuple",data:=.seq #[x,y] }) (Heap.get?_push_of_some _ hz3) (h12.keep fun o e=>Heap.get?_push_of_some _ ((e3.2 _ D.i12).trans e)) (h23.keep fun o e=>Heap.get?_push_of_some _ e) (by rw [<- es];exact Heap.get?_push_size _ rfl) (by rw [Heap.size_push,es])
  fun a o n1 n2 n3 e=>Heap.get?_push_of_some _ (k3 a o n1 n2 n3 e)
 rw [<- es] at q;exact q
def aI9 {b c:Bool} {z TI TO T0 i1 i2 l1 l2:Addr} {f:Bool} {oT:Obj} {k:Nat} {xs ys:Array Value} {Q:Fin->Shared->Prop} (hh:A.handled=none) (D:ZApart z TI TO i1 i2) (hz:iC s.heap z TI TO (rawInt T0) f) (hT:s.heap.get? T0=some oT) (hTI:IsPair s.heap TI (.ref i1) (.ref i2))
  (h1:ItAt b s.heap i1 l1 k) (h2:ItAt c s.heap i2 l2 k) (q1:SqAt b s.heap l1 xs) (q2:SqAt c s.heap l2 ys) (nz1:l1≠z) (nz2:l2≠z) (n21:l2≠i1) (hn:xs[k]?=none\/ys[k]?=none)
  (hE:∀ h' e,(∀ a o,a≠z->a≠i1->a≠i2->s.heap.get? a=some o->h'.get? a=some o)->(∃ o,h'.get? e=some o/\o.cls=.type "StopIteration")->E (.ref e) { s with heap:=h' }) :
  wpAny (model prog w) A (Builtin.«zip.__next__» { pos:=[.ref z] }) Q E s:=by
 unfold Builtin.«zip.__next__»;refine wpAny_bind (wpAny_pure (a:=(Value.ref z,[])) ?_);refine wpAny_bind (wpAny_field hz rfl rfl (wpAny_bind (wpAny_field hz rfl rfl (wpAny_bind (wpAny_seqItems hTI rfl ?_)))));dsimp only;rw [if_neg (by simp)];refine wpAny_bind (oW hz hT fun H1 hz1 e1=>?_);rw [if_neg (by simp)];have h11:ItAt b H1 i1 l1 k:=h1.keep fun o e=>(e1.2 _ D.i1z).trans e;have q11:SqAt b H1 l1 xs:=q1.keep fun o e=>(e1.2 _ nz1).trans e;have h21:ItAt c H1 i2 l2 k:=h2.keep fun o e=>(e1.2 _ D.i2z).trans e;have q21:SqAt c H1 l2 ys:=q2.keep fun o e=>(e1.2 _ nz2).trans e;rw [List.forIn_toArray,List.forIn_cons];refine wpAny_bind (wpAny_bind (wpAny_bind (wpAny_holding ?_)))
 change wpAny _ _ (Builtin.SmallTypes.nextOf (Value.ref i1) >>= fun v=>pure (some v)) _ _ _
 by_cases hx:xs[k]?=none
 ·refine wpAny_bind (fD (s:={ s with heap:=H1 }) hh h11 q11 hx fun H2 e g2 he=>hE H2 e (fun a o n1 n2 n3 g=>g2 a o n2 ((e1.2 _ n1).trans g)) he)
 ·have hy:ys[k]?=none:=hn.resolve_left hx;obtain ⟨x,hx⟩:=Option.ne_none_iff_exists'.mp hx;refine wpAny_bind (bV (s:={ s with heap:=H1 }) h11 q11 hx fun H2 h12 e2=>wpAny_pure (wpAny_pure ?_));dsimp only;rw [List.forIn_cons];have h22:ItAt c H2 i2 l2 k:=h21.keep fun o e=>(e2.2 _ D.i12.symm).trans e;have q22:SqAt c H2 l2 ys:=q21.keep fun o e=>(e2.2 _ n21).trans e;refine wpAny_bind (wpAny_bind (wpAny_holding ?_))
  change wpAny _ _ (Builtin.SmallTypes.nextOf (Value.ref i2) >>= fun v=>pure (some v)) _ _ _
  refine wpAny_bind (fD (s:={ s with heap:=H2 }) hh h22 q22 hy fun H3 e g3 he=>hE H3 e (fun a o n1 n2 n3 g=>g3 a o n3 ((e2.2 _ n2).trans ((e1.2 _ n1).trans g))) he)
end
end PySem

namespace PySem
open PySem.Spec PyProof.Rows
structure ZL (b c:Bool) (z TI TO i1 i2 l1 l2 S lo:Addr) (xs ys:Array Value) (h:Heap) (as bs:List Addr) (cnt:Nat):Prop where
 zp:(as=[]/\IsZip h z TI TO .none/\∃ u v,IsPair h TO u v)\/∃ (T0:Addr) (f:Bool) (o:Obj),iC h z TI TO (rawInt T0) f/\h.get? T0=some o/\lo<=T0
 ti:IsPair h TI (.ref i1) (.ref i2)
 a1:ItAt b h i1 l1 as.length
 a2:ItAt c h i2 l2 as.length
 s1:SqAt b h l1 xs
 s2:SqAt c h l2 ys
 ls:h.get? S=some { cls:=.type "list",dict:=none,data:=.seq (bs.map Value.ref).toArray cnt,slots:=#[] }
 pr:∀ (j:Nat) (a:Addr),as[j]?=some a->lo<=a/\∃ x y,xs[j]?=some x/\ys[j]?=some y/\IsPair h a x y
 nd:as.Pairwise (· < ·)
structure ZLow (z TI TO i1 i2 l1 l2 S lo:Addr):Prop where
 pz:z < lo
 pTI:TI < lo
 pTO:TO < lo
 p1:i1 < lo
 p2:i2 < lo
 pS:S < lo
 Sz:S≠z
 STI:S≠TI
 STO:S≠TO
 Si1:S≠i1
 Si2:S≠i2
 Sl1:S≠l1
 Sl2:S≠l2
 l1z:l1≠z
 l2z:l2≠z
 l2T:l2≠TO
 l2i:l2≠i1
 l1T:l1≠TO
 l1i1:l1≠i1
 l1i2:l1≠i2
 l2i2:l2≠i2
section
variable {prog:Program} {w:World} {A:Around} {E:Value->Shared->Prop} {s:Shared} {R:Result->Shared->Prop} {b c:Bool} {z TI TO i1 i2 l1 l2 S lo:Addr} {xs ys:Array Value} {as bs:List Addr} {cnt:Nat}
def ZL.snoc {h h':Heap} {p:Addr} {x y:Value} (D:ZApart z TI TO i1 i2) (L:ZLow z TI TO i1 i2 l1 l2 S lo) (st:ZL b c z TI TO i1 i2 l1 l2 S lo xs ys h as bs cnt) (hp:lo<=p) (hpp:h.objs.size<=p) (hx:xs[as.length]?=some x) (hy:ys[as.length]?=some y)
  (hz:∃ (T0:Addr) (f:Bool) (o:Obj),iC h' z TI TO (rawInt T0) f/\h'.get? T0=some o/\lo<=T0) (a1:ItAt b h' i1 l1 (as.length+1)) (a2:ItAt c h' i2 l2 (as.length+1)) (pr:IsPair h' p x y)
  (k:∀ a o,a≠z->a≠TO->a≠i1->a≠i2->h.get? a=some o->h'.get? a=some o):ZL b c z TI TO i1 i2 l1 l2 S lo xs ys h' (as++[p]) bs cnt where
 zp:=.inr hz
 ti:=k _ _ D.TIz D.TITO D.TIi1 D.TIi2 st.ti
 a1:=by simpa using a1
 a2:=by simpa using a2
 s1:=st.s1.keep fun o e=>k _ _ L.l1z L.l1T L.l1i1 L.l1i2 e
 s2:=st.s2.keep fun o e=>k _ _ L.l2z L.l2T L.l2i L.l2i2 e
 ls:=k _ _ L.Sz L.STO L.Si1 L.Si2 st.ls
 pr:=fun j a e=>by
  by_cases hj:j < as.length
  ·rw [List.getElem?_append_left hj] at e;obtain ⟨q1,x',y',e1,e2,q2⟩:=st.pr j a e;refine ⟨q1,x',y',e1,e2,k _ _ ?_ ?_ ?_ ?_ q2⟩
   ·exact Nat.ne_of_gt (Nat.lt_of_lt_of_le L.pz q1)
   ·exact Nat.ne_of_gt (Nat.lt_of_lt_of_le L.pTO q1)
   ·exact Nat.ne_of_gt (Nat.lt_of_lt_of_le L.p1 q1)
   ·exact Nat.ne_of_gt (Nat.lt_of_lt_of_le L.p2 q1)
  ·have hj2:j=as.length:=by
    have:=(List.getElem?_eq_some_iff.mp e).1;simp at this;omega
   subst hj2;simp at e;subst e;exact ⟨hp,x,y,hx,hy,pr⟩
 nd:=by
  rw [List.pairwise_append];refine ⟨st.nd,List.pairwise_singleton _ _,fun a ha q hq=>?_⟩;rw [List.mem_singleton.mp hq];obtain ⟨j,hj,e⟩:=List.mem_iff_getElem.mp ha;obtain ⟨_,x,y,_,_,g⟩:=st.pr j a (by rw [<- e];exact List.getElem?_eq_getElem hj);exact Nat.lt_of_lt_of_le (Heap.lt_size g) hpp
def aV3 {x y:Value} {Q:Option Value->Shared->Prop} (D:ZApart z TI TO i1 i2) (L:ZLow z TI TO i1 i2 l1 l2 S lo) (hlo:lo<=s.heap.objs.size) (st:ZL b c z TI TO i1 i2 l1 l2 S lo xs ys s.heap as bs cnt) (hx:xs[as.length]?=some x) (hy:ys[as.length]?=some y)
  (hQ:∀ h',ZL b c z TI TO i1 i2 l1 l2 S lo xs ys h' (as++[s.heap.objs.size]) bs cnt->lo<=h'.objs.size->(∀ a o,a≠z->a≠TO->a≠i1->a≠i2->s.heap.get? a=some o->h'.get? a=some o)->Q (some (.ref s.heap.objs.size)) { s with heap:=h' }) :
  wpAny (model prog w) A (pyNext (.ref z)) Q E s:=by
 rcases st.zp with ⟨e0,z1,u,v,z2⟩ | ⟨T0,f,o,z1,z2,z3⟩
 ·have hT:s.TypeIs (.ref z) "zip":=⟨_,z1,rfl⟩;refine wpAny_bind (wpAny_attempt (wpAny_callSpecial?_slot hT F.slot_zip_next (wpAny_call_entry F.slot_zip_next hT F.entry_zip_next (oU D z1 st.ti z2 st.a1 st.a2 st.s1 st.s2 L.l1z L.l2z L.l2T L.l2i hx hy fun h' a1 a2 a3 a4 a5 a6 a7=>wpAny_pure ?_) (F.args_zip_next_1 _))));exact hQ h' (st.snoc D L hlo (Nat.le_refl _) hx hy ⟨_,_,_,a1,a5,hlo⟩ a3 a4 a5 a7) (by rw [a6];exact Nat.le_succ_of_le hlo) a7
 ·have hT:s.TypeIs (.ref z) "zip":=⟨_,z1,rfl⟩;refine wpAny_bind (wpAny_attempt (wpAny_callSpecial?_slot hT F.slot_zip_next (wpAny_call_entry F.slot_zip_next hT F.entry_zip_next (aA4 D z1 z2 st.ti st.a1 st.a2 st.s1 st.s2 L.l1z L.l2z L.l2i hx hy fun h' a1 a3 a4 a5 a6 a7=>wpAny_pure ?_) (F.args_zip_next_1 _))));have T0n:∀ {q:Addr},q < lo->T0≠q:=fun hq=>Nat.ne_of_gt (Nat.lt_of_lt_of_le hq z3);exact hQ h' (st.snoc D L hlo (Nat.le_refl _) hx hy ⟨_,_,_,a1,a7 _ _ (T0n L.pz) (T0n L.p1) (T0n L.p2) z2,z3⟩ a3 a4 a5 fun a o n1 _ n3 n4 e=>a7 a o n1 n3 n4 e) (by rw [a6];exact Nat.le_succ_of_le hlo) fun a o n1 _ n3 n4 e=>a7 a o n1 n3 n4 e
def bK1 {Q:Option Value->Shared->Prop} (hh:A.handled=none) (D:ZApart z TI TO i1 i2) (L:ZLow z TI TO i1 i2 l1 l2 S lo) (st:ZL b c z TI TO i1 i2 l1 l2 S lo xs ys s.heap as bs cnt) (hn:xs[as.length]?=none\/ys[as.length]?=none)
  (hQ:∀ h',(∀ a o,a≠z->a≠TO->a≠i1->a≠i2->s.heap.get? a=some o->h'.get? a=some o)->Q none { s with heap:=h' }):wpAny (model prog w) A (pyNext (.ref z)) Q E s:=by
 rcases st.zp with ⟨e0,z1,u,v,z2⟩ | ⟨T0,f,o,z1,z2,z3⟩
 ·have hT:s.TypeIs (.ref z) "zip":=⟨_,z1,rfl⟩;exact wpAny_bind (wpAny_attempt (wpAny_callSpecial?_slot hT F.slot_zip_next (wpAny_call_entry F.slot_zip_next hT F.entry_zip_next (sJ hh D z1 st.ti z2 st.a1 st.a2 st.s1 st.s2 L.l1z L.l2z L.l2T L.l2i hn
   fun h' e kk ⟨o,ho,hc⟩=>wpAny_bind (wpAny_isInstance ⟨o,ho,hc⟩ isSubtype_stop (wpAny_pure (hQ h' kk)))) (F.args_zip_next_1 _))))
 ·have hT:s.TypeIs (.ref z) "zip":=⟨_,z1,rfl⟩;exact wpAny_bind (wpAny_attempt (wpAny_callSpecial?_slot hT F.slot_zip_next (wpAny_call_entry F.slot_zip_next hT F.entry_zip_next (aI9 hh D z1 z2 st.ti st.a1 st.a2 st.s1 st.s2 L.l1z L.l2z L.l2i hn
   fun h' e kk ⟨o,ho,hc⟩=>wpAny_bind (wpAny_isInstance ⟨o,ho,hc⟩ isSubtype_stop (wpAny_pure (hQ h' fun a o n1 _ n3 n4 e=>kk a o n1 n3 n4 e)))) (F.args_zip_next_1 _))))
def ZL.put {h h':Heap} {cnt':Nat} {bs':List Addr} (L:ZLow z TI TO i1 i2 l1 l2 S lo) (st:ZL b c z TI TO i1 i2 l1 l2 S lo xs ys h as bs cnt) (k:∀ a o,a≠S->h.get? a=some o->h'.get? a=some o)
  (ls:h'.get? S=some { cls:=.type "list",dict:=none,data:=.seq (bs'.map Value.ref).toArray cnt',slots:=#[] }):ZL b c z TI TO i1 i2 l1 l2 S lo xs ys h' as bs' cnt' where
 zp:=st.zp.imp (fun ⟨e,z1,u,v,z2⟩=>⟨e,k _ _ L.Sz.symm z1,u,v,k _ _ L.STO.symm z2⟩) fun ⟨T0,f,o,z1,z2,z3⟩=>⟨T0,f,o,k _ _ L.Sz.symm z1,k _ _ (Nat.ne_of_gt (Nat.lt_of_lt_of_le L.pS z3)) z2,z3⟩
 ti:=k _ _ L.STI.symm st.ti
 a1:=st.a1.keep fun o e=>k _ _ L.Si1.symm e
 a2:=st.a2.keep fun o e=>k _ _ L.Si2.symm e
 s1:=st.s1.keep fun o e=>k _ _ L.Sl1.symm e
 s2:=st.s2.keep fun o e=>k _ _ L.Sl2.symm e
 ls:=ls
 pr:=fun j a e=>by
  obtain ⟨q1,x,y,e1,e2,q2⟩:=st.pr j a e;exact ⟨q1,x,y,e1,e2,k _ _ (Nat.ne_of_gt (Nat.lt_of_lt_of_le L.pS q1)) q2⟩
 nd:=st.nd
def aV4 {res:Value} (hh:A.handled=none) (D:ZApart z TI TO i1 i2) (L:ZLow z TI TO i1 i2 l1 l2 S lo) (hz:xs.size<=sizeLine) :
  ∀ (k:Nat) (s:Shared) (as:List Addr) (cnt:Nat),xs.size - as.length=k->lo<=s.heap.objs.size->ZL b c z TI TO i1 i2 l1 l2 S lo xs ys s.heap as as cnt ->
   (∀ h' as' cnt',as'.length=min xs.size ys.size->ZL b c z TI TO i1 i2 l1 l2 S lo xs ys h' as' as' cnt'\/(h'.get? S=some { cls:=.type "list",dict:=none,data:=.seq (as'.map Value.ref).toArray cnt',slots:=#[] }/\as'.Pairwise (· < ·) /\
    ∀ (j:Nat) (a:Addr),as'[j]?=some a->lo<=a/\∃ x y,xs[j]?=some x/\ys[j]?=some y/\IsPair h' a x y)->(∀ a o,a≠z->a≠TO->a≠i1->a≠i2->a≠S->s.heap.get? a=some o->h'.get? a=some o)->R (.ok (.ret res)) { s with heap:=h' }) ->
   codeAny (model prog w) A (.builtin "list.extend.loop" ⟨[.ref S,.ref z,res],[]⟩) R s:=by
 have stop:∀ (s:Shared) (as:List Addr) (cnt:Nat),ZL b c z TI TO i1 i2 l1 l2 S lo xs ys s.heap as as cnt->(xs[as.length]?=none\/ys[as.length]?=none) ->
   (∀ h' as' cnt',as'.length=min xs.size ys.size->ZL b c z TI TO i1 i2 l1 l2 S lo xs ys h' as' as' cnt'\/(h'.get? S=some { cls:=.type "list",dict:=none,data:=.seq (as'.map Value.ref).toArray cnt',slots:=#[] }/\as'.Pairwise (· < ·) /\
    ∀ (j:Nat) (a:Addr),as'[j]?=some a->lo<=a/\∃ x y,xs[j]?=some x/\ys[j]?=some y/\IsPair h' a x y)->(∀ a o,a≠z->a≠TO->a≠i1->a≠i2->a≠S->s.heap.get? a=some o->h'.get? a=some o)->R (.ok (.ret res)) { s with heap:=h' }) ->
   codeAny (model prog w) A (.builtin "list.extend.loop" ⟨[.ref S,.ref z,res],[]⟩) R s:=by
  intro s as cnt st hn hR;refine codeAny_builtin F.entry_extend_loop ?_;rw [Around.under_plainId F.plain_extend_loop _];refine wpAny_bind (bK1 (A:=A.in1) hh D L st hn fun h' kk=>wpAny_pure (hR h' as cnt ?_ (.inr ⟨kk _ _ L.Sz L.STO L.Si1 L.Si2 st.ls,st.nd,fun j a e=>?_⟩) fun a o n1 n2 n3 n4 _ e=>kk a o n1 n2 n3 n4 e))
  ·have q:∀ j,j < as.length->j < xs.size/\j < ys.size:=fun j hj=>by
    obtain ⟨_,x,y,e1,e2,_⟩:=st.pr j as[j] (List.getElem?_eq_getElem hj);exact ⟨(Array.getElem?_eq_some_iff.mp e1).1,(Array.getElem?_eq_some_iff.mp e2).1⟩
   have hle:as.length<=xs.size/\as.length<=ys.size:=by
    rcases Nat.eq_zero_or_pos as.length with e | e
    ·omega
    ·have:=q (as.length - 1) (by omega);omega
   rcases hn with hn | hn
   ·have:=Array.getElem?_eq_none_iff.mp hn;omega
   ·have:=Array.getElem?_eq_none_iff.mp hn;omega
  ·obtain ⟨q1,x,y,e1,e2,q2⟩:=st.pr j a e;have nn:∀ {q:Addr},q < lo->a≠q:=fun hq=>Nat.ne_of_gt (Nat.lt_of_lt_of_le hq q1);exact ⟨q1,x,y,e1,e2,kk _ _ (nn L.pz) (nn L.pTO) (nn L.p1) (nn L.p2) q2⟩
 intro k;induction k with
 | zero =>
  intro s as cnt hk hlo st hR;exact stop s as cnt st (.inl (Array.getElem?_eq_none (by omega))) hR
 | succ k ih =>
  intro s as cnt hk hlo st hR
  by_cases hy:ys[as.length]?=none
  ·exact stop s as cnt st (.inr hy) hR
  obtain ⟨y,hy⟩:=Option.ne_none_iff_exists'.mp hy;have hx:xs[as.length]?=some (xs[as.length]'(by omega)):=Array.getElem?_eq_getElem _;refine codeAny_builtin F.entry_extend_loop ?_;rw [Around.under_plainId F.plain_extend_loop _];refine wpAny_bind (aV3 (A:=A.in1) D L hlo st hx hy fun h1 st1 hlo1 k1=>?_);show wpAny _ _ (updateSeq S (·.push (.ref s.heap.objs.size)) >>= _) _ _ _;have e2:=Heap.get?_update_self (Obj.mapSeq (·.push (Value.ref s.heap.objs.size))) st1.ls rfl;have k2:∀ a o,a≠S->h1.get? a=some o->(h1.update S (Obj.mapSeq (·.push (Value.ref s.heap.objs.size)))).get? a=some o:=fun a o n e=>(Heap.get?_update_other _ _ (Ne.symm n)).trans e;refine wpAny_bind (wpAny_updateSeq st1.ls rfl (wpAny_pure ⟨plainId_quiet F.plain_extend_loop _,ih _ (as++[s.heap.objs.size]) (cnt+1) (by simp;omega) (by rw [Heap.size_update];exact hlo1) (st1.put L k2 ?_) fun h' as' cnt' q1 q2 q3=>hR h' as' cnt' q1 q2 fun a o n1 n2 n3 n4 n5 e=>q3 a o n1 n2 n3 n4 n5 (k2 a o n5 (k1 a o n1 n2 n3 n4 e))⟩) ?_ ?_)
  ·refine e2.trans ?_;simp [Obj.mapSeq]
  ·simp;omega
  ·simp;omega
end
end PySem

namespace PySem
open PySem.Spec PyProof.Rows
def aA5:typeLookup (.type "zip") "__len__"=pure none:=by rw [typeLookup_type,builtinLookup_eq_fast];kernel_rfl
def uU:typeLookup (.type "zip") "__length_hint__"=pure none:=by rw [typeLookup_type,builtinLookup_eq_fast];kernel_rfl
section
variable {prog:Program} {w:World} {A:Around} {E:Value->Shared->Prop} {s:Shared} {R:Result->Shared->Prop} {b c:Bool} {z TI TO i1 i2 l1 l2 S lo:Addr} {xs ys:Array Value}
def aA6 {Q:Value->Shared->Prop} (hh:A.handled=none) (D:ZApart z TI TO i1 i2) (hz:xs.size<=sizeLine) (z1:IsZip s.heap z TI TO .none) (z2:IsPair s.heap TI (.ref i1) (.ref i2)) (z3:IsPair s.heap TO .none .none) (z4:ItAt b s.heap i1 l1 0) (z5:ItAt c s.heap i2 l2 0) (z6:SqAt b s.heap l1 xs) (z7:SqAt c s.heap l2 ys)
  (n1:l1≠z/\l1≠TO/\l1≠i1/\l1≠i2) (n2:l2≠z/\l2≠TO/\l2≠i1/\l2≠i2)
  (hQ:∀ (h':Heap) (as:List Addr) (cnt:Nat),as.length=min xs.size ys.size->h'.get? s.heap.objs.size=some { cls:=.type "list",dict:=none,data:=.seq (as.map Value.ref).toArray cnt,slots:=#[] }->as.Pairwise (· < ·) ->
   (∀ (j:Nat) (a:Addr),as[j]?=some a->s.heap.objs.size < a/\∃ x y,xs[j]?=some x/\ys[j]?=some y/\IsPair h' a x y)->(∀ a o,a≠z->a≠TO->a≠i1->a≠i2->s.heap.get? a=some o->h'.get? a=some o)->Q (.ref s.heap.objs.size) { s with heap:=h' }) :
  wpAny (model prog w) A (call (.type "list") [.ref z]) Q E s:=by
 refine callType_codes (Q₁:=fun obj s₁=>obj=.ref s.heap.objs.size/\s₁={ s with heap:=s.heap.push { cls:=.type "list",data:=.seq #[] } }) F.called_list (F.typeCall_list_1 _) F.entry_list_init (code_list_new _ ⟨rfl,rfl⟩) fun obj s₁ h₁=>?_;obtain ⟨rfl,rfl⟩:=h₁;have hS:(s.heap.push { cls:=.type "list",data:=.seq #[] }).get? s.heap.objs.size=some { cls:=.type "list",data:=.seq #[] }:=Heap.get?_push_size _ rfl;refine ⟨⟨_,hS,rfl⟩,F.args_list_init_2 _ _,?_⟩;have ne:∀ {q:Addr} {o:Obj},s.heap.get? q=some o->s.heap.objs.size≠q:=fun e=>Nat.ne_of_gt (Heap.lt_size e);have it1:∃ o,s.heap.get? i1=some o:=by cases b<;>exact ⟨_,z4.choose_spec.1⟩
 have it2:∃ o,s.heap.get? i2=some o:=by cases c<;>exact ⟨_,z5.choose_spec.1⟩
 have sq1:∃ o,s.heap.get? l1=some o:=by cases b<;>exact ⟨_,z6.choose_spec.1⟩
 have sq2:∃ o,s.heap.get? l2=some o:=by cases c<;>exact ⟨_,z7.choose_spec.1⟩
 obtain ⟨o1,g1⟩:=it1;obtain ⟨o2,g2⟩:=it2;obtain ⟨o3,g3⟩:=sq1;obtain ⟨o4,g4⟩:=sq2;have lt:∀ {q:Addr} {o:Obj},s.heap.get? q=some o->q < s.heap.objs.size+1:=fun e=>Nat.lt_succ_of_lt (Heap.lt_size e);have L:ZLow z TI TO i1 i2 l1 l2 s.heap.objs.size (s.heap.objs.size+1):=⟨lt z1,lt z2,lt z3,lt g1,lt g2,Nat.lt_succ_self _,ne z1,ne z2,ne z3,ne g1,ne g2,ne g3,ne g4,n1.1,n2.1,n2.2.1,n2.2.2.1,n1.2.1,n1.2.2.1,n1.2.2.2,n2.2.2.2⟩;unfold Builtin.«list.__init__»;dsimp only;refine wpAny_bind ?_;unfold Builtin.List.listItems;refine wpAny_bind (wpAny_seqItems hS rfl (wpAny_pure ?_));show wpAny _ _ (updateSeq s.heap.objs.size (fun _=>#[]) >>= fun _=>letGo (#[]:Array Value).toList.reverse >>= fun _=>Builtin.List.listExtendWith (.ref s.heap.objs.size) (.ref z) .none) _ _ _;have hS2:=Heap.get?_update_self (Obj.mapSeq (fun _=>(#[]:Array Value))) hS rfl;have k2:∀ a o,s.heap.get? a=some o->((s.heap.push { cls:=.type "list",data:=.seq #[] }).update s.heap.objs.size (Obj.mapSeq (fun _=>(#[]:Array Value)))).get? a=some o:=fun a o e=>(Heap.get?_update_other _ _ (ne e)).trans (Heap.get?_push_of_some _ e);have sz2:((s.heap.push { cls:=.type "list",data:=.seq #[] }).update s.heap.objs.size (Obj.mapSeq (fun _=>(#[]:Array Value)))).objs.size=s.heap.objs.size+1:=by rw [Heap.size_update,Heap.size_push]
 refine wpAny_bind (wpAny_updateSeq hS rfl (wpAny_bind (wpAny_letGo ?_)));generalize (s.heap.push { cls:=.type "list",data:=.seq #[] }).update s.heap.objs.size (Obj.mapSeq (fun _=>(#[]:Array Value)))=H2 at hS2 k2 sz2;unfold Builtin.List.listExtendWith;have hT:Shared.TypeIs { s with heap:=H2 } (.ref z) "zip":=⟨_,k2 _ _ z1,rfl⟩;refine wpAny_bind (wpAny_typeOf hT ?_);have e1:Builtin.List.listSameRef (.ref s.heap.objs.size) (.ref z)=false:=by simp [Builtin.List.listSameRef,ne z1]
 simp only [e1,show (Value.type "zip"==Value.type "list")=false by decide,show (Value.type "zip"==Value.type "tuple")=false by decide,Bool.or_false,Bool.false_eq_true,if_false];refine wpAny_bind (wpAny_pyIter_zip (s:={ s with heap:=H2 }) (k2 _ _ z1) (wpAny_bind (wpAny_holding ?_)));unfold Builtin.List.listLengthHint;refine wpAny_bind (wpAny_specialOf hT aA5 ?_);show wpAny _ _ (specialOf (Value.ref z) (Str.ofString "__length_hint__") >>= _) _ _ _;refine wpAny_bind (wpAny_specialOf hT uU (wpAny_pure ?_));show wpAny _ _ (rule "list.extend.makes-room" >>= fun _=>Builtin.List.listTouch (.ref s.heap.objs.size) >>= fun _=>again (.builtin "list.extend.loop" ⟨[.ref s.heap.objs.size,.ref z,.none],[]⟩)) _ _ _;refine wpAny_bind (wpAny_rule (wpAny_bind ?_));show wpAny _ _ (updateSeq s.heap.objs.size (·.push .none) >>= fun _=>updateSeq s.heap.objs.size (·.pop)) _ _ _;have hS3:=Heap.get?_update_self (Obj.mapSeq (·.push Value.none)) hS2 rfl;have hS4:=Heap.get?_update_self (Obj.mapSeq (·.pop)) hS3 rfl;have k4:∀ a o,s.heap.get? a=some o->((H2.update s.heap.objs.size (Obj.mapSeq (·.push Value.none))).update s.heap.objs.size (Obj.mapSeq (·.pop))).get? a=some o:=fun a o e =>
  (Heap.get?_update_other _ _ (ne e)).trans ((Heap.get?_update_other _ _ (ne e)).trans (k2 a o e))
 refine wpAny_bind (wpAny_updateSeq hS2 rfl (wpAny_updateSeq (hz:=by seq_fits) hS3 rfl (wpAny_pure ⟨plainId_quiet F.plain_extend_loop _,?_⟩)));refine aV4 (A:=A.in1) (b:=b) (c:=c) (xs:=xs) (ys:=ys) hh D L hz xs.size _ [] _ (by simp) (by rw [Heap.size_update,Heap.size_update];exact Nat.le_of_eq sz2.symm)
  ⟨.inl ⟨rfl,k4 _ _ z1,_,_,k4 _ _ z3⟩,k4 _ _ z2,z4.keep fun o e=>k4 _ _ e,z5.keep fun o e=>k4 _ _ e,z6.keep fun o e=>k4 _ _ e,z7.keep fun o e=>k4 _ _ e,hS4,fun j a e=>by simp at e,.nil⟩ fun h' as cnt q1 q2 q3=>⟨rfl,?_⟩
 have q4:h'.get? s.heap.objs.size=some { cls:=.type "list",dict:=none,data:=.seq (as.map Value.ref).toArray cnt,slots:=#[] }/\as.Pairwise (· < ·)/\∀ (j:Nat) (a:Addr),as[j]?=some a->s.heap.objs.size+1<=a/\∃ x y,xs[j]?=some x/\ys[j]?=some y/\IsPair h' a x y :=
  q2.elim (fun st=>⟨st.ls,st.nd,st.pr⟩) id
 exact hQ h' as cnt q1 q4.1 q4.2.1 q4.2.2 fun a o m1 m2 m3 m4 e=>q3 a o m1 m2 m3 m4 (ne e).symm (k4 a o e)
end
end PySem

namespace ST
open PySem PySem.Spec PyProof.Rows
section
variable {prog:Program} {w:World} {A:Around} {E:Value->Shared->Prop} {s:Shared}
def nZ {r:Addr} {a b:Int} {t u v:Tok} {n:Nat} (hh:A.handled=none) (hr:IsRange s.heap r a b 1 t u v) (hsmall:Builtin.Range.small a b 1=true) (hn:Builtin.Range.rangeSize a b 1=n) (hlen:n<=2^24) {R:List Value->Shared->Prop}
  (hR:∀ (h':Heap) (tk:Nat) (acc:Array Value),(∀ b o,s.heap.get? b=some o->h'.get? b=some o)->ItemsOf (fun i v=>∃ t,v=.int (a+i*1) t) acc n->R acc.toList { s with heap:=h',toks:=tk }):wpAny (model prog w) A (collect (.ref r)) R E s:=by
 unfold collect;refine wpAny_bind (wpAny_runValue (codeAny_builtin PySem.F.entry_proto_collect ?_));rw [Around.under_plainId PySem.F.plain_proto_collect _];refine wpAny_bind (wpAny_newObj_type (wpAny_pure ⟨plainId_quiet PySem.F.plain_list_iadd _,codeAny_builtin PySem.F.entry_list_iadd ?_⟩));rw [Around.under_plainId PySem.F.plain_list_iadd _];refine wpAny_mono (wpAny_extend_range (A:=A) (R:=fun q s'=>∃ h' tk acc c,q=.ok (.ret (.ref s.heap.objs.size))/\s'={ s with heap:=h',toks:=tk }/\(∀ b o,s.heap.get? b=some o->h'.get? b=some o)/\h'.get? s.heap.objs.size=some { cls:=.type "list",dict:=none,data:=.seq acc c,slots:=#[] }/\ItemsOf (fun i v=>∃ t,v=.int (a+i*1) t) acc n)
  (s:={ s with heap:=s.heap.push { cls:=.type "list",data:=.seq ([]:List Value).toArray } }) hh (Heap.get?_push_of_some _ hr) hsmall hn hlen s.heap.objs.size (.ref s.heap.objs.size) 0 (Heap.get?_push_size _ rfl)
  fun h' tk acc c k hS hacc=>⟨h',tk,acc,c,rfl,rfl,fun b o e=>k b o (Nat.ne_of_lt (Heap.lt_size e)) (Heap.get?_push_of_some _ e),hS,hacc⟩) (fun fin s' x=>?_) fun e s' x=>?_
 ·cases fin with
  | done f =>
   obtain ⟨h',tk,acc,c,e,rfl,k,hS,hacc⟩:=x;cases e;exact wpAny_bind (wpAny_load hS (wpAny_pure (hR h' tk acc k hacc)))
  | again c1 =>
   refine ⟨x.1,codeAny_mono x.2 fun q s2 y=>?_⟩;obtain ⟨h',tk,acc,c,rfl,rfl,k,hS,hacc⟩:=y;exact wpAny_bind (wpAny_load hS (wpAny_pure (hR h' tk acc k hacc)))
 ·obtain ⟨_,_,_,_,z,_⟩:=x;cases z
end
def sL {r:Addr} {a b:Int} {t u v:Tok} {n:Nat} (hsmall:Builtin.Range.small a b 1=true) (hn:Builtin.Range.rangeSize a b 1=n) (hlen:n<=2^24) :
  Meets (Builtin.«tuple.__new__» ⟨[.type "tuple",.ref r],[]⟩) (fun A R s=>A.handled=none/\IsRange s.heap r a b 1 t u v/\∀ (h':Heap) (tk:Nat) (acc:Array Value),(∀ b o,s.heap.get? b=some o->h'.get? b=some o)->ItemsOf (fun i v=>∃ t,v=.int (a+i*1) t) acc n ->
   R (.ok (.ret (.ref h'.objs.size))) { s with heap:=h'.push { cls:=.type "tuple",data:=.seq acc },toks:=tk }) :=
 .of_wp fun prog w A R s h=>by
  obtain ⟨hh,hr,h⟩:=h;have hsub:=sub_tuple_self;have hinit:=init_tuple_lookup;have hmh:=madeHere_tuple;have hT:s.TypeIs (.ref r) "range":=⟨_,hr,rfl⟩;have hh1:A.in1.handled=none:=hh;have hr':s.heap.get? r=some _:=hr
  wp_walk using AutoSeq1.wpAny_loadPart' hr',wpAny_typeOf hT,nZ hh1 hr hsmall hn hlen
  intro h' tk acc hk hacc;show wpAny _ _ (Builtin.Tuple.tupleExact acc.toList.toArray >>= fun v=>ret v) _ _ _;unfold Builtin.Tuple.tupleExact;have hz:acc.toList.toArray.size<=sizeLine:=by rw [Array.toArray_toList,hacc.1,sizeLine_eq];omega
  refine wpAny_bind (wpAny_newObj_type ?_ hz);refine wpAny_pure ⟨_,rfl,?_⟩;rw [Array.toArray_toList];exact h h' tk acc hk hacc
section
variable {prog:Program} {w:World} {A:Around} {E:Value->Shared->Prop} {s:Shared}
def sM {Q:Value->Shared->Prop} {r:Addr} {a b:Int} {t u v:Tok} {n:Nat} (hh:A.handled=none) (hr:IsRange s.heap r a b 1 t u v) (hsmall:Builtin.Range.small a b 1=true) (hn:Builtin.Range.rangeSize a b 1=n) (hlen:n<=2^24)
  (h:∀ (h':Heap) (tk:Nat) (acc:Array Value),(∀ b o,s.heap.get? b=some o->h'.get? b=some o)->ItemsOf (fun i v=>∃ t,v=.int (a+i*1) t) acc n->Q (.ref h'.objs.size) { s with heap:=h'.push { cls:=.type "tuple",data:=.seq acc },toks:=tk }) :
  wpAny (model prog w) A (call (.type "tuple") [.ref r]) Q E s :=
 callType_new PySem.F.called_tuple (by decide) (PySem.F.typeCall_tuple_1 _) (PySem.F.newCall_tuple_1 _) (fun obj=>PySem.F.args_object_init_2 obj _) PySem.F.entry_tuple_new
  (sL (t:=t) (u:=u) (v:=v) hsmall hn hlen) ⟨hh,hr,fun h' tk acc hk hacc=>⟨⟨_,Heap.get?_push_size _ rfl,rfl⟩,h h' tk acc hk hacc⟩⟩
end
end ST

namespace DL
open PySem PySem.Spec PyProof.Rows L2 CI ST
section
variable {S:Sx} {κ:Kp} {h:aA} {s:Shared}
theorem Mem.frzs:∀ (as:List Addr) (ps:List (PyData×PyData)) (M:Mp),Mem S κ M h s->as.Nodup->as.length=ps.length->(∀ a∈as,aZ κ M a) ->
  (∀ (j:Nat) (a:Addr) (p:PyData×PyData),as[j]?=some a->ps[j]?=some p->∃ u v,s.heap.get? a=some { cls:=.type "tuple",data:=.seq #[u,v] }/\Rep S M.Z p.1 u/\Rep S M.Z p.2 v) ->
  ∃ M',Le M M'/\Mem S κ M' h s/\Reps' S M' (ps.map fun p=>.tuple [p.1,p.2]) (as.map Value.ref)/\∀ b,aZ κ M b->b∉as->aZ κ M' b
 | [],ps,M,R,_,hl,_,_=>by
  have:ps=[]:=List.length_eq_zero_iff.mp hl.symm;subst this;exact ⟨M,.refl,R,.nil,fun b f _=>f⟩
 | a::as,ps,M,R,nd,hl,hf,hg=>by
  cases ps with
  | nil=>cases hl
  | cons p ps =>
   obtain ⟨u,v,g,r1,r2⟩:=hg 0 a p rfl rfl;have fa:=hf a List.mem_cons_self;have nd':=List.nodup_cons.mp nd;have fr:∀ b,aZ κ M b->b≠a->aZ κ (M.add a { cls:=.type "tuple",data:=.seq #[u,v] }) b:=fun b f hb=>⟨by
    show (if b=a then _ else M.Z b)=none;rw [if_neg hb];exact f.1,f.2⟩
   have l1:=Le.add (o:={ cls:=.type "tuple",data:=.seq #[u,v] }) fa.1;obtain ⟨M',l2,R2,r,k⟩:=Mem.frzs as ps (M.add a { cls:=.type "tuple",data:=.seq #[u,v] }) (R.frz fa g) nd'.2 (by simpa using hl)
    (fun b hb=>fr b (hf b (List.mem_cons_of_mem _ hb)) fun z=>nd'.1 (z ▸ hb))
    fun j b q e1 e2=>by
     obtain ⟨u',v',g',q1,q2⟩:=hg (j+1) b q e1 e2;exact ⟨u',v',g',Rep.go l1.z q1,Rep.go l1.z q2⟩
   refine ⟨M',l1.trans l2,R2,.cons (Rep.go l2.z (rep_t.mpr ⟨_,_,[u,v],rfl,hO,⟨⟨0,rfl⟩,by simp [sizeLine_eq]⟩,.cons (Rep.go l1.z r1) (.cons (Rep.go l1.z r2) .nil)⟩)) r,fun b f hb=>k b (fr b f fun z=>hb (z ▸ List.mem_cons_self)) fun z=>hb (List.mem_cons_of_mem _ z)⟩
end
theorem mK:∀ (xs ys:List PyData),fV xs ys=(xs.zip ys).map fun p=>.tuple [p.1,p.2]
 | [],_=>by simp [fV]
 | _::_,[]=>by simp [fV]
 | x::xs,y::ys=>by
  have:=mK xs ys;unfold fV at this ⊢;simp at this ⊢;exact this
section
variable {X:Cx} {st:Sta} {d:Nat} {v:Evs} {a b:Expr} {p p2 pos pos2:Pos}
def bK2 (S:Snd v) (G:Good X st d) (h1:okC st "list"=true) (h2:okC st "zip"=true) (hs:aH a=true) (hs2:aH b=true):SF X (.Call (.Name "list" p) [.Call (.Name "zip" p2) [a,b] [] pos2] [] pos) (xb (aS v st [a,b]) fun ws=>fun _ h=>xLZ ws h):=by
 intro κ M δ h s w h' R F e;obtain ⟨ws,hh,e1,e⟩:=aF e;obtain ⟨n1,n2,n3⟩:=cA G h1;refine wpAny_Call_Name_kw (bZ (u:=.type "list") F R n2 n3 (by decide +kernel) n1 ?_);refine PyProof.Rows.callWith_type1 (iJ (by rfl) ?_) rfl rfl;obtain ⟨m1,m2,m3⟩:=cA G h2;refine Call_ (bZ (u:=.type "zip") F R m2 m3 (by decide +kernel) m1 (PyProof.Rows.callWith_type1 (thn (cG S G [a,b] pos2 R F e1) fun us s1 ⟨M1,l1,R1,r0⟩=>?_) (bU a hs) (by rw [bU b hs2];rfl)));rcases ws with _ | ⟨x,_ | ⟨y,_ | ⟨_,_⟩⟩⟩<;>first | (cases e;done) | (cases x<;>cases e;done) | skip
 obtain ⟨u,v,rfl,r1,r2⟩:=w2 r0;have e:(match iY x,iY y with
  | some xs,some ys=>some (fV xs ys,hh)
  | _,_=>none)=some (w,h'):=e
 split at e
 ·rename_i xs ys ex ey;cases e;obtain ⟨b1,l1',us,rfl,q1,z1,rr1⟩:=sK ex r1;obtain ⟨b2,l2',vs,rfl,q2,z2,rr2⟩:=sK ey r2;have p1:=q1.at .refl R1;have p2':=q2.at .refl R1;have lt1:l1' < s1.heap.objs.size:=by obtain ⟨n,e⟩:=q1;exact Heap.lt_size (R1.z _ _ e)
  have lt2:l2' < s1.heap.objs.size:=by obtain ⟨n,e⟩:=q2;exact Heap.lt_size (R1.z _ _ e)
  refine sI p1 p2' fun h' a1 a2 a3 a4 a5 a6 a7=>?_;have D:ZApart (s1.heap.objs.size+4) (s1.heap.objs.size+2) (s1.heap.objs.size+3) s1.heap.objs.size (s1.heap.objs.size+1):=by
   constructor<;>(intro e;exact absurd e (by simp [Addr]<;>omega))
  have nn:∀ {l:Addr} (k:Nat),l < s1.heap.objs.size->l≠s1.heap.objs.size+k:=fun k hl=>Nat.ne_of_lt (Nat.lt_of_lt_of_le hl (Nat.le_add_right _ _));refine aA6 G.rm.hd D (xs:=us.toArray) (ys:=vs.toArray) (by simpa using z1) a1 a2 a3 a4 a5 (p1.keep fun o e=>a7 _ _ e) (p2'.keep fun o e=>a7 _ _ e) ⟨nn 4 lt1,nn 3 lt1,nn 0 lt1,nn 1 lt1⟩ ⟨nn 4 lt2,nn 3 lt2,nn 0 lt2,nn 1 lt2⟩ fun h2 as cnt q1 q2 q3 q4 q5=>?_;have k2:∀ a o,s1.heap.get? a=some o->h2.get? a=some o:=fun a o e=>by
   have al:=Heap.lt_size e;exact q5 a o (nn 4 al) (nn 3 al) (nn 0 al) (nn 1 al) (a7 a o e)
  have szS:s1.heap.objs.size<=h'.objs.size:=by rw [a6];exact Nat.le_add_right _ _
  have asz:∀ a∈as,h'.objs.size < a:=fun a ha=>by
   obtain ⟨j,hj,e⟩:=List.mem_iff_getElem.mp ha;exact (q4 j a (by rw [<- e];exact List.getElem?_eq_getElem hj)).1
  have nd:as.Nodup:=q3.imp fun h=>Nat.ne_of_lt h;have ln1:=rr1.length;have ln2:=rr2.length;have hlz:as.length=(xs.zip ys).length:=by rw [q1,List.length_zip,ln1,ln2];simp
  have fresh:∀ a,s1.heap.objs.size<=a->aZ κ M1 a:=fun a ha=>R1.new (Heap.get?_none_of_le ha);obtain ⟨M2,l2,R2,rp,kf⟩:=Mem.frzs as (xs.zip ys) M1 (R1.kept (t:=s1.toks) k2) nd hlz (fun a ha=>fresh a (Nat.le_trans szS (Nat.le_of_lt (asz a ha)))) fun j a q ea eq=>by
   obtain ⟨_,x,y,gx,gy,gp⟩:=q4 j a ea;have hq:=List.getElem?_zip_eq_some.mp eq;obtain ⟨x',gx',rx⟩:=iQ rr1 hq.1;obtain ⟨y',gy',ry⟩:=iQ rr2 hq.2;have e1:us[j]?=some x:=by simpa using gx
   have e2:vs[j]?=some y:=by simpa using gy
   rw [e1] at gx';rw [e2] at gy';cases gx';cases gy';exact ⟨x,y,gp,rx,ry⟩
  rw [mK];refine ⟨M2,l1.trans l2,R2,h'.objs.size,as.map Value.ref,cnt,rfl,q2,kf _ (fresh _ szS) fun z=>Nat.lt_irrefl _ (asz _ z),?_,rp⟩;rw [List.length_map,hlz,List.length_zip];omega
 ·cases e
def bK3 {ws:List W} {h:aA} {r:W×aA} (e:xTR ws h=some r):∃ i j,ws=[.d (.int i),.d (.int j)]/\cU i j=true/\r=(.d (.tuple (rng i (j - i).toNat)),h):=by
 unfold xTR at e;split at e
 ·obtain ⟨hr,e⟩:=aE e;exact ⟨_,_,rfl,hr,(Option.some.inj e).symm⟩
 ·cases e
def aJ0 (S:Snd v) (G:Good X st d) (h1:okC st "tuple"=true) (h2:okC st "range"=true) (hs:aH a=true) (hs2:aH b=true):SE X (.Call (.Name "tuple" p) [.Call (.Name "range" p2) [a,b] [] pos2] [] pos) (xb (aS v st [a,b]) fun ws=>fun _ h=>xTR ws h):=by
 intro κ M δ h s w h' R F e;obtain ⟨ws,hh,e1,e⟩:=aF e;obtain ⟨n1,n2,n3⟩:=cA G h1;refine wpAny_Call_Name_kw (bZ (u:=.type "tuple") F R n2 n3 (by decide +kernel) n1 ?_);refine PyProof.Rows.callWith_type1 (iJ (by rfl) ?_) rfl rfl;obtain ⟨m1,m2,m3⟩:=cA G h2;refine Call_ (bZ (u:=.type "range") F R m2 m3 boot_range m1 (PyProof.Rows.callWith_type1 (thn (cG S G [a,b] pos2 R F e1) fun us s1 ⟨M1,l1,R1,r0⟩=>?_) (bU a hs) (by rw [bU b hs2];rfl)));obtain ⟨i,j,rfl,hr,ep⟩:=bK3 e;cases ep
 ·skip
  obtain ⟨u,v,rfl,r1,r2⟩:=w2 r0;obtain ⟨t1,rfl⟩:=wi.mp r1;obtain ⟨t2,rfl⟩:=wi.mp r2;unfold cU at hr;simp only [Bool.and_eq_true,decide_eq_true_eq] at hr;refine call_range_2 ?_;refine sM (n:=(j - i).toNat) G.rm.hd (IsRange.new ..) (small_one (by omega) (by omega) (by omega) (by omega)) (by rw [rangeSize_one];split<;>omega) (by omega) fun h' tk acc k hacc=>?_;have k1:∀ b o,s1.heap.get? b=some o->h'.get? b=some o:=fun b o e=>k b o (Heap.get?_push_of_some _ e);have R2:=R1.kept (t:=tk) k1;have q:=R2.tup (t:=tk) (xs:=rng i (j - i).toNat) (us:=acc.toList) ?_ (by rw [Array.length_toList,hacc.1,sizeLine_eq];omega)
  ·rw [Array.toArray_toList] at q;exact q.go l1
  have gen:∀ (l:List Value) (m:List PyData),l.length=m.length->(∀ (k:Nat) v,l[k]?=some v->∃ x,m[k]?=some x/\Rep X.S M1.Z x v)->Reps' X.S M1 m l:=by
   intro l;induction l with
   | nil=>intro m hm _;rw [List.length_eq_zero_iff.mp hm.symm];exact .nil
   | cons v l ih =>
    intro m hm hv;cases m with
    | nil=>simp at hm
    | cons x m =>
     obtain ⟨x',e1,e2⟩:=hv 0 v rfl;simp at e1;subst e1;exact .cons e2 (ih m (by simpa using hm) fun k v e=>hv (k+1) v (by simpa using e))
  refine gen _ _ (by simp [hacc.1,rng]) fun k v e=>?_;rw [Array.getElem?_toList] at e;obtain ⟨tk,rfl⟩:=hacc.2 k v e;have hk:k < (j - i).toNat:=by have:=(Array.getElem?_eq_some_iff.mp e).1;rw [hacc.1] at this;exact this
  exact ⟨.int (i+k),by simp [rng,hk],rep_i.mpr ⟨tk,by simp⟩⟩
end
end DL

namespace DL
open PySem PySem.Spec PyProof.Rows L2 CI
theorem oX {q:Pos×Str} {c:Addr}:∀ {qs:List (Pos×Str)} {cs:List Addr},qs.length=cs.length->eH (qs++[q]) (cs++[c])=eH qs cs++[rawInt q.1.line,rawInt q.1.col,.ref c]
 | [],[],_=>rfl
 | [],_::_,h=>by simp at h
 | _::_,[],h=>by simp at h
 | p::qs,d::cs,h=>by
  show rawInt _::rawInt _::Value.ref d::eH (qs++[q]) (cs++[c])=_;rw [oX (by simpa using h)];rfl
def aV5 (l:List Value) (h:TriplesOk l):∀ (qs:List (Pos×Str)) (cs:List Addr),TriplesOk (l++eH qs cs):=by
 have base:∀ (qs:List (Pos×Str)) (cs:List Addr),TriplesOk (eH qs cs):=by
  intro qs;induction qs with
  | nil=>intro cs;exact True.intro
  | cons q qs ih =>
   intro cs;cases cs with
   | nil=>exact True.intro
   | cons c cs=>exact ih cs
 intro qs cs
 fun_induction TriplesOk l with
 | case1=>exact base qs cs
 | case2 a' t b' u x rest ih=>simp only [List.cons_append,TriplesOk];exact ih h
 | case3 l h1 h2=>exact h.elim
def among_trip {pos:Pos} {l:List Value} (h:TriplesOk l) (hn:codeAmong pos l=none):∀ {qs:List (Pos×Str)} {cs:List Addr},qs.length=cs.length ->
  (qs.find? (atP pos)=none/\codeAmong pos (l++eH qs cs)=none)\/∃ (q:Pos×Str) (c:Addr) (i:Nat),qs.find? (atP pos)=some q/\qs[i]?=some q/\cs[i]?=some c/\codeAmong pos (l++eH qs cs)=some (.ref c):=by
 have base:∀ {qs:List (Pos×Str)} {cs:List Addr},qs.length=cs.length->(qs.find? (atP pos)=none/\codeAmong pos (eH qs cs)=none)\/∃ (q:Pos×Str) (c:Addr) (i:Nat),qs.find? (atP pos)=some q/\qs[i]?=some q/\cs[i]?=some c/\codeAmong pos (eH qs cs)=some (.ref c):=by
  intro qs;induction qs with
  | nil=>intro cs _;exact .inl ⟨rfl,rfl⟩
  | cons q qs ih =>
   intro cs hl;cases cs with
   | nil=>simp at hl
   | cons c cs =>
    have e:codeAmong pos (eH (q::qs) (c::cs))=if atP pos q=true then some (.ref c) else codeAmong pos (eH qs cs):=by
     show (if ((q.1.line:Int)==pos.line&&(q.1.col:Int)==pos.col)=true then _ else _)=_;have e1:(((q.1.line:Int)==pos.line)&&((q.1.col:Int)==pos.col))=atP pos q:=by
      unfold atP;rw [Bool.eq_iff_iff];simp only [Bool.and_eq_true,beq_iff_eq];omega
     rw [e1]
    rw [e,List.find?_cons];cases ha:atP pos q with
    | true=>exact .inr ⟨q,c,0,rfl,rfl,rfl,rfl⟩
    | false =>
     rw [if_neg Bool.false_ne_true];rcases ih (cs:=cs) (by simpa using hl) with ⟨a,b⟩ | ⟨q',c',i,a,b,d,f⟩
     ·exact .inl ⟨a,b⟩
     ·exact .inr ⟨q',c',i+1,a,by simpa using b,by simpa using d,f⟩
 intro qs cs hl;have e:codeAmong pos (l++eH qs cs)=codeAmong pos (eH qs cs):=by
  fun_induction TriplesOk l with
  | case1=>rfl
  | case2 a t b u x rest ih =>
   simp only [List.cons_append,codeAmong] at hn ⊢;split at hn
   ·cases hn
   ·rename_i hc;rw [if_neg hc];exact ih h hn
  | case3 l h1 h2=>exact h.elim
 rw [e];exact base hl
section
variable {X:Cx} {st:Sta} {d:Nat} {v:Evs} {κ:Kp} {M:Mp} {δ:DSt} {h h':aA} {s:Shared} {E:Value->Shared->Prop}
def aJ1 {params:Arguments} {body:Expr} {scope:Scope} {pos:Pos} {c0:Addr} {j:Nat} {qs qs':List (Pos×Str)} {clos:List (Str×Addr)} (R:Mem X.S κ M h s) (F:Fra X κ M δ) (T:TbS X.S c0 pos) (hcode:X.env.code=.ref c0) (hcl:closureFor scope X.env=pure clos) (hdef:defaultsOf params X.env=([],[]))
  (eh:h[j]?=some (.t qs)) (eq:rX pos (X.env.qual++"<lambda>") qs=some qs') :
  Wp X.S X.A (eval (.Lambda params body scope pos) X.env) (fun u s'=>∃ f cc pm ctv M',u=.ref f/\Le M M'/\Mem X.S κ M' (h.set j (.t qs')) s'/\aZ κ M' f/\s'.heap.get? f=some (PySem.W.kla_obj "<lambda>" (X.env.qual++"<lambda>") params body scope clos pm cc ctv)/\bC6 M'.Z (pos,X.env.qual++"<lambda>") cc) E s:=by
 refine PySem.W.kla_eval hdef ?_;obtain ⟨pP,ej⟩:∃ p,M.m[j]?=some p:=⟨_,List.getElem?_eq_getElem (by rw [R.len];exact (List.getElem?_eq_some_iff.mp eh).1)⟩;obtain ⟨cs,oP,rc,ep⟩:=R.cel j _ _ ej eh;subst ep;have oP:s.heap.get? X.S.tp=some (PySem.W.tabObj (X.S.tb++(eH qs cs).toArray)):=oP;have hl:=rc.length;have kin:=F.ok.mod.kin.keeps R.bk;have C:=PySem.W.codeHd_of_K kin T.hd;have bm:s.heap.BuiltinsAt X.S.mg X.S.tp:=by
  obtain ⟨b,o,h1,h2,h3,h4,h5,h6⟩:=T.bm;exact ⟨b,o,h1,h2,h3,h4,R.bk _ _ h5,h6⟩
 have hg:s.heap.Ns mainGlobals X.S.mg:=F.ok.mod.glob.keeps R.bk;have hgP:mainGlobals≠X.S.tp:=fun q=>by
  obtain ⟨o,es,ep,e,hd,_⟩:=hg;rw [q,oP] at e;cases e;cases hd
 have etl:(X.S.tb++(eH qs cs).toArray).toList=X.S.tb.toList++eH qs cs:=by simp
 have ht:TriplesOk (X.S.tb++(eH qs cs).toArray).toList:=by rw [etl];exact aV5 _ T.tr _ _
 have hset:∀ {c:Cell},h[j]?=some c->h.set j c=h:=fun e=>List.ext_getElem? fun i=>by
  by_cases z:i=j
  ·subst z;rw [List.getElem?_set_self (List.getElem?_eq_some_iff.mp e).1,e]
  ·rw [List.getElem?_set_ne (Ne.symm z)]
 unfold rX at eq;rcases among_trip T.tr T.no hl with ⟨e1,e2⟩ | ⟨q,c,i,e1,e2,e3,e4⟩
 ·rw [e1] at eq;cases eq;refine PySem.W.kla_makeFunction hcl F.ok.glob hg hcode C oP ht (by rw [etl];exact e2) hgP bm fun cc ctv h1 tk hx hge hlt hrec htb=>?_;obtain ⟨c',oc,vs,t,q1,q2,q3,q4⟩:=hrec;cases q1;have hP2:=R.off _ (List.mem_of_getElem? ej) X.S.tp (.inl rfl);have fcc:aZ κ M cc:=R.new (Heap.get?_none_of_le hge);have ncP:cc≠X.S.tp:=fun z=>by obtain ⟨_,_,o,ho⟩:=hP2;rw [<- z] at ho;exact absurd (Heap.lt_size ho) (Nat.not_lt_of_le hge)
  have g2:(h1.push (PySem.W.kla_obj "<lambda>" (X.env.qual++"<lambda>") params body scope clos ((X.S.mg "__name__").getD .none) cc ctv)).get? X.S.tp=_:=Heap.get?_push_of_some _ htb;have kk:∀ b o,b≠X.S.tp->s.heap.get? b=some o->(h1.push (PySem.W.kla_obj "<lambda>" (X.env.qual++"<lambda>") params body scope clos ((X.S.mg "__name__").getD .none) cc ctv)).get? b=some o:=fun b o hb e=>Heap.get?_push_of_some _ (hx b o hb e);have hsz:s.heap.objs.size<=h1.objs.size:=Nat.le_trans hge (Nat.le_of_lt hlt);have gf:(h1.push (PySem.W.kla_obj "<lambda>" (X.env.qual++"<lambda>") params body scope clos ((X.S.mg "__name__").getD .none) cc ctv)).get? h1.objs.size=_:=Heap.get?_push_size _ rfl;have gc2:=Heap.get?_push_of_some (PySem.W.kla_obj "<lambda>" (X.env.qual++"<lambda>") params body scope clos ((X.S.mg "__name__").getD .none) cc ctv) q2;generalize (h1.push (PySem.W.kla_obj "<lambda>" (X.env.qual++"<lambda>") params body scope clos ((X.S.mg "__name__").getD .none) cc ctv))=h2 at g2 kk gf gc2 ⊢;have gm:(h2.update X.S.tp fun _=>PySem.W.tabObj (X.S.tb++(eH qs cs).toArray)).get? X.S.tp=some (PySem.W.tabObj (X.S.tb++(eH qs cs).toArray)):=Heap.get?_update_self _ g2 rfl;have go:∀ b,b≠X.S.tp->(h2.update X.S.tp fun _=>PySem.W.tabObj (X.S.tb++(eH qs cs).toArray)).get? b=h2.get? b:=fun b hb=>Heap.get?_update_other _ _ (Ne.symm hb);have R1:Mem X.S κ M h { s with heap:=h2.update X.S.tp fun _=>PySem.W.tabObj (X.S.tb++(eH qs cs).toArray),toks:=tk }:=R.keep (fun b o e _=>by
   by_cases hb:b=X.S.tp
   ·subst hb;rw [oP] at e;cases e;exact gm
   ·exact (go b hb).trans (kk b o hb e)) R.bare rfl
  have R2:=R1.frz fcc ((go cc ncP).trans gc2);have R3:Mem X.S κ (M.add cc oc) (h.set j (.t (qs++[(pos,X.env.qual++"<lambda>")]))) { s with heap:=h2,toks:=tk }:=R2.wr (p:=(X.S.tp,X.S.tp)) (s':={ s with heap:=h2,toks:=tk }) ej (fun b o n1 _ q=>by rw [go b n1] at q;exact q) ⟨⟨_,g2⟩,_,g2⟩ R.bare rfl
   ⟨cs++[cc],by rw [g2,oX hl];simp,Paired.snoc (pY (fun _ _ ⟨o,vs,t,a,b⟩=>⟨o,vs,t,(Le.add fcc.1).z _ _ a,b⟩) rc) ⟨oc,vs,t,hO,q3,q4⟩,rfl⟩
  have ff:aZ κ M h1.objs.size:=R.new (Heap.get?_none_of_le hsz);exact ⟨h1.objs.size,cc,_,ctv,M.add cc oc,rfl,Le.add fcc.1,R3,⟨by show (if _=cc then some oc else M.Z _)=none;rw [if_neg (Nat.ne_of_gt hlt)];exact ff.1,ff.2⟩,gf,⟨oc,vs,t,hO,q3,q4⟩⟩
 ·rw [e1] at eq;obtain ⟨hq,eq⟩:=aE eq;cases eq;rw [hset eh];refine PySem.W.kla_makeFunctionHit hcl F.ok.glob hg hcode C oP ht (by rw [etl];exact e4) bm fun ctv h1 tk k sz=>?_;have kk:∀ b o,s.heap.get? b=some o->(h1.push (PySem.W.kla_obj "<lambda>" (X.env.qual++"<lambda>") params body scope clos ((X.S.mg "__name__").getD .none) c ctv)).get? b=some o:=fun b o e=>Heap.get?_push_of_some _ (k b o e);obtain ⟨c',e5,o,vs,t,z1,z2,z3⟩:=iQ rc e2;rw [e3] at e5;cases e5;exact ⟨h1.objs.size,c,_,ctv,M,rfl,.refl,R.kept (t:=tk) kk,R.new (Heap.get?_none_of_le sz),Heap.get?_push_size _ rfl,⟨o,vs,t,z1,z2,by rw [show (pos,X.env.qual++"<lambda>").2=_ from hq.symm];exact z3⟩⟩
abbrev bK4 (sc:Scope) (q:Str) (L f cc:Addr) (cl:List (Str×Addr)):Env:=newEnv sc L mainGlobals cl (q++".<locals>.") (some f) (.ref cc) none builtinsNs
abbrev cxL (X:Cx) (A:Around) (N':List Str) (sc:Scope) (q:Str) (L f cc:Addr) (cl:List (Str×Addr)):Cx:=⟨X.S,A.deeper (bK4 sc q L f cc cl),N',bK4 sc q L f cc cl,false⟩
variable {N':List Str} {ixs:List (Option Nat)} {sc:Scope} {cl:List (Str×Addr)} {A:Around} {q par:Str} {L f cc:Addr} {i0:Nat} {u:Value} {w:W}
def aA7 {κ':Kp} {o:Obj} (fo:FrO κ A) (F:Fra X κ M δ) (SC:CompSc X.N N' ixs X.env.scope sc) (hcl1:∀ x c,cl.lookup x=some c->X.env.cells.lookup x=some c) (hcl2:∀ y∈sc.names,y.2=.free->∃ c,cl.lookup y.1=some c)
  (k:∀ a,κ a≠none->κ' a=κ a) (hL:κ' L=some (false,o)) (ho:aH0 o fun x=>List.lookup x [(par,u)]) (hb:X.S.base.objs.size<=L) (hp:N'[i0]?=some par) (hpl:sc.names.lookup par=some .local) (hi:ixs[i0]?=some none) (ru:RepW X.S M w u) :
  Fra (cxL X A N' sc q L f cc cl) κ' M ((bK ixs δ).set i0 (some w)):=by
 have hlen:(bK ixs δ).length=N'.length:=by
  unfold bK;rw [List.length_map];exact SC.len
 refine ⟨⟨F.ok.mod,SC.kind,rfl,rfl,fun x y c e1 e2=>F.ok.inj x y c (hcl1 x c e1) (hcl1 y c e2),fun x hx=>?_,hb,SC.nd⟩,by rw [List.length_set];exact hlen,⟨o,_,hL,ho,fun j x w' e1 e2 e3=>?_⟩,fun x c e=>?_,?_⟩
 ·have hx:sc.names.lookup x=some .cell\/sc.names.lookup x=some .free:=hx;rcases hx with hx | hx
  ·exact absurd rfl (SC.nocell _ (PySem.mem_of_lookup hx))
  ·exact hcl2 _ (PySem.mem_of_lookup hx) rfl
 ·by_cases hj:j=i0
  ·subst hj;have e1:N'[j]?=some x:=e1;rw [hp] at e1;cases e1;rw [List.getElem?_set_self (by rw [hlen];exact (List.getElem?_eq_some_iff.mp hp).1)] at e2;cases e2;exact ⟨u,ru,.inl ⟨hpl,by simp [List.lookup]⟩⟩
  ·rw [List.getElem?_set_ne (Ne.symm hj)] at e2;obtain ⟨i,ei,ev⟩:=wZ e2;obtain ⟨eN,ef⟩:=SC.at e1 ei;have hm:=PySem.mem_of_lookup ef;have hvis:X.env.scope.names.lookup x=some .cell\/X.env.scope.names.lookup x=some .free:=SC.free _ hm rfl;obtain ⟨_,m,_,_,hl⟩:=F.loc;obtain ⟨u',r,l⟩:=hl i x w' eN ev (.inr hvis);refine ⟨u',r,?_⟩;rcases l with ⟨hk,_⟩ | ⟨_,c,oc,ec,eo,ed⟩
   ·have hk':X.env.scope.names.lookup x=some .local:=hk;rcases hvis with z | z
    ·rw [hk'] at z;cases z
    ·rw [hk'] at z;cases z
   ·obtain ⟨c',ec'⟩:=hcl2 _ hm rfl;have e5:=hcl1 _ _ ec';rw [ec] at e5;have e6:c=c':=Option.some.inj e5;subst e6;exact .inr ⟨.inr ef,c,oc,ec',by rw [k c (by rw [eo];exact fun z=>nomatch z)];exact eo,ed⟩
 ·obtain ⟨oc,v,e1,e2⟩:=F.cell x c (hcl1 x c e);exact ⟨oc,v,by rw [k c (by rw [e1];exact fun z=>nomatch z)];exact e1,e2⟩
 ·obtain ⟨l,e1,e2⟩:=fo;obtain ⟨es,ep,hd,_⟩:=ho;refine ⟨bK4 sc q L f cc cl::l,by simp [Around.deeper,e1],fun env he=>?_⟩;rcases List.mem_cons.mp he with rfl | he
  ·exact ⟨by show sc.kind≠_;rw [SC.kind];decide,_,o,rfl,hL,fun vs z=>by rw [hd] at z;cases z⟩
  ·obtain ⟨k1,L',o',k2,k3,k4⟩:=e2 env he;exact ⟨k1,L',o',k2,by rw [k L' (by rw [k3];exact fun z=>nomatch z)];exact k3,k4⟩
def aV6 {params:Arguments} {body:Expr} {pm ctv:Value} {te:XR W} {z:W} (hdep:A.depth < recursionLimit) (fo:FrO κ A) (R:Mem X.S κ M h s) (F:Fra X κ M δ) (SC:CompSc X.N N' ixs X.env.scope sc) (hcl1:∀ x c,cl.lookup x=some c->X.env.cells.lookup x=some c) (hcl2:∀ y∈sc.names,y.2=.free->∃ c,cl.lookup y.1=some c)
  (hf:s.heap.get? f=some (PySem.W.kla_obj "<lambda>" q params body sc cl pm cc ctv)) (hcd:s.heap.CodeRec (.ref cc) q) (hbd:∀ fd:FuncData,fd.params=params->fd.defaults=.none->fd.kwdefaults=.none->bindArgs fd ⟨[u],[]⟩=pure [(par,u)]) (hco:sc.isCoroutine=false) (hgen:sc.isGenerator=false)
  (hp:N'[i0]?=some par) (hpl:sc.names.lookup par=some .local) (hi:ixs[i0]?=some none) (ru:RepW X.S M w u) (he:∀ L,SE (cxL X A N' sc q L f cc cl) body te) (e:te ((bK ixs δ).set i0 (some w)) h=some (z,h')) :
  Wp X.S A (call (.ref f) [u]) (Pw X.S κ M h' z) E s:=by
 refine wpAny_call (PySem.W.kla_callFunE hdep hf rfl hco hgen rfl hcd ?_);rw [hbd _ rfl rfl rfl];refine wpAny_pure (wpAny_newFunctionEnv SC.nocell (fun y hy=>by rw [List.mem_singleton.mp hy];exact hpl) (fun h1 hns hsb=>?_) SC.kind);have kk:∀ b o,s.heap.get? b=some o->h1.get? b=some o:=fun b o e=>hsb.extBut b o (Nat.ne_of_lt (Heap.lt_size e)) (Heap.get?_push_of_some _ e);have R1:Mem X.S κ M h { s with heap:=h1,toks:=s.toks+1 }:=R.kept kk;obtain ⟨o,es,ep,ho,hd,hs,hf2⟩:=hns;have f0:=R.size;have R2:=R1.more (b:=false) ⟨f0.1,f0.2.2⟩ ho;have F2:=aA7 (A:=A) (q:=q) (f:=f) (cc:=cc) (κ':=κ.up s.heap.objs.size (false,o)) fo F SC hcl1 hcl2 (fun a ha=>bG fun z=>ha (by rw [z];exact f0.2.1)) fQ ⟨es,ep,hd,hs,hf2⟩ (F.size R) hp hpl hi ru;refine ⟨(F.ok.mod.nolimit.keeps R1.bk),PySem.W.kla_codeExpr (wpAny_mono (he _ R2 F2 e) (fun u' s2 ⟨M2,l2,R3,r3⟩=>?_) fun _ _ z=>z.elim)⟩;exact ⟨M2,l2,R3.less fun a x q=>by rw [bG fun z=>by rw [z,f0.2.1] at q;cases q];exact q,r3⟩
end
end DL

namespace ST
open PySem PySem.Spec PyProof.Rows PySem.W
noncomputable def qP {α:Type} (lt:Nat->Nat->Bool):KasT α->α
 | .ret a=>a
 | .ask i j k=>qP lt (k (lt i j))
noncomputable def mL {α:Type} (n:Nat) (lt:Nat->Nat->Bool):KasT α->Bool
 | .ret _=>true
 | .ask i j k=>Nat.blt i n&&(Nat.blt j n&&(!(Nat.beq i j)&&mL n lt (k (lt i j))))
section
variable {n:Nat} {lt:Nat->Nat->Bool} {K:Nat->Int}
def Tr {α:Type} (n:Nat) (lt:Nat->Nat->Bool) (T:KasT α) (G:α->Prop):Prop:=mL n lt T=true/\G (qP lt T)
def Tr.ret {α:Type} {a:α} {G:α->Prop} (h:G a):Tr n lt (.ret a) G:=⟨rfl,h⟩
def Tr.ask {α:Type} {i j:Nat} {k:Bool->KasT α} {G:α->Prop} (hi:i < n) (hj:j < n) (hij:i≠j) (h:Tr n lt (k (lt i j)) G):Tr n lt (.ask i j k) G:=by
 refine ⟨?_,h.2⟩;have e:Nat.beq i j=false:=by rw [<- Bool.not_eq_true,Nat.beq_eq];exact hij
 simp only [mL,Bool.and_eq_true,Nat.blt_eq,e,Bool.not_false,true_and];exact ⟨hi,hj,h.1⟩
theorem Tr.bind {α β:Type} {f:α->KasT β} {G:β->Prop}:∀ {T:KasT α},Tr n lt T (fun a=>Tr n lt (f a) G)->Tr n lt (T.bind f) G
 | .ret a,h=>h.2
 | .ask i j k,h=>by
  obtain ⟨h1,h2⟩:=h;simp only [mL,Bool.and_eq_true,Nat.blt_eq,Bool.not_eq_true'] at h1;obtain ⟨a,b,c,e⟩:=h1;have ij:i≠j:=fun z=>by subst z;rw [Nat.beq_refl] at c;cases c
  exact Tr.ask a b ij (Tr.bind (T:=k (lt i j)) ⟨e,h2⟩)
def Tr.mono {α:Type} {T:KasT α} {G G':α->Prop} (h:Tr n lt T G) (g:∀ a,G a->G' a):Tr n lt T G':=⟨h.1,g _ h.2⟩
structure Pm (n:Nat) (p:Array Nat):Prop where
 sz:p.size=n
 pm:p.toList.Perm (List.range n)
def Pm.les {p:Array Nat} (h:Pm n p) {i:Nat} (hi:i < n):p.getD i 0 < n:=by
 have hi':i < p.size:=by rw [h.sz];exact hi
 have e:p.getD i 0=p[i]:=by simp [Array.getD,hi']
 rw [e];exact List.mem_range.mp (h.pm.mem_iff.mp (Array.getElem_mem_toList hi'))
def Pm.inj {p:Array Nat} (h:Pm n p) {i j:Nat} (hi:i < n) (hj:j < n) (e:p.getD i 0=p.getD j 0):i=j:=by
 have hi':i < p.size:=by rw [h.sz];exact hi
 have hj':j < p.size:=by rw [h.sz];exact hj
 have e1:p.getD i 0=p.toList[i]'(by simpa using hi'):=by simp [Array.getD,hi']
 have e2:p.getD j 0=p.toList[j]'(by simpa using hj'):=by simp [Array.getD,hj']
 have nd:p.toList.Nodup:=h.pm.nodup_iff.mpr List.nodup_range;rw [e1,e2] at e;exact (List.getElem_inj nd).mp e
def Up (K:Nat->Int) (p:Array Nat) (m:Nat):Prop:=∀ i j,i < j->j < m->K (p.getD i 0) < K (p.getD j 0)
def Dn (K:Nat->Int) (p:Array Nat) (m:Nat):Prop:=∀ i j,i < j->j < m->K (p.getD j 0) < K (p.getD i 0)
variable (hK:∀ i j,i < n->j < n->lt i j=decide (K i < K j)) (hI:∀ i j,i < n->j < n->K i=K j->i=j)
include hK hI
def mM {α:Type} {p:Array Nat} (P:Pm n p) {i j:Nat} (hi:i < n) (hj:j < n) (hij:i≠j) {k:Bool->KasT α} {G:α->Prop}
  (h1:K (p.getD i 0) < K (p.getD j 0)->Tr n lt (k true) G) (h2:K (p.getD j 0) < K (p.getD i 0)->Tr n lt (k false) G):Tr n lt (.ask (p.getD i 0) (p.getD j 0) k) G:=by
 refine Tr.ask (P.les hi) (P.les hj) (fun z=>hij (P.inj hi hj z)) ?_;rw [hK _ _ (P.les hi) (P.les hj)]
 by_cases c:K (p.getD i 0) < K (p.getD j 0)
 ·rw [decide_eq_true c];exact h1 c
 ·rw [decide_eq_false c];refine h2 ?_;have:K (p.getD i 0)≠K (p.getD j 0):=fun z=>hij (P.inj hi hj (hI _ _ (P.les hi) (P.les hj) z));omega
omit hK hI in
def aV7 {p:Array Nat} {m:Nat} (h1:1<=m) (u:Up K p m) (h:K (p.getD (m - 1) 0) < K (p.getD m 0)):Up K p (m+1):=fun i j hij hj=>by
 by_cases e:j=m
 ·subst e
  by_cases e2:i=j - 1
  ·rw [e2];exact h
  ·have:=u i (j - 1) (by omega) (by omega);omega
 ·exact u i j hij (by omega)
omit hK hI in
def aV8 {p:Array Nat} {m:Nat} (h1:1<=m) (u:Dn K p m) (h:K (p.getD m 0) < K (p.getD (m - 1) 0)):Dn K p (m+1):=fun i j hij hj=>by
 by_cases e:j=m
 ·subst e
  by_cases e2:i=j - 1
  ·rw [e2];exact h
  ·have:=u i (j - 1) (by omega) (by omega);omega
 ·exact u i j hij (by omega)
theorem uV {p:Array Nat} (P:Pm n p):∀ (f m:Nat),1<=m->m+f=n->Up K p m->Tr n lt (kas_asc p f m) (fun m'=>m<=m'/\m'<=n/\Up K p m'/\(m'=n\/(m' < n/\K (p.getD m' 0) < K (p.getD (m' - 1) 0))))
 | 0,m,h1,hm,u=>Tr.ret ⟨Nat.le_refl m,by omega,u,.inl (by omega)⟩
 | f+1,m,h1,hm,u=>by
  unfold kas_asc;refine mM hK hI P (by omega) (by omega) (by omega) (fun c=>?_) fun c=>?_
  ·exact Tr.ret ⟨Nat.le_refl m,by omega,u,.inr ⟨by omega,c⟩⟩
  ·exact (uV P f (m+1) (by omega) (by omega) (aV7 h1 u c)).mono fun a ⟨a1,a2⟩=>⟨by omega,a2⟩
theorem xB {p:Array Nat} (P:Pm n p):∀ (f m:Nat),1<=m->m+f=n->Dn K p m->Tr n lt (kas_desc f p m 0) (fun r=>r.1=p/\m<=r.2.1/\r.2.1<=n/\r.2.2=0/\Dn K p r.2.1)
 | 0,m,h1,hm,u=>Tr.ret ⟨rfl,Nat.le_refl m,by show m<=n;omega,rfl,u⟩
 | f+1,m,h1,hm,u=>by
  unfold kas_desc;refine mM hK hI P (by omega) (by omega) (by omega) (fun c=>?_) fun c=>?_
  ·exact (xB P f (m+1) (by omega) (by omega) (aV8 h1 u c)).mono fun a ⟨a0,a1,a2⟩=>⟨a0,by omega,a2⟩
  ·refine mM hK hI P (by omega) (by omega) (by omega) (fun c'=>?_) fun c'=>by omega
   exact Tr.ret ⟨rfl,Nat.le_refl m,by show m<=n;omega,rfl,u⟩
omit hK hI in
def aJ2 {p:Array Nat} {m:Nat} (hm:m<=p.size) (k:Nat):(kas_rev p 0 m).getD k 0=if k < m then p.getD (m - 1 - k) 0 else p.getD k 0:=by
 have e:=getElem?_mirror_all (xs:=p) (i:=0) (j:=m) hm k;unfold kas_rev;rw [Array.getD_eq_getD_getElem?,e]
 by_cases h:k < m
 ·rw [if_pos ⟨Nat.zero_le _,h⟩,if_pos h,Array.getD_eq_getD_getElem?,Nat.zero_add]
 ·rw [if_neg (fun z=>h z.2),if_neg h,Array.getD_eq_getD_getElem?]
omit hK hI in
def bK5 {p:Array Nat} (P:Pm n p) (m:Nat):Pm n (kas_rev p 0 m):=⟨by unfold kas_rev;rw [mirror_size,P.sz],(mirror_perm p 0 m _).toList.trans P.pm⟩
def aV9 {p:Array Nat} (P:Pm n p) {m:Nat} (h1:1<=m) (hm:m<=n) (u:Dn K p m):Tr n lt (kas_tail3 m n p) (fun r=>Pm n r.2/\1<=r.1/\r.1<=n/\Up K r.2 r.1):=by
 unfold kas_tail3;have P':=bK5 P m;refine Tr.bind ((uV hK hI P' (n - m) m h1 (by omega) fun i j hij hj=>?_).mono fun a ⟨a1,a2,a3,_⟩=>Tr.ret ⟨P',by show 1<=a;omega,a2,a3⟩);rw [aJ2 (by rw [P.sz];exact hm),aJ2 (by rw [P.sz];exact hm),if_pos (by omega),if_pos hj];exact u _ _ (by omega) (by omega)
def aJ3 {p:Array Nat} (P:Pm n p) (h2:2<=n):Tr n lt (kas_count n p) (fun r=>Pm n r.2/\1<=r.1/\r.1<=n/\Up K r.2 r.1):=by
 unfold kas_count;refine Tr.bind ((uV hK hI P (n - 1) 1 (Nat.le_refl 1) (by omega) fun i j hij hj=>by omega).mono fun m ⟨a1,a2,a3,a4⟩=>?_)
 by_cases e:m=n
 ·rw [if_pos (by rw [e];exact beq_self_eq_true n)];exact Tr.ret ⟨P,a1,a2,a3⟩
 ·rw [if_neg (by simpa using e)]
  by_cases e1:m > 1
  ·rw [if_pos e1];have c:=a3 0 (m - 1) (by omega) (by omega);refine mM hK hI P (by omega) (by omega) (by omega) (fun _=>?_) fun c'=>by omega
   exact Tr.ret ⟨P,a1,a2,a3⟩
  ·rw [if_neg e1];have em:m=1:=by omega
   subst em;unfold kas_descPart;have c:K (p.getD 1 0) < K (p.getD 0 0):=by
    rcases a4 with z | z
    ·omega
    ·exact z.2
   refine Tr.bind ((xB hK hI P (n - 2) 2 (by omega) (by omega) fun i j hij hj=>?_).mono fun r ⟨b0,b1,b2,b3,b4⟩=>?_)
   ·have e0:i=0:=by omega
    have e1:j=1:=by omega
    subst e0 e1;exact c
   ·rw [if_neg (by omega),b0];exact aV9 hK hI P (by omega) b2 b4
theorem mN {p:Array Nat} (P:Pm n p) {k:Nat} (hk:k < n) (u:Up K p k):∀ (f l r:Nat),l<=r->r<=k->r - l<=f->(∀ i,i < l->K (p.getD i 0) < K (p.getD k 0))->(∀ i,r<=i->i < k->K (p.getD k 0) < K (p.getD i 0)) ->
  Tr n lt (kas_place p k f l r) (fun a=>a<=k/\(∀ i,i < a->K (p.getD i 0) < K (p.getD k 0))/\∀ i,a<=i->i < k->K (p.getD k 0) < K (p.getD i 0))
 | 0,l,r,h1,h2,h3,hl,hr=>Tr.ret ⟨by omega,hl,fun i hi hik=>hr i (by omega) hik⟩
 | f+1,l,r,h1,h2,h3,hl,hr=>by
  unfold kas_place
  by_cases e:l ≥ r
  ·rw [if_pos e];exact Tr.ret ⟨by omega,hl,fun i hi hik=>hr i (by omega) hik⟩
  ·rw [if_neg e];refine mM hK hI P (by omega) (by omega) (by omega) (fun c=>?_) fun c=>?_
   ·refine mN P hk u f l ((l+r) / 2) (by omega) (by omega) (by omega) hl fun i hi hik=>?_
    by_cases z:i=(l+r) / 2
    ·rw [z];exact c
    ·have:=u ((l+r) / 2) i (by omega) hik;omega
   ·refine mN P hk u f ((l+r) / 2+1) r (by omega) (by omega) (by omega) (fun i hi=>?_) hr
    by_cases z:i=(l+r) / 2
    ·rw [z];exact c
    ·have:=u i ((l+r) / 2) (by omega) (by omega);omega
omit hK hI in
def aJ4 {p:Array Nat} {k l:Nat} (hk:k < p.size) (hl:l<=k) (j:Nat):(bubble p k (k - l)).getD j 0=if j=l then p.getD k 0 else if l < j/\j<=k then p.getD (j - 1) 0 else p.getD j 0:=by
 have e:=getElem?_bubble (xs:=p) hk (k - l) (by omega) j;rw [show k - (k - l)=l by omega] at e;simp only [Array.getD_eq_getD_getElem?,e]
 repeat' split
 all_goals rfl
omit hK hI in
def bK6 {p:Array Nat} (P:Pm n p) (k d:Nat):Pm n (bubble p k d):=⟨by rw [bubble_size,P.sz],(bubble_perm p k d).toList.trans P.pm⟩
theorem bin_ok:∀ (f k:Nat) {p:Array Nat},Pm n p->k+f=n->Up K p k->Tr n lt (kas_bin f p k) (fun q=>Pm n q/\Up K q n)
 | 0,k,p,P,hk,u=>Tr.ret ⟨P,fun i j hij hj=>u i j hij (by omega)⟩
 | f+1,k,p,P,hk,u=>by
  unfold kas_bin;have kn:k < n:=by omega
  refine Tr.bind ((mN hK hI P kn u k 0 k (Nat.zero_le k) (Nat.le_refl k) (by omega) (fun i hi=>by omega) fun i hi hik=>by omega).mono fun l ⟨a1,a2,a3⟩=>?_);refine bin_ok f (k+1) (bK6 P k (k - l)) (by omega) fun i j hij hj=>?_;have ks:k < p.size:=by rw [P.sz];exact kn
  rw [aJ4 ks a1,aJ4 ks a1]
  by_cases i1:i=l
  ·rw [if_pos i1,if_neg (by omega),if_pos (by omega)];exact a3 _ (by omega) (by omega)
  ·rw [if_neg i1]
   by_cases j1:j=l
   ·rw [if_pos j1,if_neg (by omega)];exact a2 _ (by omega)
   ·rw [if_neg j1]
    by_cases i2:l < i/\i<=k
    ·rw [if_pos i2,if_pos (by omega)];exact u _ _ (by omega) (by omega)
    ·rw [if_neg i2]
     by_cases j2:l < j/\j<=k
     ·rw [if_pos j2]
      by_cases z:i=j - 1
      ·omega
      ·exact u _ _ (by omega) (by omega)
     ·rw [if_neg j2];exact u _ _ hij (by omega)
def aW0 (h2:2<=n):Tr n lt (kas_sort n) (fun q=>q.toList.Perm (List.range n)/\q.toList.Pairwise fun i j=>lt i j=true):=by
 have fin:∀ q,Pm n q/\Up K q n->q.toList.Perm (List.range n)/\q.toList.Pairwise fun i j=>lt i j=true:=fun q ⟨P,u⟩=>by
  refine ⟨P.pm,?_⟩;rw [List.pairwise_iff_getElem];intro i j hi hj hij;have sz:q.toList.length=n:=by rw [Array.length_toList];exact P.sz
  have hi':i < q.size:=by rw [P.sz];omega
  have hj':j < q.size:=by rw [P.sz];omega
  have h:=u i j hij (by omega);have e1:q.getD i 0=q.toList[i]:=by simp [Array.getD,hi']
  have e2:q.getD j 0=q.toList[j]:=by simp [Array.getD,hj']
  have l1:=P.les (i:=i) (by omega);have l2:=P.les (i:=j) (by omega);rw [e1] at h l1;rw [e2] at h l2;rw [hK _ _ l1 l2];exact decide_eq_true h
 unfold kas_sort;have P0:Pm n (List.toArray (List.range n)):=⟨by simp,by simp⟩;refine Tr.bind ((aJ3 hK hI P0 h2).mono fun r ⟨a0,a1,a2,a3⟩=>?_)
 by_cases e:r.1 < n
 ·rw [if_pos e];exact (bin_ok hK hI _ _ a0 (by omega) (by rw [Nat.max_eq_left a1];exact a3)).mono fin
 ·rw [if_neg e];have:r.1=n:=by omega
  exact Tr.ret (fin _ ⟨a0,by rw [<- this];exact a3⟩)
end
end ST

namespace ST
open PySem PySem.Spec PyProof.Rows PySem.W
theorem uW {α:Type} {cmp:Nat->Nat->(Bool->Shared->Prop)->Shared->Prop} {n:Nat} {lt lt':Nat->Nat->Bool} {s:Shared}
  (hc:∀ i j,i < n->j < n->i≠j->∀ C:Bool->Shared->Prop,C (lt i j) s->cmp i j C s) (he:∀ i j,i < n->j < n->lt i j=lt' i j):∀ (T:KasT α) (G:α->Shared->Prop),mL n lt' T=true->G (qP lt' T) s->KasT.kasWp cmp T G s
 | .ret a,G,_,h=>h
 | .ask i j k,G,ht,h=>by
  simp only [mL,Bool.and_eq_true,Nat.blt_eq,Bool.not_eq_true'] at ht;obtain ⟨h1,h2,h3,h4⟩:=ht;refine hc i j h1 h2 (fun z=>by subst z;rw [Nat.beq_refl] at h3;cases h3) _ ?_;rw [he i j h1 h2];exact uW hc he (k (lt' i j)) G h4 h
noncomputable def ltK (ks:List Int) (i j:Nat):Bool:=decide (ks.getD i 0 < ks.getD j 0)
def xC {ks:List Int} (nd:ks.Nodup) (h2:2<=ks.length):mL ks.length (ltK ks) (kas_sort ks.length)=true /\
  ((qP (ltK ks) (kas_sort ks.length)).toList.Perm (List.range ks.length))/\(qP (ltK ks) (kas_sort ks.length)).toList.Pairwise (fun i j=>ltK ks i j=true) :=
 aW0 (n:=ks.length) (lt:=ltK ks) (K:=fun i=>ks.getD i 0) (fun i j _ _=>rfl) (fun i j hi hj e=>by
  simp only [List.getD_eq_getElem?_getD,hi,hj,List.getElem?_eq_getElem,Option.getD_some] at e;exact (List.getElem_inj nd).mp e) h2
end ST

namespace ST
open PySem PySem.Spec PyProof.Rows PySem.W
section
variable {prog:Program} {w:World} {A:Around} {E:Value->Shared->Prop} {s:Shared}
end
end ST

namespace ST
open PySem PySem.Spec PyProof.Rows PySem.W
def xD {α β:Type} {l:List α} {r:List β} {a:α} {b:β} (h:l.length=r.length):(List.range l.length).map (fun i=>(l.getD i a,r.getD i b))=l.zip r:=by
 apply List.ext_getElem
 ·simp [h]
 ·intro i h1 h2;simp at h1 h2;simp [List.getD_eq_getElem?_getD,h1,show i < r.length by omega]
section
variable {prog:Program} {w:World} {A:Around} {E:Value->Shared->Prop} {s:Shared}
theorem sN {α β:Type} {F:α->β->Prop}:∀ {l:List α} {r:List β} {i:Nat} {a:α},Paired F l r->l[i]?=some a->∃ b,r[i]?=some b/\F a b
 | _,_,_,_,.nil,e=>by simp at e
 | _,_,0,_,.cons h _,e=>by simp at e;subst e;exact ⟨_,rfl,h⟩
 | _,_,i+1,a,.cons _ t,e=>by
  obtain ⟨b,h1,h2⟩:=sN (i:=i) (a:=a) t (by simpa using e);exact ⟨b,by simpa using h1,h2⟩
def pw1 {α:Type} {R:α->α->Prop} {l:List α} (h:l.length < 2):l.Pairwise R:=by
 rcases l with _ | ⟨a,_ | ⟨b,r⟩⟩
 ·exact .nil
 ·exact List.pairwise_singleton _ _
 ·exact absurd h (Nat.not_lt.mpr (Nat.le_add_left 2 _))
end
end ST

namespace DL
open PySem PySem.Spec PyProof.Rows L2 CI ST
theorem xE {α:Type}:∀ {l:List (Int×α)},(l.map (·.1)).Nodup->∀ a∈l,∀ b∈l,a.1=b.1->a=b
 | [],_,_,h,_,_,_=>nomatch h
 | x::l,nd,a,ha,b,hb,e=>by
  rw [List.map_cons,List.nodup_cons] at nd;rcases List.mem_cons.mp ha with q1 | q1
  ·rcases List.mem_cons.mp hb with q2 | q2
   ·rw [q1,q2]
   ·exact (nd.1 (by rw [<- q1,e];exact List.mem_map_of_mem q2)).elim
  ·rcases List.mem_cons.mp hb with q2 | q2
   ·exact (nd.1 (by rw [<- q2,<- e];exact List.mem_map_of_mem q1)).elim
   ·exact xE nd.2 a q1 b q2 e
noncomputable def dsc {α:Type} (l:List (Int×α)):List (Int×α):=l.mergeSort fun a b=>decide (b.1<=a.1)
def mO {α:Type} (l:List (Int×α)):(dsc l).Perm l:=List.mergeSort_perm _ _
def aJ5 {α:Type} (l:List (Int×α)):(dsc l).Pairwise fun a b=>b.1<=a.1:=by
 have h:=List.pairwise_mergeSort (le:=fun a b:Int×α=>decide (b.1<=a.1)) (fun a b c h1 h2=>by simp at *;omega) (fun a b=>by simp;omega) l;exact h.imp fun h=>by simpa using h
def dsc_only {α:Type} {l ps:List (Int×α)} (nd:(l.map (·.1)).Nodup) (p:ps.Perm l) (o:ps.Pairwise fun a b=>b.1<=a.1):ps=dsc l :=
 (p.trans (mO l).symm).eq_of_pairwise (fun a b ha hb h1 h2=>xE nd a (p.mem_iff.mp ha) b ((mO l).mem_iff.mp hb) (Int.le_antisymm h2 h1)) o (aJ5 l)
def fst_zip {α:Type} {ks:List Int} {r:List α} (h:ks.length<=r.length):(ks.zip r).map (·.1)=ks:=List.map_fst_zip h
def aW1 {α β:Type} {F:α->β->Prop} {ks:List Int} {xs:List α} {vs:List β} (nd:ks.Nodup) (hl:ks.length=xs.length) (r:Paired F xs vs):Paired F ((dsc (ks.zip xs)).map (·.2)) ((dsc (ks.zip vs)).map (·.2)):=by
 have hv:=r.length;have pz:∀ {xs:List α} {vs:List β},Paired F xs vs->∀ t∈xs.zip vs,F t.1 t.2:=by
  intro xs vs r;induction r with
  | nil=>intro t h;simp at h
  | cons a _ ih =>
   intro t h;rw [List.zip_cons_cons] at h;rcases List.mem_cons.mp h with rfl | h
   ·exact a
   ·exact ih t h
 have e1:(ks.zip (xs.zip vs)).map (fun t=>(t.1,t.2.1))=ks.zip xs:=by
  apply List.ext_getElem
  ·simp;omega
  ·intro i h1 h2;simp
 have e2:(ks.zip (xs.zip vs)).map (fun t=>(t.1,t.2.2))=ks.zip vs:=by
  apply List.ext_getElem
  ·simp;omega
  ·intro i h1 h2;simp
 have p:=mO (ks.zip (xs.zip vs));have o:=aJ5 (ks.zip (xs.zip vs));have f1:(dsc (ks.zip (xs.zip vs))).map (fun t=>(t.1,t.2.1))=dsc (ks.zip xs):=dsc_only (by rw [fst_zip (by omega)];exact nd) (by rw [<- e1];exact p.map _) (by rw [List.pairwise_map];exact o);have f2:(dsc (ks.zip (xs.zip vs))).map (fun t=>(t.1,t.2.2))=dsc (ks.zip vs):=dsc_only (by rw [fst_zip (by omega)];exact nd) (by rw [<- e2];exact p.map _) (by rw [List.pairwise_map];exact o);rw [<- f1,<- f2,List.map_map,List.map_map];have all:∀ t∈dsc (ks.zip (xs.zip vs)),F t.2.1 t.2.2:=fun t ht=>pz r t.2 (List.of_mem_zip (show (t.1,t.2)∈_ from p.mem_iff.mp ht)).2;generalize dsc (ks.zip (xs.zip vs))=l at all;induction l with
 | nil=>exact .nil
 | cons t l ih=>exact .cons (all t List.mem_cons_self) (ih fun t h=>all t (List.mem_cons_of_mem _ h))
theorem aJ6 {te:XR W} {δ:DSt} {i:Nat}:∀ {xs zs:List PyData} {h h':aA},fX te δ i xs h=some (zs,h')->zs.length=xs.length
 | [],_,_,_,e=>by cases e;rfl
 | x::xs,_,h,h',e=>by
  unfold fX at e;obtain ⟨⟨p,h1⟩,e1,e⟩:=bind_some e;cases p with
  | c j=>cases e
  | d z =>
   obtain ⟨⟨q,h2⟩,e2,e⟩:=bind_some (show (fX te δ i xs h1).bind _=_ from e);cases e;simp [aJ6 e2]
section
variable {S:Sx} {A:Around} {κ1:Kp} {kS a f:Addr} {e1 n0 i:Nat} {te:XR W} {δ':DSt} {vs:List Value} {xs zs:List PyData} {h h':aA} {M:Mp} {s:Shared} {P:PySem.Fin->Shared->Prop} {E:Value->Shared->Prop}
def bX0 {x y:Bool×Obj} (R:Mem S ((κ1.up a x).up a y) M h s):Mem S (κ1.up a y) M h s:=R.less fun b z q=>by
 by_cases hb:b=a
 ·subst hb;rw [fQ] at q ⊢;exact q
 ·rw [bG hb] at q;rw [bG hb,bG hb];exact q
def aJ7 {bb:Bool} (turn:∀ (o:Obj) {M':Mp} {h1 h2:aA} {s1:Shared} {u:Value} {x:PyData} {z:W},Le M M'->Mem S (κ1.up kS (true,o)) M' h1 s1->Rep S M'.Z x u->te (δ'.set i (some (.d x))) h1=some (z,h2)->Wp S A (call (.ref f) [u]) (Pw S (κ1.up kS (true,o)) M' h2 z) NE s1)
  (R:Mem S (κ1.up kS (true,aV [] n0)) M h s) (rv:Reps' S M xs vs) (h6:xs.length < 64) (e:fX te δ' i xs h=some (zs,h'))
  (fin:∀ (M':Mp) (us:List Value) (n:Nat) (s':Shared),Le M M'->Mem S (κ1.up kS (true,aV us n)) M' h' s'->Reps' S M' zs us->Wp S A (ksk_end a bb vs.toArray e1 (.ref kS) us.toArray) P E s') :
  Wp S A (ksk_rest a (.ref f) bb vs.toArray e1 (.ref kS)) P E s:=by
 have vl:=rv.length;have zl:sizeLine=16777216:=sizeLine_eq;unfold ksk_rest;refine wpAny_bind (wpAny_rule ?_)
 first
  | rw [List.forIn_toArray]
  | (rw [<- Array.forIn_toList];simp only [List.toList_toArray])
  | rw [<- Array.forIn_toList]
 refine wpAny_bind (ksk_fold (fun j s'=>∃ hj M' us n zp zr,Le M M'/\Mem S (κ1.up kS (true,aV us n)) M' hj s'/\Reps' S M' zp us/\fX te δ' i (xs.drop j) hj=some (zr,h')/\zp++zr=zs/\zp.length=j) vs 0 s
  ⟨h,M,[],n0,[],zs,.refl,R,.nil,e,rfl,rfl⟩ ?step ?done)
 case step =>
  rintro j v s' hv ⟨hj,M',us,n,zp,zr,l,R',rp,ez,eq,hlen⟩;simp only [Nat.zero_add] at ez hlen ⊢;have hjl:j < xs.length:=by rw [vl];exact (List.getElem?_eq_some_iff.mp hv).1
  obtain ⟨v',ev',rx⟩:=iQ rv (List.getElem?_eq_getElem hjl);rw [hv] at ev';cases ev';rw [List.drop_eq_getElem_cons hjl] at ez;unfold fX at ez;obtain ⟨⟨p,h1⟩,ep,ez⟩:=bind_some ez;cases p with
  | c j=>cases ez
  | d z =>
   obtain ⟨⟨zr',h2⟩,ezr,ez⟩:=bind_some (show (fX te δ' i (xs.drop (j+1)) h1).bind _=_ from ez);cases ez;refine wpAny_bind (wpAny_attempt (wpAny_mono (turn _ l R' (Rep.go l.z rx) ep) (fun k s'' he=>?_) fun _ _ hF=>hF.elim));obtain ⟨M2,l2,R2,rz⟩:=he;try dsimp only
   have nk:=(R2.k kS true _ fQ).1 rfl;have hul:=rp.length;have s1:=Heap.SameBut.update s''.heap kS (Obj.mapSeq (·.push k));obtain ⟨c2,hc2⟩:∃ c2,(s''.heap.update kS (Obj.mapSeq (·.push k))).get? kS=some (seqObj "list" (us.toArray.push k) c2):=⟨_,get?_update_seq nk (·.push k)⟩;refine wpAny_bind (listUpdate_at nk rfl ?_ (by rw [List.size_toArray,zl];omega) (by rw [Array.size_push,List.size_toArray,zl];omega));refine wpAny_pure ⟨rfl,h1,M2,us++[k],c2,zp++[z],zr',l.trans l2,bX0 (R2.own (b:=true) (s':={ s'' with heap:=s''.heap.update kS (Obj.mapSeq (·.push k)) }) fQ (fun b o hb q=>(s1.2 b hb).trans q) (show _=some (aV (us++[k]) c2) by rw [hc2];simp [seqObj]) R2.bare rfl),aF0 (Reps'.go l2 rp) (.cons rz .nil),ezr,by rw [<- eq];simp,by simp [hlen]⟩
 case done =>
  rintro s' ⟨hj,M',us,n,zp,zr,l,R',rp,ez,eq,hlen⟩;rw [Nat.zero_add,List.drop_of_length_le (by omega)] at ez;cases ez;rw [List.append_nil] at eq;subst eq;refine wpAny_bind (listItems_at ((R'.k kS true _ fQ).1 rfl) rfl ?_);exact fin M' us n s' l R' rp
end
end DL

namespace ST
open PySem PySem.Spec PyProof.Rows
section
variable {prog:Program} {w:World} {A:Around} {E:Value->Shared->Prop} {s:Shared} {ks:List Int}
def kH {x:Value} {Q:Value->Shared->Prop} {n:Nat} (h64:n < 64)
  (hc:∀ R,(∀ (vs:List Value) (ns:List Int) h' dr tk,IntsAre vs ns->vs.length=n->ns.Perm ks->(∀ b o,s.heap.get? b=some o->h'.get? b=some o)->R vs { s with heap:=h',drawn:=dr,toks:=tk })->wpAny (model prog w) A.in1 (collect x) R E s)
  (h:∀ (a:Addr) (vs:List Value) (ns:List Int) (c:Nat) h' dr tk,IntsAre vs ns->ns.Perm ks->ns.Pairwise (·<=·)->s.heap.get? a=none->h'.get? a=some (seqObj "list" vs.toArray c)->(∀ b o,s.heap.get? b=some o->h'.get? b=some o)->Q (.ref a) { s with heap:=h',drawn:=dr,toks:=tk }) :
  wpAny (model prog w) A (call (.builtin "sorted") [x]) Q E s:=by
 refine Calls.call_function_entry kind_sorted plain_sorted entry_sorted (args_sorted1 _) ?_;unfold Builtin.«sorted»;refine wpAny_bind (m:=checkCount "sorted" 1 1 _) (wpAny_pure (wpAny_bind (hc _ fun vs ns h1 dr tk hi hl hp k1=>?_)));refine wpAny_bind (wpAny_newList ?_ (by rw [hl,sizeLine_eq];omega));have hoL:(h1.push (seqObj "list" vs.toArray 0)).get? h1.objs.size=some (seqObj "list" vs.toArray 0):=Heap.get?_push_size _ rfl;refine wpAny_bind (wpAny_holding (wpAny_call_entry slot_list_sort ⟨_,hoL,rfl⟩ entry_list_sort (list_sort_tree hoL hi (by omega) fun out ns' a1 a2 a3=>⟨_,rfl,?_⟩) (args_list_sort _)));obtain ⟨c,ec⟩:=sortedHeap_at (out:=out) hoL;refine wpAny_pure ⟨_,rfl,h h1.objs.size out.toList ns' c _ dr tk a1 (a2.trans hp) a3 (by cases q:s.heap.get? h1.objs.size with | none=>rfl | some o=>exact absurd (Heap.lt_size (k1 _ o q)) (Nat.lt_irrefl _)) (by rw [Array.toArray_toList];exact ec) fun b o e=>?_⟩;have bl:b < h1.objs.size:=Heap.lt_size (k1 b o e);rw [sortedHeap_old (Nat.ne_of_lt bl) (by rw [size_push'];exact Nat.lt_succ_of_lt bl)];exact Heap.get?_push_of_some _ (k1 b o e)
end
def aJ8 (ns:List Int):(srt ns).Perm ns:=List.mergeSort_perm _ _
def bK7 (ns:List Int):(srt ns).Pairwise (·<=·):=by
 have h:=List.pairwise_mergeSort (le:=fun a b:Int=>decide (a<=b)) (fun a b c h1 h2=>by simp at *;omega) (fun a b=>by simp;omega) ns;exact h.imp fun h=>by simpa using h
def srt_only {a ns:List Int} (p:a.Perm ns) (o:a.Pairwise (·<=·)):a=srt ns:=(p.trans (aJ8 ns).symm).eq_of_pairwise (fun a b _ _ h1 h2=>Int.le_antisymm h1 h2) o (bK7 ns)
end ST
namespace DL
open PySem PySem.Spec PyProof.Rows L2 CI ST
theorem gM {S:Sx} {Z:Zm}:∀ {xs:List PyData} {ns:List Int} {us:List Value},bD xs=some ns->Paired (Rep S Z) xs us->IntsAre us ns
 | [],_,_,e,r=>by cases e;cases r;exact .nil
 | x::xs,_,_,e,r=>by
  cases r with
  | cons a b =>
   cases x<;>first | cases e;done | skip
   obtain ⟨ns,e1,rfl⟩:=map_some (show (bD xs).map _=_ from e);obtain ⟨t,rfl⟩:=rep_i.mp a;exact .cons _ _ (gM e1 b)
theorem iK {S:Sx} {Z:Zm}:∀ {ns:List Int} {vs:List Value},IntsAre vs ns->Paired (Rep S Z) (ns.map .int) vs
 | _,_,.nil=>.nil
 | _,_,.cons n t h=>.cons (rep_i.mpr ⟨t,rfl⟩) (iK h)
def Mem.dr {S:Sx} {κ:Kp} {M:Mp} {h:aA} {s:Shared} (R:Mem S κ M h s) (h':Heap) (d:Drawn) (t:Nat) (k:∀ b o,s.heap.get? b=some o->h'.get? b=some o):Mem S κ M h { s with heap:=h',drawn:=d,toks:=t }:=R.keep (fun b o e _=>k b o e) R.bare rfl
end DL

namespace ST
open PySem PySem.Spec PyProof.Rows
section
variable {prog:Program} {w:World} {A:Around} {E:Value->Shared->Prop} {s:Shared} {T:String} {r d:Addr} {n:Nat} {P:Nat->Value->Prop} {OK:Heap->Prop}
def sO (K:PySem.W.KdlSrc prog w T r d n P OK) (hh:A.handled=none) (hok:OK s.heap) (hn:n<=sizeLine) {R:List Value->Shared->Prop}
  (h:∀ (vs:List Value) h' tk,vs.length=n->(∀ j v,vs[j]?=some v->P j v)->(∀ b o,s.heap.get? b=some o->h'.get? b=some o)->R vs { s with heap:=h',toks:=tk }):wpAny (model prog w) A (collect (.ref r)) R E s:=by
 have hlt:=K.there _ hok;have ok1:OK (s.heap.push { cls:=.type "list",data:=.seq ([]:List Value).toArray }):=K.keep _ _ hok fun b _ o e=>Heap.get?_push_of_some _ e;have hS:(s.heap.push { cls:=.type "list",data:=.seq ([]:List Value).toArray }).get? s.heap.objs.size=some { cls:=.type "list",data:=.seq #[] }:=Heap.get?_push_size _ rfl;unfold collect;refine wpAny_bind (wpAny_runValue (codeAny_builtin PySem.F.entry_proto_collect ?_));rw [Around.under_plainId PySem.F.plain_proto_collect _];refine wpAny_bind (wpAny_newObj_type (wpAny_pure ⟨plainId_quiet PySem.F.plain_list_iadd _,codeAny_builtin PySem.F.entry_list_iadd ?_⟩));rw [Around.under_plainId PySem.F.plain_list_iadd _];show wpAny _ _ (Builtin.List.listExtendWith (.ref s.heap.objs.size) (.ref r) (.ref s.heap.objs.size)) _ _ _;refine wpAny_mono (PySem.W.kdl_extend (R:=fun r s'=>r=.ok (.ret (.ref s.heap.objs.size))/\wpAny (model prog w) A (do
      let o <- load s.heap.objs.size
      match o.data with
      | .seq xs _=>pure xs.toList
      | _=>unsupported "internal:collect") R E s') (s:={ s with heap:=s.heap.push { cls:=.type "list",data:=.seq ([]:List Value).toArray } }) (A:=A) K hh ok1 s.heap.objs.size (Nat.ne_of_gt hlt.1) (Nat.ne_of_gt hlt.2) (.ref s.heap.objs.size) 0 hS (fun h' tk acc c k hD hacc=>?_) hn) (fun fin s' q=>?_) fun e s' q=>nomatch q.1
 ·refine ⟨rfl,wpAny_bind (wpAny_load hD (wpAny_pure ?_))⟩;exact h acc.toList h' tk (by rw [Array.length_toList];exact hacc.1) (fun j v e=>hacc.2 j v (by rw [<- Array.getElem?_toList];exact e)) fun b o e=>k b o (Nat.ne_of_lt (Heap.lt_size e)) (Heap.get?_push_of_some _ e)
 ·cases fin with
  | done f =>
   obtain ⟨q1,q2⟩:=q;cases q1;exact q2
  | again c' =>
   refine ⟨q.1,codeAny_mono q.2 fun r s' hr=>?_⟩;obtain ⟨rfl,q2⟩:=hr;exact q2
theorem xF:∀ {vs:List Value} {ks:List Int},vs.length=ks.length->(∀ (j:Nat) (v:Value),vs[j]?=some v->∃ k t,ks[j]?=some k/\v=Value.int k t)->IntsAre vs ks
 | [],[],_,_=>.nil
 | v::vs,k::ks,hl,h=>by
  obtain ⟨k',t,e,rfl⟩:=h 0 v rfl;cases e;exact .cons _ _ (xF (by simpa using hl) fun j u e=>h (j+1) u (by simpa using e))
 | [],_::_,hl,_=>by cases hl
 | _::_,[],hl,_=>by cases hl
def uX (K:PySem.W.KdlSrc prog w T r d n P OK) (hh:A.handled=none) (hok:OK s.heap) (h64:n < 64) {ks:List Int} (hk:ks.length=n) (hP:∀ i v,P i v->∃ k t,ks[i]?=some k/\v=Value.int k t) {Q:Value->Shared->Prop}
  (h:∀ (a:Addr) (vs:List Value) (ns:List Int) (c:Nat) h' dr tk,IntsAre vs ns->ns.Perm ks->ns.Pairwise (·<=·)->s.heap.get? a=none->h'.get? a=some (seqObj "list" vs.toArray c)->(∀ b o,s.heap.get? b=some o->h'.get? b=some o)->Q (.ref a) { s with heap:=h',drawn:=dr,toks:=tk }) :
  wpAny (model prog w) A (call (.builtin "sorted") [.ref r]) Q E s :=
 kH (n:=n) h64 (fun R hR=>sO (A:=A.in1) K (by simp [hh]) hok (by rw [sizeLine_eq];omega) fun vs h' tk hl hp k=>hR vs ks h' s.drawn tk (xF (by omega) fun j v e=>hP j v (hp j v e)) hl (.refl _) k) h
end
end ST
namespace DL
open PySem PySem.Spec PyProof.Rows L2 CI ST
def xG {S:Sx} {Z:Zm} {kvs:List (PyData×PyData)} {vs:List (Key×Value)} (r:RepK S Z kvs vs):∀ {ks:List Int},bD (kvs.map (·.1))=some ks->vs.map (·.1)=ks.map Sum.inl:=by
 induction r with
 | nil=>intro ks e;cases e;rfl
 | @cons p q ps qs h _ ih =>
  intro ks e;obtain ⟨p1,p2⟩:=p;obtain ⟨q1,q2⟩:=q;cases p1<;>first | cases e;done | skip
  obtain ⟨ns,e1,rfl⟩:=map_some (show (bD (ps.map (·.1))).map _=_ from e);rw [List.map_cons,List.map_cons,ih e1];have h1:=h.1;cases h1;rfl
def qQ {S:Sx} {k:Int} {v:Value} (h:(bX S.P S.w).is (.inl k) v=true):∃ t,v=.int k t:=by
 rcases keyIs_shape (show keyIs (.inl k) v=true from h) with ⟨i,t,e,rfl⟩ | ⟨x,t,e,_⟩
 ·cases e;exact ⟨t,rfl⟩
 ·cases e
end DL

namespace ST
open PySem PySem.Spec PyProof.Rows PySem.W
section
variable {prog:Program} {w:World} {A:Around} {E:Value->Shared->Prop} {s:Shared}
def lH (b:Bool) (h:Heap) (k:Int) (u:Value):Prop:=∃ (i:Int) (t:Tok) (x:Value) (A:Addr) (o:Obj) (n:Nat),u=.ref A/\h.get? A=some o/\o.cls=.type "tuple"/\o.data=.seq #[.int i t,x] n/\(if b=true then k=i else ∃ (j:Int) (t':Tok),x=.int j t'/\k=i*1000+j/\0<=j/\j < 1000)
def bX1 {b:Bool} {x y:Int} {u v:Value} {C:Bool->Shared->Prop} (hne:x≠y) (hx:lH b s.heap x u) (hy:lH b s.heap y v) (h:C (decide (x < y)) s):wpAny (model prog w) A (keyLt' (tuples' true) u v) C E s:=by
 obtain ⟨i,t,z,X,o,n,rfl,h1,h2,h3,hx⟩:=hx;obtain ⟨i',t',z',X',o',n',rfl,g1,g2,g3,hy⟩:=hy;refine kat_lt h1 h3 g1 g3 ?_;show KatLex prog w A true false C [(.int i t,.int i' t'),(z,z')] 0 s;refine kat_cons (wpAny_eqBool_int ?_);cases b with
 | true =>
  rw [if_pos rfl] at hx hy;rw [hx,hy] at h hne;rw [beq_eq_false_iff_ne.mpr hne];exact kat_no (oneLt_int h)
 | false =>
  rw [if_neg (by decide)] at hx hy;obtain ⟨j,t1,rfl,rfl,i1,i2⟩:=hx;obtain ⟨j',t1',rfl,rfl,j1,j2⟩:=hy
  by_cases hi:i=i'
  ·subst hi;rw [beq_self_eq_true];refine kat_yes (kat_cons (wpAny_eqBool_int ?_));have hj:j≠j':=fun q=>hne (by rw [q]);rw [beq_eq_false_iff_ne.mpr hj];refine kat_no (kat_one _ _ (lt_int ?_));have e:decide (i*1000+j < i*1000+j')=decide (j < j'):=by rw [decide_eq_decide];omega
   rw [e] at h;exact h
  ·rw [beq_eq_false_iff_ne.mpr hi];refine kat_no (oneLt_int ?_);have e:decide (i*1000+j < i'*1000+j')=decide (i < i'):=by rw [decide_eq_decide];omega
   rw [e] at h;exact h
theorem xH {b:Bool} {h:Heap}:∀ {ks:List Int} {us:List Value},Paired (lH b h) ks us->∃ fs,KatTups h us fs/\fs.length=us.length/\∀ v∈fs,∃ k t,v=.int k t
 | _,_,.nil=>⟨[],.nil,rfl,fun v hv=>nomatch hv⟩
 | _,_,.cons k r=>by
  obtain ⟨i,t,x,X,o,n,rfl,h1,h2,h3,_⟩:=k;obtain ⟨fs,q,l,e⟩:=xH r;refine ⟨.int i t::fs,.cons h1 h2 h3 rfl q,by simp [l],fun v hv=>?_⟩;rcases List.mem_cons.mp hv with rfl | hv
  ·exact ⟨_,_,rfl⟩
  ·exact e v hv
def bD7 {b:Bool} {h h':Heap} {a:Addr} {x:Obj} (hx:h.get? a=some x) (hc:x.cls≠.type "tuple") (k:∀ b o,b≠a->h.get? b=some o->h'.get? b=some o) {ks:List Int} {us:List Value} (p:Paired (lH b h) ks us):Paired (lH b h') ks us:=by
 induction p with
 | nil=>exact .nil
 | cons q _ ih =>
  obtain ⟨i,t,x',X,o,n,rfl,h1,h2,h3,r⟩:=q;refine .cons ⟨i,t,x',X,o,n,rfl,k X o (fun z=>?_) h1,h2,h3,r⟩ ih;subst z;rw [hx] at h1;cases h1;exact hc h2
def uY (a:Addr) (n1:Nat) (st:SortSt):Sem PySem.Fin:=do
    let __do_lift <- seqEpoch a
    have touched:Bool:=__do_lift != n1
    Builtin.List.listUpdate (Value.ref a) fun x=>Array.map (fun x=>x.snd) (arrOf st)
    have __do_jp:Unit->Sem PySem.Fin:=fun __r =>
     have __do_jp:=fun __r=>ret Value.none;
     if touched=true then do
      rule "list.sort.modified"
      let __r <- raiseErrorWords "ValueError" "list modified during sort"
      __do_jp __r
     else __do_jp ()
    match failedOf st with
     | some e=>do
      rule "list.sort.comparison-raised"
      let __r <- throw e
      __do_jp __r
     | x=>__do_jp ()
def aJ9 {b:Bool} {a:Addr} {us:List Value} {ks:List Int} {n:Nat} {P:PySem.Fin->Shared->Prop} (hl:s.heap.get? a=some (seqObj "list" us.toArray n)) (K:Paired (lH b s.heap) ks us) (nd:ks.Nodup) (h64:us.length < 64)
  (h:∀ ps:List (Int×Value),ps.Perm (ks.zip us)->ps.Pairwise (fun p q=>p.1<=q.1)->P (.done (.ret .none)) { s with heap:=sortedHeap s.heap a us (ps.map (·.2)).toArray }) :
  wpAny (model prog w) A (Builtin.«list.sort» { pos:=[.ref a] }) P E s:=by
 have hal:a < s.heap.objs.size:=Heap.lt_size hl;have kl:ks.length=us.length:=K.length;have zl:sizeLine=16777216:=sizeLine_eq;rw [list_sort_plain];refine wpAny_bind (listItems_at hl rfl ?_);refine wpAny_bind (listUpdate_at hl rfl ?_ (by simp;omega) (by simp));obtain ⟨n1,g1⟩:∃ n1,(s.heap.update a (Obj.mapSeq fun _=>#[])).get? a=some (seqObj "list" #[] n1):=⟨_,Heap.get?_update_self _ hl rfl⟩;have k1:Paired (lH b (s.heap.update a (Obj.mapSeq fun _=>#[]))) ks us:=bD7 hl (by simp [seqObj]) (fun b o nb q=>Heap.get?_update_of_ne _ (fun z=>nb z.symm) q) K;have hs1:(s.heap.update a (Obj.mapSeq fun _=>#[])).objs.size=s.heap.objs.size:=Heap.size_update _ _ _;unfold sortedHeap at h;generalize s.heap.update a (Obj.mapSeq fun _=>#[])=h1 at g1 k1 hs1 h;refine wpAny_bind (seqEpoch_at g1 rfl ?_);refine wpAny_bind (wpAny_newTuple ?_ (by simp;omega));refine wpAny_bind (wpAny_newList ?_ (by simp));have g2:((h1.push (seqObj "tuple" us.toArray 0)).push (seqObj "list" #[] 0)).get? a=some (seqObj "list" #[] n1):=Heap.get?_push_of_some _ (Heap.get?_push_of_some _ g1);have k2:Paired (lH b ((h1.push (seqObj "tuple" us.toArray 0)).push (seqObj "list" #[] 0))) ks us:=bD7 g1 (by simp [seqObj]) (fun b o _ q=>Heap.get?_push_of_some _ (Heap.get?_push_of_some _ q)) k1;simp only [List.toList_toArray] at *;show wpAny _ _ (holding _ _) _ _ { s with heap:=(h1.push (seqObj "tuple" us.toArray 0)).push (seqObj "list" #[] 0) };generalize (h1.push (seqObj "tuple" us.toArray 0)).push (seqObj "list" #[] 0)=h2 at g2 k2 h;refine wpAny_holding ?_;have fin:∀ (ps:List (Int×Value)),ps.Perm (ks.zip us)->ps.Pairwise (fun p q=>p.1<=q.1)->∀ st:SortSt,failedOf st=none->Array.map (fun x=>x.snd) (arrOf st)=(ps.map (·.2)).toArray->wpAny (model prog w) A (uY a n1 st) P E { s with heap:=h2 }:=fun ps hp hs st hf ha=>by
  have lp:=hp.length_eq;rw [List.length_zip] at lp;unfold uY;refine wpAny_bind (seqEpoch_at g2 rfl ?_);rw [ha];refine wpAny_bind (listUpdate_at g2 rfl ?_ (by simp) (by simp;omega));rw [hf];simp only [bne_self_eq_false,Bool.false_eq_true,if_false];exact wpAny_pure (h ps hp hs)
 have sz:us.toArray.size=us.length:=by simp
 by_cases h2l:us.length < 2
 ·rw [if_pos (by rw [sz];exact h2l),if_pos (by rw [sz];exact h2l)];refine wpAny_bind (wpAny_pure ?_);refine wpAny_bind (m:=StateT.run (pure ()) _) (wpAny_pure ?_);refine fin (ks.zip us) (.refl _) (pw1 (by rw [List.length_zip];omega)) _ rfl ?_;show Array.map (fun x=>x.snd) (us.toArray.zip us.toArray)=_;rw [List.map_snd_zip (by omega)];apply Array.ext
  ·simp
  ·intro i h1 h2;simp
 ·rw [if_neg (by rw [sz];exact h2l),if_neg (by rw [sz];exact h2l)];obtain ⟨fs,kt,fl,fi⟩:=xH k2;refine wpAny_bind (kat_kind (s:={ s with heap:=h2 }) (T:=.type "int") kt (by omega) (fun v hv=>?_) (by decide) ?_)
  ·obtain ⟨k,t,rfl⟩:=fi v hv;exact fun A Q E s _ q=>wpAny_pure q
  ·obtain ⟨z1,z3,z4⟩:=xC nd (by omega);rw [kl] at z1 z3 z4;refine wpAny_bind (kat_run (Q:=fun st s'=>wpAny (model prog w) A (uY a n1 st) P E s') (vs:=us) (ks:=us) (G:=fun p s'=>p=qP (ltK ks) (kas_sort us.length)/\s'={ s with heap:=h2 }) rfl (by omega) (by omega) ?_ ?_)
   ·rintro p st s' hp ha hf ⟨rfl,rfl⟩;refine fin ((qP (ltK ks) (kas_sort us.length)).toList.map fun i=>(ks.getD i 0,us.getD i Value.none)) ?_ ?_ st hf ?_
    ·refine (z3.map _).trans ?_;rw [<- kl,xD kl]
    ·rw [List.pairwise_map];refine z4.imp fun {i j} hz=>?_;unfold ltK at hz;exact Int.le_of_lt (of_decide_eq_true hz)
    ·rw [kat_snds rfl ha];simp [Function.comp_def]
   ·refine uW (s:={ s with heap:=h2 }) (lt:=ltK ks) (fun i j hi hj hij C hC=>?_) (fun _ _ _ _=>rfl) _ _ z1 ⟨rfl,rfl⟩;have hi':i < ks.length:=by rw [kl];exact hi
    have hj':j < ks.length:=by rw [kl];exact hj
    obtain ⟨u,eu,ku⟩:=sN k2 (List.getElem?_eq_getElem hi');obtain ⟨v,ev,kv⟩:=sN k2 (List.getElem?_eq_getElem hj');unfold kas_ask;have e1:us.getD i .none=u:=by rw [List.getD_eq_getElem?_getD,eu];rfl
    have e2:us.getD j .none=v:=by rw [List.getD_eq_getElem?_getD,ev];rfl
    rw [e1,e2];have hne:ks[i]≠ks[j]:=fun q=>hij ((List.getElem_inj nd).mp q);refine bX1 (s:={ s with heap:=h2 }) hne ku kv ?_;have e3:ltK ks i j=decide (ks[i] < ks[j]):=by
     unfold ltK;rw [List.getD_eq_getElem?_getD,List.getD_eq_getElem?_getD,List.getElem?_eq_getElem hi',List.getElem?_eq_getElem hj'];rfl
    rw [<- e3];exact hC
def mP {b:Bool} {x:Value} {ks:List Int} {n:Nat} {Ex:List Value->Heap->Prop} {Q:Value->Shared->Prop} (nd:ks.Nodup) (h64:n < 64)
  (hc:∀ R:List Value->Shared->Prop,(∀ us h' tk,us.length=n->Paired (lH b h') ks us->Ex us h'->(∀ b o,s.heap.get? b=some o->h'.get? b=some o)->R us { s with heap:=h',toks:=tk })->wpAny (model prog w) A.in1 (collect x) R E s)
  (h:∀ (a:Addr) (us:List Value) (ps:List (Int×Value)) (c:Nat) h1 h' tk,us.length=n->Ex us h1->ps.Perm (ks.zip us)->ps.Pairwise (fun p q=>p.1<=q.1)->h1.get? a=none->h'.get? a=some (seqObj "list" (ps.map (·.2)).toArray c)->(∀ b o,s.heap.get? b=some o->h1.get? b=some o)->(∀ b o,h1.get? b=some o->h'.get? b=some o)->Q (.ref a) { s with heap:=h',toks:=tk }) :
  wpAny (model prog w) A (call (.builtin "sorted") [x]) Q E s:=by
 refine Calls.call_function_entry kind_sorted plain_sorted entry_sorted (args_sorted1 _) ?_;unfold Builtin.«sorted»;refine wpAny_bind (m:=checkCount "sorted" 1 1 _) (wpAny_pure (wpAny_bind (hc _ fun us h1 tk hl K ex k1=>?_)));subst hl;refine wpAny_bind (wpAny_newList ?_ (by rw [sizeLine_eq];omega));have hoL:(h1.push (seqObj "list" us.toArray 0)).get? h1.objs.size=some (seqObj "list" us.toArray 0):=Heap.get?_push_size _ rfl;have K1:Paired (lH b (h1.push (seqObj "list" us.toArray 0))) ks us:=Paired.mono (fun _ _ ⟨i,t,x,X,o,n,e,g,r⟩=>⟨i,t,x,X,o,n,e,Heap.get?_push_of_some _ g,r⟩) K;refine wpAny_bind (wpAny_holding (wpAny_call_entry slot_list_sort ⟨_,hoL,rfl⟩ entry_list_sort (aJ9 hoL K1 nd h64 fun ps a1 a2=>⟨_,rfl,?_⟩) (args_list_sort _)));obtain ⟨c,ec⟩:=sortedHeap_at (out:=(ps.map (·.2)).toArray) hoL;refine wpAny_pure ⟨_,rfl,h h1.objs.size us ps c h1 _ tk rfl ex a1 a2 (Heap.get?_none_of_le (Nat.le_refl _)) ec k1 fun b o e=>?_⟩;have bl:b < h1.objs.size:=Heap.lt_size e;rw [sortedHeap_old (Nat.ne_of_lt bl) (by rw [size_push'];exact Nat.lt_succ_of_lt bl)];exact Heap.get?_push_of_some _ e
end
end ST

namespace DL
open PySem PySem.Spec PyProof.Rows L2 CI ST
theorem xI:∀ {zs:List PyData} {ks:List Int},zR zs=some ks->zs.length=ks.length
 | [],_,e=>by cases e;rfl
 | z::zs,_,e=>by
  obtain ⟨k,e1,e⟩:=bind_some (show ((prS z).map (·.1)).bind _=_ from e);obtain ⟨ks,e2,rfl⟩:=map_some e;simp [xI e2]
theorem aK0 {S:Sx} {Z:Zm} {hp:Heap} (hz:∀ a o,Z a=some o->hp.get? a=some o):∀ {zs:List PyData} {ks:List Int} {us:List Value},zR zs=some ks->Paired (Rep S Z) zs us->Paired (lH false hp) ks us
 | [],_,_,e,r=>by cases e;cases r;exact .nil
 | z::zs,_,_,e,r=>by
  obtain ⟨k,e1,e⟩:=bind_some (show ((prS z).map (·.1)).bind _=_ from e);obtain ⟨ks,e2,rfl⟩:=map_some e;cases r with
  | cons a b =>
   refine .cons ?_ (aK0 hz e2 b);obtain ⟨⟨k',i,j,ez,hi,ek⟩,hh,rfl⟩:=Option.map_eq_some_iff.mp (show (prS _).map (·.1)=_ from e1);clear hh e1;subst ez;show lH false hp k' _;rw [ek];obtain ⟨A,o,us,rfl,zA,⟨⟨n,rfl⟩,_⟩,rr⟩:=rep_t.mp a;cases rr with
   | cons r1 rr =>
    cases rr with
    | cons r2 rr =>
     cases rr;obtain ⟨t1,rfl⟩:=rep_i.mp r1;obtain ⟨t2,rfl⟩:=rep_i.mp r2;exact ⟨i,t1,_,A,_,n,rfl,hz _ _ zA,rfl,rfl,by rw [if_neg (by decide)];exact ⟨j,t2,rfl,rfl,hi.1,hi.2⟩⟩
def bK8 {ks:List Int} (nd:ks.Nodup):(ks.map fun k=>-k).Nodup:=List.Pairwise.map _ (fun a b h z=>h (by omega)) nd
def uZ {β:Type} {F:PyData->β->Prop} {ks:List Int} {xs:List PyData} {vs:List β} {ps:List (Int×β)} (nd:ks.Nodup) (hl:ks.length=xs.length) (r:Paired F xs vs) (hp:ps.Perm (ks.zip vs)) (ho:ps.Pairwise fun p q=>p.1<=q.1):Paired F (kY ks xs) (ps.map (·.2)):=by
 have nd':=bK8 nd;have vl:=r.length;have e:ps.map (fun p=>(-p.1,p.2))=dsc ((ks.map fun k=>-k).zip vs):=dsc_only (by rw [fst_zip (by simp;omega)];exact nd') ((hp.map _).trans (.of_eq (by rw [List.zip_map_left];rfl))) (by
  rw [List.pairwise_map];exact ho.imp fun h=>by simpa using h)
 have q:=aW1 nd' (by simpa using hl) r;rw [<- e,List.map_map] at q;exact q
section
variable {X:Cx} {st:Sta} {d:Nat} {v:Evs} {a:Expr} {es:List Expr} {p pos:Pos}
def bX2 (S:Snd v) (G:Good X st d) (hx:(cL st "sorted"&&(slot st "sorted").isNone&&st.bl.contains "sorted")=true):SF X (.Call (.Name "sorted" p) (a::es) [] pos) (xb (aS v st (a::es)) fun ws=>fun _ h=>lF ws h):=by
 intro κ M δ h s w h' R F e;obtain ⟨ws,h1,e1,e⟩:=aF e;refine kF (f:=.builtin "sorted") S G hx (by decide +kernel) (.inl ⟨_,rfl⟩) R F e1 fun {M1 us s1} l1 R1 r1=>?_;have fin:∀ {ns:List Int} {u:Value} {vs:List Value},IntsAre vs ns->ns.length < 64->(∀ Rr:List Value->Shared->Prop,(∀ h2,(∀ b o,s1.heap.get? b=some o->h2.get? b=some o)->Rr vs { s1 with heap:=h2 })->Wp X.S X.A.in1 (collect u) Rr NE s1)->Wp X.S X.A (call (.builtin "sorted") [u]) (Pf X.S κ M h1 ((srt ns).map .int)) NE s1:=fun {ns u vs} hi hl hc=>by
  refine kH (ks:=ns) (n:=vs.length) (by rw [hi.length];exact hl) (fun Rr hR=>hc Rr fun h2 k=>hR vs ns h2 s1.drawn s1.toks hi rfl (List.Perm.refl _) k) fun b vs' ns' c h2 dr tk hi' hp ho hz hb k=>?_;have e2:=srt_only hp ho;subst e2;have hlen:=hi'.length;have hpl:=hp.length_eq;exact ⟨M1,l1,R1.dr h2 dr tk k,b,vs',c,rfl,hb,R1.new hz,by rw [hlen,hpl,sizeLine_eq];omega,iK hi'⟩
 have all:∀ {xs zs:List PyData} {u:Value} {vs:List Value},zS xs=some zs->Paired (Rep X.S M1.Z) xs vs->(∀ Rr:List Value->Shared->Prop,(∀ h2,(∀ b o,s1.heap.get? b=some o->h2.get? b=some o)->Rr vs { s1 with heap:=h2 })->Wp X.S X.A.in1 (collect u) Rr NE s1)->Wp X.S X.A (call (.builtin "sorted") [u]) (Pf X.S κ M h1 zs) NE s1:=fun {xs zs u vs} e rr hc=>by
  unfold zS at e;cases en:bD xs with
  | some ns =>
   rw [en] at e;obtain ⟨hl,e⟩:=aE e;cases e;exact fin (gM en rr) hl hc
  | none =>
   rw [en] at e;obtain ⟨ks,ek,e⟩:=bind_some e;obtain ⟨⟨nd,hl⟩,e⟩:=aE e;cases e;have vl:=rr.length;have kl:=xI ek;refine mP (b:=false) (n:=vs.length) (Ex:=fun us _=>us=vs) nd (by omega) (fun Rr hR=>hc Rr fun h2 k=>hR vs h2 s1.toks rfl (aK0 (fun a o q=>k a o (R1.z a o q)) ek rr) rfl k) fun b us ps c h1' h2 tk _ eu hp ho hz hb k1 k2=>?_;subst eu;have k:=fun b o q=>k2 b o (k1 b o q);have hz:s1.heap.get? b=none:=by cases q:s1.heap.get? b with | none=>rfl | some o=>rw [k1 b o q] at hz;cases hz
   have pl:=hp.length_eq;rw [List.length_zip] at pl;exact ⟨M1,l1,R1.dr h2 s1.drawn tk k,b,ps.map (·.2),c,rfl,hb,R1.new hz,by rw [List.length_map,sizeLine_eq];omega,uZ nd (by omega) rr hp ho⟩
 unfold lF at e;split at e
 ·obtain ⟨u,rfl,ru⟩:=w1 r1;split at e
  ·rename_i xs ex;obtain ⟨zs,ez,e⟩:=map_some e;cases e;obtain ⟨b,vs,n,rfl,ho,hz,rr⟩:=dI R1 ru ex;exact all ez rr fun Rr hR=>wpAny_collect_seq b (.inl rfl) ho rfl rfl (fun h2 k=>hR h2 k) (by simpa using hz)
  ·rename_i xs ex;obtain ⟨zs,ez,e⟩:=map_some e;cases e;obtain ⟨b,vs,n,rfl,z,hz,rr⟩:=fY R1 ru ex;exact all ez rr fun Rr hR=>wpAny_collect_seq b (.inr rfl) (R1.z _ _ z) rfl rfl (fun h2 k=>hR h2 k) (by simpa using hz)
  ·rename_i kvs ex;obtain ⟨hfk,e⟩:=aE e;obtain ⟨ns,en,e⟩:=bind_some e;obtain ⟨hl,e⟩:=aE e;cases e;obtain ⟨a',vs,rfl,⟨o,es,ep,d1,d2⟩,rk,hd,hz⟩:=wR R1 ru (by simpa using hfk) ex;have kk:=xG rk en;have vl:vs.length=ns.length:=by have:=congrArg List.length kk;simpa using this
   refine uX (PySem.W.kdl_dict (knd:=bX X.S.P X.S.w) (kvs:=vs) (ep:=ep) hd) G.rm.hd ⟨o,es,d1,d2⟩ (ks:=ns) (by omega) vl.symm (fun i u hv=>?_) fun b vs' ns' c h2 dr tk hi' hp ho hz hb k=>?_
   ·obtain ⟨k,x,e1,e2⟩:=hv;have e3:(vs.map (·.1))[i]?=some k:=by rw [List.getElem?_map,e1];rfl
    rw [kk,List.getElem?_map] at e3;obtain ⟨n,e4,rfl⟩:=Option.map_eq_some_iff.mp e3;obtain ⟨t,rfl⟩:=qQ e2;exact ⟨n,t,e4,rfl⟩
   ·have e2:=srt_only hp ho;subst e2;have hlen:=hi'.length;have hpl:=hp.length_eq;exact ⟨M1,l1,R1.dr h2 dr tk k,b,vs',c,rfl,hb,R1.new hz,by rw [hlen,hpl,sizeLine_eq];omega,iK hi'⟩
  ·cases e
 ·cases e
end
end DL

namespace DL
open PySem PySem.Spec PyProof.Rows L2 CI ST
theorem sP {α β:Type} {F:α->β->Prop}:∀ (l:List α) (r:List β),l.length=r.length->(∀ (i:Nat) a b,l[i]?=some a->r[i]?=some b->F a b)->Paired F l r
 | [],[],_,_=>.nil
 | [],_::_,h,_=>by simp at h
 | _::_,[],h,_=>by simp at h
 | a::l,b::r,h,k=>.cons (k 0 a b rfl rfl) (sP l r (by simpa using h) fun i x y e1 e2=>k (i+1) x y (by simpa using e1) (by simpa using e2))
section
variable {X:Cx} {st:Sta} {d:Nat} {v:Evs} {o:Expr} {p apos pos pos2:Pos}
def aK1 (S:Snd v) (G:Good X st d) (h1:okC st "sorted"=true) (ho:jA o=true) (hl:(apos.endLine==pos2.line)=true):SF X (.Call (.Name "sorted" p) [.Call (.Attribute o "items" apos) [] [] pos2] [] pos) (xb (v.E st o) fun w=>fun _ h=>xSI w h):=by
 intro κ M δ h s w h' R F e;obtain ⟨x,hh,e1,e⟩:=aF e;obtain ⟨n1,n2,n3⟩:=cA G h1;refine wpAny_Call_Name_kw (bZ (u:=.builtin "sorted") F R n2 n3 (by decide +kernel) n1 ?_);refine PyProof.Rows.callWith_builtin1 (iJ (by rfl) ?_) rfl rfl;refine wpAny_Call_method_late (qM ho _ _) (by rfl) hl rfl (thn (S.E G o R F e1) fun u s1 ⟨M1,l1,R1,r1⟩=>?_);unfold xSI at e;split at e
 ·rename_i kvs ex;obtain ⟨hfk,e⟩:=aE e;obtain ⟨ks,en,e⟩:=bind_some e;obtain ⟨hl6,e⟩:=aE e;cases e;obtain ⟨a,vs,rfl,dd,rk,hd,hz⟩:=wR R1 r1 (by simpa using hfk) ex;have kk:=xG rk en;have kl:=rk.length;have vl:vs.length=ks.length:=by have:=congrArg List.length kk;simpa using this
  obtain ⟨ob,es,ep,d1,d2,d3,d4,d5,d6⟩:=id dd;have nd:ks.Nodup:=by
   rw [kk] at d6;exact List.Pairwise.of_map _ (fun a b hab e=>hab (by rw [e])) d6
  refine ⟨"dict","dict.items",PySem.F.plainAttrs_dict,PySem.F.slot_dict_items,PySem.F.type_dict_items,dd.typeIs,fun c ec=>by cases ec;exact ⟨ob,d1,d2.2.1⟩,?_⟩;refine Calls.callWith_builtin rfl (evalArgs_nil3 ?_);refine call_meetsIn PySem.F.slot_dict_items dd.typeIs PySem.F.entry_dict_items (PySem.F.args_dict_items_1 _) (meets_dict_items (bX X.S.P X.S.w) a hd) ⟨⟨vs,dd⟩,?_⟩;have k0:∀ b o,s1.heap.get? b=some o->(s1.heap.push { cls:=Value.type "dict_items",data:=Data.fields #[Value.ref a] }).get? b=some o:=fun b o e=>Heap.get?_push_of_some _ e;have hv:(s1.heap.push { cls:=Value.type "dict_items",data:=Data.fields #[Value.ref a] }).IsItemsView s1.heap.objs.size a:=⟨_,Heap.get?_push_size _ rfl,rfl,rfl⟩;have hm:Heap.DictAt (bX X.S.P X.S.w) (s1.heap.push { cls:=Value.type "dict_items",data:=Data.fields #[Value.ref a] }) a vs ep:=⟨ob,es,k0 _ _ d1,d2,d3,d4,d5,d6⟩;have hs2:s1.heap.objs.size<=(s1.heap.push { cls:=Value.type "dict_items",data:=Data.fields #[Value.ref a] }).objs.size:=by rw [size_push'];exact Nat.le_succ _
  refine mP (b:=true) (n:=vs.length) (ks:=ks) (Ex:=fun us h1=>∃ as:List Addr,us=as.map Value.ref/\as.length=vs.length/\PySem.W.KdxG (bX X.S.P X.S.w) vs (s1.heap.push { cls:=Value.type "dict_items",data:=Data.fields #[Value.ref a] }).objs.size h1 as) nd (by omega) (fun Rr hR=>PySem.W.kdx_collect (A:=X.A.in1) (by have:=G.rm.hd;simp [this]) hv hm hz fun h2 tk as k hal g=>hR (as.map Value.ref) h2 tk (by rw [List.length_map,hal]) ?_ ⟨as,rfl,hal,g⟩ k) fun b us ps c h3 h4 tk hul ⟨as,eu,al,g⟩ hp hso hz3 hb k1 k2=>?_
  ·refine sP _ _ (by rw [List.length_map];omega) fun j k u e1 e2=>?_;rw [List.getElem?_map] at e2;obtain ⟨A,e3,rfl⟩:=Option.map_eq_some_iff.mp e2;obtain ⟨key,kk',x',q1,q2,q3⟩:=g.pairs j A e3;have e4:(vs.map (·.1))[j]?=some kk':=by rw [List.getElem?_map,q1];rfl
   rw [kk,List.getElem?_map,e1] at e4;cases e4;obtain ⟨t,rfl⟩:=qQ q2;exact ⟨k,t,x',A,_,0,rfl,q3,rfl,rfl,by rw [if_pos rfl]⟩
  ·subst eu;have k3:∀ b o,s1.heap.get? b=some o->h4.get? b=some o:=fun b o q=>k2 b o (k1 b o (k0 b o q));have R2:Mem X.S κ M1 h' { s1 with heap:=h4,toks:=tk }:=R1.kept k3;have nas:as.Nodup:=g.rise.imp fun h=>Nat.ne_of_lt h;obtain ⟨M2,l2,R3,rr,fr⟩:=Mem.frzs as kvs M1 R2 nas (by omega) (fun A hA=>R1.new (Heap.get?_none_of_le (Nat.le_of_lt (Nat.lt_of_le_of_lt hs2 (g.above A hA))))) fun j A q e1 e2=>by
    obtain ⟨key,k,x',q1,q2,q3⟩:=g.pairs j A e1;obtain ⟨y,e4,e5⟩:=iQ rk e2;rw [q1] at e4;cases e4;refine ⟨key,x',k2 _ _ q3,?_,e5.2⟩;have e6:(vs.map (·.1))[j]?=some k:=by rw [List.getElem?_map,q1];rfl
    rw [kk,List.getElem?_map] at e6;obtain ⟨n,e7,rfl⟩:=Option.map_eq_some_iff.mp e6;obtain ⟨t,rfl⟩:=qQ q2;have e8:q.1=.int n:=by
     have z:bI q.1=some (.inl n):=e5.1;cases q1':q.1 with
     | int i=>rw [q1'] at z;cases z;rfl
     | str x=>rw [q1'] at z;simp [bI] at z
     | _=>rw [q1'] at z;cases z
    rw [e8];exact rep_i.mpr ⟨t,rfl⟩
   have fb:aZ κ M2 b:=fr b (R1.new (by
    cases q:s1.heap.get? b with
    | none=>rfl
    | some o=>rw [k1 b o (k0 b o q)] at hz3;cases hz3)) fun hm=>by
     obtain ⟨j,hj⟩:=List.getElem?_of_mem hm;obtain ⟨_,_,_,_,_,q3⟩:=g.pairs j b hj;rw [q3] at hz3;cases hz3
   have pl:=hp.length_eq;rw [List.length_zip,List.length_map] at pl;exact ⟨M2,l1.trans l2,R3,b,ps.map (·.2),c,rfl,hb,fb,by rw [List.length_map,sizeLine_eq];omega,uZ nd (by rw [List.length_map];omega) rr hp hso⟩
 ·cases e
end
end DL

namespace ST
open PySem PySem.Spec PyProof.Rows PySem.W
section
variable {prog:Program} {w:World} {A:Around} {E:Value->Shared->Prop} {s:Shared}
theorem oY:∀ {us:List Value} {ks:List Int},IntsAre us ks->Paired (fun k u=>∃ t,u=Value.int k t) ks us
 | _,_,.nil=>.nil
 | _,_,.cons n t h=>.cons ⟨t,rfl⟩ (oY h)
def aK2 {a kS:Addr} {us vs:List Value} {ks:List Int} {e e1:Nat} {P:PySem.Fin->Shared->Prop} (hk:s.heap.get? kS=some (seqObj "list" us.toArray e)) (ha:s.heap.get? a=some (seqObj "list" #[] e1)) (hka:kS≠a) (K:IntsAre us ks) (nd:ks.Nodup) (hl:us.length=vs.length) (h6:vs.length < 64)
  (h:∀ (ps:List (Int×Value)) c h',ps.Perm (ks.zip vs)->ps.Pairwise (fun p q=>p.1<=q.1)->h'.get? a=some (seqObj "list" (ps.map (·.2)).toArray c)->(∀ b o,b≠a->b≠kS->s.heap.get? b=some o->h'.get? b=some o)->P (.done (.ret .none)) { s with heap:=h' }) :
  wpAny (model prog w) A (ksk_end a false vs.toArray e1 (.ref kS) us.toArray) P E s:=by
 have K2:=oY K;have kl:ks.length=us.length:=K2.length;have zl:sizeLine=16777216:=sizeLine_eq;have tail:∀ (st:SortSt) (ps:List (Int×Value)),ps.Perm (ks.zip vs)->ps.Pairwise (fun p q=>p.1<=q.1)->failedOf st=none->(arrOf st).map (·.2)=(ps.map (·.2)).toArray->wpAny (model prog w) A (ksk_tail a false e1 (.ref kS) st) P E s:=fun st ps hp ho hf he=>by
  have s1:=Heap.SameBut.update s.heap kS (Obj.mapSeq fun _=>(#[]:Array Value));have na1:(s.heap.update kS (Obj.mapSeq fun _=>(#[]:Array Value))).get? a=some (seqObj "list" #[] e1):=(s1.2 a hka.symm).trans ha;have s2:=Heap.SameBut.update (s.heap.update kS (Obj.mapSeq fun _=>(#[]:Array Value))) a (Obj.mapSeq fun _=>(ps.map (·.2)).toArray);obtain ⟨c2,hc2⟩:∃ c2,((s.heap.update kS (Obj.mapSeq fun _=>(#[]:Array Value))).update a (Obj.mapSeq fun _=>(ps.map (·.2)).toArray)).get? a=some (seqObj "list" (ps.map (·.2)).toArray c2):=⟨_,get?_update_seq na1 fun _=>(ps.map (·.2)).toArray⟩;have pl:ps.length=vs.length:=by rw [hp.length_eq,List.length_zip];omega
  unfold ksk_tail;try dsimp only
  refine wpAny_bind (listUpdate_at hk rfl ?_ (by rw [List.size_toArray,zl];omega) (Nat.zero_le _));refine wpAny_bind (wpAny_letGo ?_);refine wpAny_bind (seqEpoch_at na1 rfl ?_);simp only [Bool.false_eq_true,if_false];rw [he];refine wpAny_bind (listUpdate_at na1 rfl ?_ (Nat.zero_le _) (by rw [List.size_toArray,List.length_map,zl];omega));rw [hf];simp only [bne_self_eq_false,Bool.false_eq_true,if_false];exact wpAny_pure (h ps c2 _ hp ho hc2 fun b o n1 n2 q=>(s2.2 b n1).trans ((s1.2 b n2).trans q))
 have ez:us.toArray.zip vs.toArray=(us.zip vs).toArray:=by simp
 unfold ksk_end;try dsimp only
 simp only [Bool.false_eq_true,if_false]
 by_cases h2:vs.toArray.size < 2
 ·rw [if_pos h2,if_pos h2];rw [List.size_toArray] at h2;refine wpAny_bind (wpAny_pure ?_);rw [StateT.run_pure];refine wpAny_bind (wpAny_pure ?_);refine tail _ (ks.zip vs) (.refl _) (pw1 (by rw [List.length_zip];omega)) rfl ?_;show (us.toArray.zip vs.toArray).map (·.2)=_;rw [ez,List.map_snd_zip (by omega)];simp [List.map_snd_zip (l₁:=us) (l₂:=vs) (by omega)]
 ·rw [if_neg h2,if_neg h2];rw [List.size_toArray] at h2;rw [ksk_kind (kz:=ks) (by simpa using K) (by simp;omega)];refine wpAny_bind (wpAny_pure ?_);obtain ⟨h1,h3,h4⟩:=xC nd (by omega);rw [kl,hl] at h1 h3 h4;refine wpAny_bind (kat_run (κ:=oneType') (Q:=fun st s'=>wpAny (model prog w) A (ksk_tail a false e1 (.ref kS) st) P E s') (vs:=vs) (ks:=us) (G:=fun p s'=>p=qP (ltK ks) (kas_sort vs.length)/\s'=s) hl (by omega) (by omega) ?_ ?_)
  ·rintro p st s' hp har hf ⟨rfl,rfl⟩;refine tail st ((qP (ltK ks) (kas_sort vs.length)).toList.map fun i=>(ks.getD i 0,vs.getD i Value.none)) ?_ ?_ hf ?_
   ·refine (h3.map _).trans ?_;rw [<- hl,<- kl,xD (by omega)]
   ·rw [List.pairwise_map];refine h4.imp fun {i j} hz=>?_;unfold ltK at hz;exact Int.le_of_lt (of_decide_eq_true hz)
   ·rw [kat_snds hl har];simp [Function.comp_def]
  ·refine uW (lt:=ltK ks) (fun i j hi hj hij C hC=>?_) (fun _ _ _ _=>rfl) _ _ h1 ⟨rfl,rfl⟩;have hi':i < ks.length:=by omega
   have hj':j < ks.length:=by omega
   obtain ⟨u,eu,t,rfl⟩:=sN K2 (List.getElem?_eq_getElem hi');obtain ⟨v,ev,t',rfl⟩:=sN K2 (List.getElem?_eq_getElem hj');unfold kas_ask;have e1:us.getD i .none=.int ks[i] t:=by rw [List.getD_eq_getElem?_getD,eu];rfl
   have e2:us.getD j .none=.int ks[j] t':=by rw [List.getD_eq_getElem?_getD,ev];rfl
   rw [e1,e2];refine kat_lt_int ?_;have e3:ltK ks i j=decide (ks[i] < ks[j]):=by
    unfold ltK;rw [List.getD_eq_getElem?_getD,List.getD_eq_getElem?_getD,List.getElem?_eq_getElem hi',List.getElem?_eq_getElem hj'];rfl
   rw [<- e3];exact hC
end
end ST

namespace DL
open PySem PySem.Spec PyProof.Rows L2 CI ST
section
variable {X:Cx} {st:Sta} {d:Nat} {v:Evs} {κ:Kp} {M:Mp} {δ δ':DSt} {h h':aA} {s:Shared} {te:XR W} {i:Nat} {f l:Addr} {vs:List Value} {xs zs:List PyData} {ks:List Int}
noncomputable def bK9 (b:Bool):List (Str×Value):=if b=true then [(Str.ofString "reverse",.bool true)] else []
def aW2 {b:Bool} {zs xs rs:List PyData} (e:byK b zs xs=some rs):xs.length < 64:=by
 unfold byK at e;split at e
 ·cases e
 ·obtain ⟨ks,_,e⟩:=bind_some e;exact (aE e).1.2
def bL0 {A:Around} {b:Bool} {zs rs:List PyData} {h1:aA} {Z:Zm} {a kS:Addr} {us:List Value} {e e1:Nat} {P:PySem.Fin->Shared->Prop} (ek:byK b zs xs=some rs) (ez:fX te δ' i xs h=some (zs,h1)) (hz:∀ a o,Z a=some o->s.heap.get? a=some o) (rz:Paired (Rep X.S Z) zs us) (hk:s.heap.get? kS=some (seqObj "list" us.toArray e)) (ha:s.heap.get? a=some (seqObj "list" #[] e1)) (hka:kS≠a) (vl:xs.length=vs.length)
  (fin:∀ (rv:List Value) c h',rv.length=vs.length->(∀ Z':Zm,Paired (Rep X.S Z') xs vs->Paired (Rep X.S Z') rs rv)->h'.get? a=some (seqObj "list" rv.toArray c)->(∀ b o,b≠a->b≠kS->s.heap.get? b=some o->h'.get? b=some o)->P (.done (.ret .none)) { s with heap:=h' }) :
  Wp X.S A (ksk_end a b vs.toArray e1 (.ref kS) us.toArray) P NE s:=by
 have zl:=aJ6 ez;have ul:=rz.length;unfold byK at ek;cases b with
 | true =>
  rw [if_pos rfl] at ek;cases ek
 | false =>
  rw [if_neg (by decide)] at ek;obtain ⟨ks,ek1,e⟩:=bind_some ek;obtain ⟨⟨nd,h6⟩,e⟩:=aE e;cases e;have ia:=gM ek1 rz;have kl:ks.length=xs.length:=by rw [<- ia.length,<- ul,zl]
  exact aK2 (ks:=ks) hk ha hka ia nd (by omega) (by omega) fun ps c h2 hp ho hc hk=>fin (ps.map (·.2)) c h2 (by rw [List.length_map,hp.length_eq,List.length_zip];omega) (fun Z' r=>uZ nd kl r hp ho) hc hk
def aK3 {n:Nat} {oF:Obj} (R:Mem X.S κ M h s) (ff:aZ κ M f) (hf:s.heap.get? f=some oF) (hl:s.heap.get? l=some (aV vs n)) (rv:Reps' X.S M xs vs) {b:Bool} {rs:List PyData} (e:fX te δ' i xs h=some (zs,h')) (ek:byK b zs xs=some rs)
  (turn:∀ {κ':Kp} {M':Mp} {h1 h2:aA} {s1:Shared} {u:Value} {x:PyData} {z:W},(∀ a,κ a≠none->κ' a=κ a)->Le M M'->κ' f=some (true,oF)->Mem X.S κ' M' h1 s1->Rep X.S M'.Z x u->te (δ'.set i (some (.d x))) h1=some (z,h2)->Wp X.S X.A.in1.in1 (call (.ref f) [u]) (Pw X.S κ' M' h2 z) NE s1) :
  Wp X.S X.A (call (.builtin "sorted") [.ref l] ((Str.ofString "key",.ref f)::bK9 b)) (Pf X.S κ M h' rs) NE s:=by
 have vl:=rv.length;have zl:sizeLine=16777216:=sizeLine_eq;have h6:=aW2 ek;refine call_function_entry_kw kind_sorted plain_sorted entry_sorted (by cases b;exact ksk_s1 _ _;exact ksk_s2 _ _ _) ?_;unfold Builtin.«sorted»;refine wpAny_bind (m:=checkCount "sorted" 1 1 _) (wpAny_pure ?_);refine wpAny_bind (collect_list (bM hl).isList ?_ (by rw [zl];omega));refine wpAny_bind (wpAny_newList ?_ (by rw [zl];omega));have hsz:((s.heap.push (seqObj "list" #[] 0)).update s.heap.objs.size (Obj.mapSeq (·++vs.toArray))).objs.size=s.heap.objs.size+1:=by
  rw [Heap.size_update,size_push']
 have hoL:(((s.heap.push (seqObj "list" #[] 0)).update s.heap.objs.size (Obj.mapSeq (·++vs.toArray))).push (seqObj "list" vs.toArray 0)).get? (s.heap.objs.size+1)=some (seqObj "list" vs.toArray 0):=by
  rw [<- hsz];exact Heap.get?_push_size _ rfl
 have keep:∀ b o,s.heap.get? b=some o->(((s.heap.push (seqObj "list" #[] 0)).update s.heap.objs.size (Obj.mapSeq (·++vs.toArray))).push (seqObj "list" vs.toArray 0)).get? b=some o:=fun b o q=>by
  have hlt:b < s.heap.objs.size:=Heap.lt_size q;rw [Heap.get?_push_ne _ _ _ (by rw [hsz];exact Nat.ne_of_lt (Nat.lt_succ_of_lt hlt)),Heap.get?_update_ne _ _ _ _ (Nat.ne_of_lt hlt),Heap.get?_push_ne _ _ _ (Nat.ne_of_lt hlt)];exact q
 have hs1:(((s.heap.push (seqObj "list" #[] 0)).update s.heap.objs.size (Obj.mapSeq (·++vs.toArray))).push (seqObj "list" vs.toArray 0)).objs.size=s.heap.objs.size+2:=by rw [size_push',hsz]
 show wpAny _ _ _ _ _ { s with heap:=((s.heap.push (seqObj "list" #[] 0)).update s.heap.objs.size (Obj.mapSeq (·++vs.toArray))).push (seqObj "list" vs.toArray 0) };rw [hsz];generalize (((s.heap.push (seqObj "list" #[] 0)).update s.heap.objs.size (Obj.mapSeq (·++vs.toArray))).push (seqObj "list" vs.toArray 0))=H1 at hoL keep hs1;refine wpAny_bind (wpAny_holding (wpAny_call_entry_kw slot_list_sort ⟨_,hoL,rfl⟩ entry_list_sort ?body (by cases b;exact ksk_l1 _ _;exact ksk_l2 _ _ _)))
 case body =>
  show wpAny (model X.S.P X.S.w) X.A.in1.in1 (Builtin.«list.sort» ⟨[.ref (s.heap.objs.size+1)],(Str.ofString "key",.ref f)::bK9 b⟩) _ _ _;rw [show Builtin.«list.sort» ⟨[.ref (s.heap.objs.size+1)],(Str.ofString "key",.ref f)::bK9 b⟩=ksk_tree (s.heap.objs.size+1) (.ref f) b by cases b;exact ksk_t1 _ _;exact ksk_t2 _ _ _];have fa:aZ κ M (s.heap.objs.size+1):=R.new (Heap.get?_none_of_le (Nat.le_succ _));have fk:aZ κ M (s.heap.objs.size+3):=R.new (Heap.get?_none_of_le (by omega));have la:∀ {b o},s.heap.get? b=some o->b < s.heap.objs.size:=fun q=>Heap.lt_size q;have nfa:f≠s.heap.objs.size+1:=Nat.ne_of_lt (Nat.lt_succ_of_lt (la hf));have nfk:f≠s.heap.objs.size+3:=Nat.ne_of_lt (Nat.lt_add_right 3 (la hf));have nak:s.heap.objs.size+3≠s.heap.objs.size+1:=by simp
  generalize ea:s.heap.objs.size+1=a at hoL fa nfa nak;have al:∀ {b o},s.heap.get? b=some o->b≠a:=fun q=>by rw [<- ea];exact Nat.ne_of_lt (Nat.lt_succ_of_lt (la q))
  obtain ⟨e1,ho1⟩:∃ e1,(H1.update a (Obj.mapSeq fun _=>(#[]:Array Value))).get? a=some (seqObj "list" #[] e1):=⟨_,get?_update_seq hoL fun _=>#[]⟩;have s1:=Heap.SameBut.update H1 a (Obj.mapSeq fun _=>(#[]:Array Value));have hs2:(H1.update a (Obj.mapSeq fun _=>(#[]:Array Value))).objs.size=s.heap.objs.size+2:=by rw [Heap.size_update,hs1]
  unfold ksk_tree;refine wpAny_bind (listItems_at hoL rfl ?_);refine wpAny_bind (listUpdate_at hoL rfl ?_ (by rw [List.size_toArray,zl];omega) (Nat.zero_le _));refine wpAny_bind (seqEpoch_at ho1 rfl ?_);refine wpAny_bind (wpAny_newTuple ?_ (by show vs.length<=_;rw [zl];omega));refine wpAny_bind (wpAny_newList ?_ (Nat.zero_le _));refine wpAny_holding ?_;have kz:((H1.update a (Obj.mapSeq fun _=>(#[]:Array Value))).push (seqObj "tuple" vs.toArray 0)).objs.size=s.heap.objs.size+3:=by rw [size_push',hs2]
  have hk0:(((H1.update a (Obj.mapSeq fun _=>(#[]:Array Value))).push (seqObj "tuple" vs.toArray 0)).push (seqObj "list" #[] 0)).get? (s.heap.objs.size+3)=some (aV [] 0):=by rw [<- kz];exact Heap.get?_push_size _ rfl
  have ha0:(((H1.update a (Obj.mapSeq fun _=>(#[]:Array Value))).push (seqObj "tuple" vs.toArray 0)).push (seqObj "list" #[] 0)).get? a=some (aV [] e1):=Heap.get?_push_of_some _ (Heap.get?_push_of_some _ ho1);have keep2:∀ b o,s.heap.get? b=some o->(((H1.update a (Obj.mapSeq fun _=>(#[]:Array Value))).push (seqObj "tuple" vs.toArray 0)).push (seqObj "list" #[] 0)).get? b=some o:=fun b o q=>Heap.get?_push_of_some _ (Heap.get?_push_of_some _ ((s1.2 b (al q)).trans (keep b o q)));show wpAny _ _ (ksk_rest a (.ref f) b vs.toArray e1 (.ref ((H1.update a (Obj.mapSeq fun _=>(#[]:Array Value))).push (seqObj "tuple" vs.toArray 0)).objs.size)) _ _ { s with heap:=((H1.update a (Obj.mapSeq fun _=>(#[]:Array Value))).push (seqObj "tuple" vs.toArray 0)).push (seqObj "list" #[] 0) };rw [kz];generalize ((H1.update a (Obj.mapSeq fun _=>(#[]:Array Value))).push (seqObj "tuple" vs.toArray 0)).push (seqObj "list" #[] 0)=H2 at hk0 ha0 keep2;generalize s.heap.objs.size+3=kS at fk nfk nak hk0;have R1:Mem X.S κ M h { s with heap:=H2 }:=R.kept (t:=s.toks) keep2;have R2:=R1.more (b:=true) ⟨ff.1,ff.2.2⟩ (keep2 _ _ hf);have R3:=R2.more (b:=true) ⟨fa.1,fa.2.2⟩ ha0;have R4:=R3.more (b:=true) ⟨fk.1,fk.2.2⟩ hk0;refine aJ7 (a:=a) (κ1:=(κ.up f (true,oF)).up a (true,aV [] e1)) (zs:=zs) (h':=h') (fun o {M' h1 h2 s1 u x z} l R' r' e'=>turn (fun b hb=>?_) l ?_ R' r' e') R4 rv h6 e fun M' us m s' l R' rz=>?_
  ·rw [bG fun q=>hb (by rw [q];exact fk.2.1),bG fun q=>hb (by rw [q];exact fa.2.1),bG fun q=>hb (by rw [q];exact ff.2.1)]
  ·rw [bG nfk,bG nfa,fQ]
  ·have kk:(((κ.up f (true,oF)).up a (true,aV [] e1)).up kS (true,aV us m)) a=some (true,aV [] e1):=by rw [bG (Ne.symm nak),fQ]
   have kf:∀ b x,κ b=some x->(((κ.up f (true,oF)).up a (true,aV [] e1)).up kS (true,aV us m)) b=some x:=fun b x q=>by
    rw [bG (a:=kS) (fun q2=>by rw [q2,fk.2.1] at q;cases q),bG (a:=a) (fun q2=>by rw [q2,fa.2.1] at q;cases q),bG (a:=f) (fun q2=>by rw [q2,ff.2.1] at q;cases q)];exact q
   refine bL0 ek e R'.z rz ((R'.k kS true _ fQ).1 rfl) ((R'.k a true _ kk).1 rfl) nak vl fun rv' c h2 hlr hr hc hk=>⟨_,rfl,wpAny_pure ⟨_,rfl,?_⟩⟩;have R5:Mem X.S κ M' h' s':=R'.less kf;have fA:aZ κ M' a:=⟨(R'.k a true _ kk).2.2,fa.2.1,R'.kc kk⟩;have fK:aZ κ M' kS:=⟨(R'.k kS true _ fQ).2.2,fk.2.1,R'.kc fQ⟩;refine ⟨M',l,R5.keep (s':={ s' with heap:=h2 }) (fun b o q nf=>hk b o (fun z=>nf (by rw [z];exact fA)) (fun z=>nf (by rw [z];exact fK)) q) R5.bare rfl,a,rv',c,rfl,hc,fA,?_,hr _ (Reps'.go l rv)⟩;omega
def aK4 {a:Arg} (fd:FuncData) (hp:fd.params=⟨[],[a],none,[],[],none,[]⟩) (h1:fd.defaults=.none) (h2:fd.kwdefaults=.none) (u:Value):bindArgs fd ⟨[u],[]⟩=pure [(a.arg,u)]:=by
 unfold bindArgs;rw [hp,h1,h2];simp [show seqItems? Value.none=pure none from rfl,List.lookup]
def aK5 {A:Around} {sc:Scope} {q:Str} {L f cc:Addr} {cl:List (Str×Addr)} {qp:Str×Pos} (G:Good X st d) (lk:LamOk X d qp):Good (cxL X X.A.in1.in1 (iZ sc) sc q L f cc cl) (st.lam sc) d:=by
 refine ⟨G.bl,G.gc,G.tk,G.fn,G.fnW,G.cls,G.om,G.fo,rfl,rfl,(fun z=>nomatch z),⟨G.rm.hd,?_,?_⟩,fun q z=>nomatch z⟩
 ·have:=lk.dp;show X.A.depth+1+3*d+5 < _;omega
 ·have:=lk.un;show X.A.units+1+1+3+16*d+200 < _;omega
def bL1 {kws:List Keyword} {a:Arg} {body:Expr} {sc:Scope} {lp:Pos} {b:Bool} (e:rW kws=some ((a,body,sc,lp),b)):∃ p1 r,kws=⟨some "key",.Lambda ⟨[],[a],none,[],[],none,[]⟩ body sc lp,p1⟩::r/\((b=false/\r=[])\/(b=true/\∃ j p3 p2,r=[⟨some "reverse",.Constant (.bool true) j p3,p2⟩])):=by
 unfold rW at e;obtain ⟨y,_,ey⟩:=Option.map_eq_some_iff.mp e;have h:=y.2;rw [ey] at h;exact h
def bX3 (S:Snd v) (G:Good X st d) {a:Expr} {kws:List Keyword} {p pos:Pos} (hx:(cL st "sorted"&&(slot st "sorted").isNone&&st.bl.contains "sorted")=true):SF X (.Call (.Name "sorted" p) [a] kws pos) (aT7 v st a kws):=by
 intro κ M δ h s w h' R F e;unfold aT7 at e;obtain ⟨q,eq⟩:∃ q,st.qn=some q:=by
  cases eq:st.qn with
  | none=>rw [eq] at e;cases e
  | some q=>exact ⟨q,rfl⟩
 obtain ⟨⟨⟨ar,body,sc,lp⟩,r⟩,el⟩:∃ y,rW kws=some y:=by
  cases el:rW kws with
  | none=>rw [eq,el] at e;cases e
  | some y=>exact ⟨y,rfl⟩
 rw [eq,el] at e;dsimp only at e;obtain ⟨p1,rr,rfl,hr⟩:=bL1 el;obtain ⟨hb,e⟩:aT6 st q ar sc lp=true/\(match (iZ sc).findIdx? (·==ar.arg) with
  | some i=>xb (aS v st [a]) fun ws=>(match ws with
   | [w]=>lZ r (v.E (st.lam sc) body) (fL st.N sc) i (q.1++"<lambda>") lp w
   | _=>xno)
  | none=>xno) δ h=some (w,h'):=by
  by_cases hb:aT6 st q ar sc lp=true
  ·rw [if_pos hb] at e;exact ⟨hb,e⟩
  ·rw [if_neg hb] at e;cases e
 obtain ⟨i0,ei⟩:∃ i,(iZ sc).findIdx? (·==ar.arg)=some i:=by
  cases ei:(iZ sc).findIdx? (·==ar.arg) with
  | none=>rw [ei] at e;cases e
  | some i=>exact ⟨i,rfl⟩
 rw [ei] at e;obtain ⟨ws,h1,e1,e⟩:=aF e;have LK:=G.qn q eq;obtain ⟨c0,ec,T⟩:=LK.code;obtain ⟨b1,b2,b3⟩:=cA G hx;have hst:=eO e1;rw [List.all_cons,Bool.and_eq_true] at hst;unfold aT6 at hb;simp only [Bool.and_eq_true,decide_eq_true_eq,Bool.not_eq_true'] at hb;obtain ⟨rfl,hc,hco,hg,hloc⟩:=hb;have SC:CompSc X.N (iZ sc) (fL st.N sc) X.env.scope sc:=by rw [G.N,G.S];exact lN hc
 obtain ⟨cl,ecl,hcl1,hcl2⟩:=gK (sc:=sc) (env:=X.env) fun y hy hf=>F.ok.has y.1 (SC.free y hy hf);rcases hr with ⟨rfl,rfl⟩ | ⟨rfl,j,p3,p2,rfl⟩
 all_goals
  refine wpAny_Call_Name_kw (bZ (u:=.builtin "sorted") F R b2 b3 (by decide +kernel) b1 ?_);refine callWith_kw (e:=a) (rest:=[]) ?_ (by show _=_;unfold backTo;rw [bU a hst.1];rfl) (by have:=dQ pos [] (by rfl) (X:=X);show _=_;unfold backTo;rw [bU a hst.1];rfl);refine thn (cG S G _ pos R F e1) fun us s1 ⟨M1,l1,R1,r1⟩=>?_;obtain ⟨wa,rfl⟩:∃ w,ws=[w]:=by
   rcases ws with _ | ⟨w,_ | ⟨_,_⟩⟩
   ·cases e
   ·exact ⟨w,rfl⟩
   ·cases e
  obtain ⟨u,rfl,ru⟩:=w1 r1
  change lZ _ (v.E (st.lam sc) body) (fL st.N sc) i0 (q.1++"<lambda>") q.2 wa δ h1=some (w,h') at e
  unfold lZ at e;split at e
  case h_2=>cases e
  rename_i xs ts ex eh;obtain ⟨ts',et,e⟩:=bind_some e;obtain ⟨⟨zs,h2⟩,ez,e⟩:=bind_some e;obtain ⟨rs,ek,e⟩:=map_some e;cases e;have F1:=F.go l1;refine kws_cons (thn (aJ1 (qs':=ts') R1 F1 T ec ecl rfl eh (by rw [LK.qual];exact et)) fun uf s2 ⟨f,cc,pm,ctv,M2,euf,l2,R2,ff,hf,hcz⟩=>?_);subst euf
  first | refine kws_cons (Constant_bool (kws_nil ?_)) | refine kws_nil ?_
  have F2:=F1.go l2;have ex2:ref (h1.set 0 (.t ts')) wa=some (.list xs):=by
   cases wa with
   | d y=>exact ex
   | c k =>
    dsimp only [DL.ref] at ex ⊢
    by_cases hk:k=0
    ·subst hk;rw [eh] at ex;cases ex
    ·rw [List.getElem?_set_ne (Ne.symm hk)];exact ex
  obtain ⟨l,vs,n,rfl,hl,hz,rv⟩:=dI R2 (ru.go l2) ex2;have hp:(iZ sc)[i0]?=some ar.arg:=by
   obtain ⟨z1,z2,_⟩:=List.findIdx?_eq_some_iff_getElem.mp ei;rw [List.getElem?_eq_getElem z1,eq_of_beq z2]
  have hi:(fL st.N sc)[i0]?=some none:=by
   unfold fL;rw [List.getElem?_map,hp];show some (if sc.names.lookup ar.arg=some NameKind.free then _ else _)=_;rw [hloc,if_neg (by decide)]
  refine thn (aK3 R2 ff hf hl rv ez ek fun {κ' M' h3 h4 s3 u x z} hκ l3 kf R3 r3 e3=>?_) fun _ _ q=>Pf.go (l1.trans l2) q;have FX:Fra X κ' M' δ:=(F2.go l3).kp fun b hb=>hκ b (F2.mine hb);have hf3:=(R3.k f true _ kf).1 rfl;obtain ⟨oc,vs',t,z1,z2,z3⟩:=hcz;exact aV6 (A:=X.A.in1.in1) (w:=.d x) (by have:=LK.dp;show X.A.depth < _;omega) FX.frs R3 FX SC hcl1 hcl2 hf3 ⟨cc,oc,vs',t,rfl,R3.z _ _ (l3.z _ _ z1),z2,z3⟩ (fun fd q1 q2 q3=>aK4 fd q1 q2 q3 u) hco hg hp hloc hi r3 (fun L=>S.E (aK5 (A:=X.A) G LK) body) e3
 end
end DL

namespace ST
open PySem PySem.Spec PyProof.Rows
def Ris (xs:Array Nat):Prop:=xs.toList.Pairwise (· < ·)
def Ris.lt {xs:Array Nat} (h:Ris xs) {i k:Nat} {a b:Nat} (hik:i < k) (ha:xs[i]?=some a) (hb:xs[k]?=some b):a < b:=by
 unfold Ris at h;rw [List.pairwise_iff_getElem] at h;rw [Array.getElem?_eq_some_iff] at ha hb;obtain ⟨h1,rfl⟩:=ha;obtain ⟨h2,rfl⟩:=hb;exact h i k (by simpa using h1) (by simpa using h2) hik
theorem qR {xs:Array Nat} {j:Nat} (hx:Ris xs):∀ (fuel lo hi:Nat),hi - lo<=fuel->lo<=hi->hi<=xs.size->(∀ i a,i < lo->xs[i]?=some a->a < j)->(∀ i a,hi<=i->xs[i]?=some a->j<=a) ->
  (∀ i a,i < SetTable.below.go xs j fuel lo hi->xs[i]?=some a->a < j)/\(∀ i a,SetTable.below.go xs j fuel lo hi<=i->xs[i]?=some a->j<=a)/\SetTable.below.go xs j fuel lo hi<=xs.size
 | 0,lo,hi,h1,h2,h3,h4,h5=>by
  have:lo=hi:=by omega
  subst this;exact ⟨h4,h5,h3⟩
 | fuel+1,lo,hi,h1,h2,h3,h4,h5=>by
  unfold SetTable.below.go;split
  ·rename_i hlt;have hm:(lo+hi) / 2 < xs.size:=by omega
   have em:xs[(lo+hi) / 2]?=some xs[(lo+hi) / 2]:=Array.getElem?_eq_getElem hm;have eg:xs.getD ((lo+hi) / 2) j=xs[(lo+hi) / 2]:=by simp [Array.getD,hm]
   dsimp only;rw [eg];split
   ·rename_i hj;refine qR hx fuel _ _ (by omega) (by omega) h3 (fun i a hi' ha=>?_) h5
    by_cases e:i=(lo+hi) / 2
    ·subst e;rw [em] at ha;cases ha;exact hj
    ·exact Nat.lt_trans (hx.lt (by omega) ha em) hj
   ·rename_i hj;refine qR hx fuel _ _ (by omega) (by omega) (by omega) h4 (fun i a hi' ha=>?_)
    by_cases e:i=(lo+hi) / 2
    ·subst e;rw [em] at ha;cases ha;omega
    ·have:=hx.lt (show (lo+hi) / 2 < i by omega) em ha;omega
  ·have:lo=hi:=by omega
   subst this;exact ⟨h4,h5,h3⟩
def mQ {xs:Array Nat} (hx:Ris xs) (j:Nat):(∀ i a,i < SetTable.below xs j->xs[i]?=some a->a < j)/\(∀ i a,SetTable.below xs j<=i->xs[i]?=some a->j<=a)/\SetTable.below xs j<=xs.size :=
 qR hx xs.size 0 xs.size (by omega) (by omega) (Nat.le_refl _) (fun i a h=>by omega) (fun i a h e=>by
  rw [Array.getElem?_eq_none (by omega)] at e;cases e)
noncomputable def gO (xs:Array Nat):Nat->Nat
 | 0=>0
 | i+1=>xs.getD i 0+1
def qS {xs:Array Nat} (hx:Ris xs) {i:Nat} (hi:i<=xs.size):SetTable.below xs (gO xs i)=i:=by
 obtain ⟨h1,h2,h3⟩:=mQ hx (gO xs i);generalize SetTable.below xs (gO xs i)=r at h1 h2 h3;cases i with
 | zero =>
  cases r with
  | zero=>rfl
  | succ r =>
   have:=h1 0 xs[0] (by omega) (Array.getElem?_eq_getElem (by omega));simp [gO] at this
 | succ i =>
  have ei:xs[i]?=some xs[i]:=Array.getElem?_eq_getElem (by omega);have es:gO xs (i+1)=xs[i]+1:=by simp [gO,Array.getD,show i < xs.size by omega]
  rw [es] at h1 h2;have a1:¬ r<=i:=fun z=>by have:=h2 i _ z ei;omega
  have a2:¬ i+1 < r:=fun z=>by
   have e2:xs[i+1]?=some xs[i+1]:=Array.getElem?_eq_getElem (by omega);have q1:=h1 (i+1) _ z e2;have q2:=hx.lt (show i < i+1 by omega) ei e2;omega
  omega
def vA {xs:Array Nat} (hx:Ris xs) {j:Nat} (hj:xs[SetTable.below xs j]?≠some j):Ris (SetTable.insertAt xs (SetTable.below xs j) j):=by
 obtain ⟨h1,h2,h3⟩:=mQ hx j;have e:(SetTable.insertAt xs (SetTable.below xs j) j).toList=xs.toList.take (SetTable.below xs j)++j::xs.toList.drop (SetTable.below xs j):=by
  simp [SetTable.insertAt,Array.toList_extract,List.extract_eq_take_drop,List.take_of_length_le]
 unfold Ris at hx ⊢;rw [e,List.pairwise_append,List.pairwise_cons];have mt:∀ a∈xs.toList.take (SetTable.below xs j),a < j:=fun a ha=>by
  obtain ⟨i,hi,ea⟩:=List.mem_iff_getElem.mp ha;rw [List.getElem_take] at ea;rw [List.length_take] at hi;refine h1 i a (by omega) ?_;rw [<- ea];exact Array.getElem?_eq_getElem (by simp at hi;omega)
 have md:∀ b∈xs.toList.drop (SetTable.below xs j),j < b:=fun b hb=>by
  obtain ⟨i,hi,eb⟩:=List.mem_iff_getElem.mp hb;rw [List.getElem_drop] at eb;rw [List.length_drop] at hi;have hlt:SetTable.below xs j+i < xs.size:=by simp at hi;omega
  have eg:xs[SetTable.below xs j+i]?=some b:=by rw [<- eb];exact Array.getElem?_eq_getElem hlt
  have q:=h2 _ b (by omega) eg;rcases Nat.lt_or_eq_of_le q with q | q
  ·exact q
  ·subst q;cases i with
   | zero=>exact absurd eg hj
   | succ i =>
    have e0:xs[SetTable.below xs j]?=some xs[SetTable.below xs j]:=Array.getElem?_eq_getElem (by omega);have:=Ris.lt hx (show SetTable.below xs j < SetTable.below xs j+(i+1) by omega) e0 eg;have q0:=h2 _ _ (Nat.le_refl _) e0;omega
 refine ⟨hx.sublist (List.take_sublist _ _),⟨md,hx.sublist (List.drop_sublist _ _)⟩,fun a ha b hb=>?_⟩;rcases List.mem_cons.mp hb with rfl | hb
 ·exact mt a ha
 ·exact Nat.lt_trans (mt a ha) (md b hb)
def aA8 (n:Nat):Ris (Array.range n):=by
 unfold Ris;rw [Array.toList_range];exact List.pairwise_lt_range
def free (t:SetTable) (j:Nat):Prop:=t.place[SetTable.below t.place j]?≠some j
def oZ {t:SetTable} {j:Nat} (h:∀ i,t.slot j≠.live i):free t j:=by
 intro e;unfold SetTable.slot at h;dsimp only at h;rw [e] at h;simp at h
theorem jC {t:SetTable} {f:Nat->Int} {h:Int}:∀ (fuel:Nat) (p:SetTable.Probe),(∀ d,p.dummy=some d->free t d)->∀ j d,SetTable.probe.go t f h fuel p=some (.empty j d)->free t j/\∀ d',d=some d'->free t d'
 | 0,p,hp,j,d,e=>by simp [SetTable.probe.go] at e
 | fuel+1,p,hp,j,d,e=>by
  unfold SetTable.probe.go at e;split at e
  ·rename_i es;cases e;exact ⟨oZ (fun i z=>by rw [es] at z;cases z),hp⟩
  ·rename_i es;refine jC fuel _ (fun d' ed=>?_) j d e;have:(t.advance { p with dummy:=some p.j }).dummy=some p.j:=by
    unfold SetTable.advance;split<;>rfl
   rw [this] at ed;cases ed;exact oZ fun i z=>by rw [es] at z;cases z
  ·split at e
   ·cases e
   ·refine jC fuel _ (fun d' ed=>hp d' ?_) j d e;have:(t.advance p).dummy=p.dummy:=by
     unfold SetTable.advance;split<;>rfl
    rw [<- this];exact ed
def oA {t:SetTable} {h:Int} {j:Nat} {b:Bool} (e:t.freeSlot h=some (j,b)):free t j:=by
 unfold SetTable.freeSlot at e;split at e
 ·rename_i j' d ep;cases e;obtain ⟨f1,f2⟩:=jC _ _ (fun d ed=>by simp [SetTable.probeStart] at ed) _ _ ep;cases d with
  | none=>exact f1
  | some d=>exact f2 d rfl
 ·cases e
def Good (by_:Bool) (t:SetTable):Prop:=Ris t.place/\(by_=false->t.led=true)
def eK {by_:Bool} {t:SetTable} (h:Good by_ t) (n:Nat):Good by_ (t.standIn n):=⟨aA8 n,h.2⟩
def sQ {by_:Bool} {t:SetTable} {es:Array (Int×Value)} {h:Int} {x:Value} (g:Good by_ t):Good by_ (layNew t es h x).2.1:=by
 unfold layNew;split
 ·rename_i slot wd e;dsimp only;have gp:Good by_ (t.put slot).1:=⟨vA g.1 (oA e),g.2⟩;unfold SetTable.orStandIn;split
  ·exact gp
  ·exact eK gp _
 ·exact eK g _
def aK6 {owner:Array (Option Nat)} (n:Nat):(((List.range n).filterMap fun j=>(owner.getD j none).map (j,·)).map (·.1)).Pairwise (· < ·):=by
 rw [List.pairwise_map];refine List.Pairwise.filterMap (R:=(· < ·)) _ (fun a a' hlt b hb b' hb'=>?_) (List.pairwise_lt_range (n:=n));obtain ⟨_,_,rfl⟩:=Option.map_eq_some_iff.mp hb;obtain ⟨_,_,rfl⟩:=Option.map_eq_some_iff.mp hb';exact hlt
def vB {by_:Bool} {t:SetTable} {es:Array (Int×Value)} {n:Nat} (g:Good by_ t):Good by_ (relayAll t es n).2.1:=by
 unfold relayAll;split
 ·rename_i t' order e;dsimp only;split
  ·unfold SetTable.relaid SetTable.laid at e;dsimp only at e;obtain ⟨owner,_,e2⟩:=Option.bind_eq_some_iff.mp e;cases e2;refine ⟨?_,g.2⟩;unfold Ris;exact aK6 _
  ·exact eK g _
 ·exact eK g _
theorem jD {α:Type}:∀ (l:List α) (i:Nat) (h:i < l.length),([l[i]]++l.eraseIdx i).Perm l
 | [],i,h=>by simp at h
 | x::l,0,h=>by simp
 | x::l,i+1,h=>by
  have:=jD l i (by simpa using h);simp only [List.getElem_cons_succ,List.eraseIdx_cons_succ];exact (List.Perm.swap _ _ _).trans (List.Perm.cons _ this)
theorem pA {α:Type} (next:Nat->Nat):∀ (fuel k:Nat) (left:List α) (out:Array α),left.length<=fuel->(pickOrder.go next fuel k left out).toList.Perm (out.toList++left)
 | 0,k,left,out,h=>by
  have:left=[]:=List.length_eq_zero_iff.mp (by omega);subst this;simp [pickOrder.go]
 | fuel+1,k,left,out,h=>by
  unfold pickOrder.go;cases left with
  | nil=>simp
  | cons y ys =>
   have hl:next k%(y::ys).length < (y::ys).length:=Nat.mod_lt _ (by simp);rw [List.getElem?_eq_getElem hl];dsimp only;refine (pA next fuel (k+1) _ _ (by rw [List.length_eraseIdx_of_lt hl];simp at h ⊢;omega)).trans ?_;rw [Array.toList_push,List.append_assoc];exact List.Perm.append_left _ (jD _ _ hl)
def mR {α:Type} (next:Nat->Nat) (xs:Array α):(pickOrder next xs).toList.Perm xs.toList:=by
 unfold pickOrder
 simpa using pA next xs.size 0 xs.toList #[] (by simp)
end ST

namespace ST
open PySem PySem.Spec PyProof.Rows
noncomputable def oB:Value->Int
 | .int k _=>k
 | _=>0
section
variable {prog:Program} {w:World} {A:Around} {E:Value->Shared->Prop} {s:Shared}
abbrev txt (w:World):Bool:=w.params.followText "set-order"
structure Parts (prog:Program) (w:World) (o:Obj) (es:Array (Int×Value)) (ep:Nat) (t:SetTable) (ks:List Int):Prop where
 ex:o.ExactSet
 dat:o.data=.set es ep t
 el:ElemsOf (intKind prog w) es.toList
 ks:(es.toList.map fun e=>oB e.2).Perm ks
 few:es.size < scanBound
 fit:t.fits es.size=true
 good:Good (txt w) t
def SetI (prog:Program) (w:World) (h:Heap) (a:Addr) (ks:List Int):Prop:=∃ o es ep t,h.get? a=some o/\Parts prog w o es ep t ks
def SetI.keep {h h':Heap} {a:Addr} {ks:List Int} (x:SetI prog w h a ks) (e:∀ o,h.get? a=some o->h'.get? a=some o):SetI prog w h' a ks :=
 let ⟨o,es,ep,t,ho,p⟩:=x;⟨o,es,ep,t,e o ho,p⟩
def vC {k:Int} {v:Value} (h:(intKind prog w).is k v=true):∃ t,v=.int k t:=Value.isInt_shape h
def vE {es:List (Int×Value)} (h:ElemsOf (intKind prog w) es) {e:Int×Value} (he:e∈es):∃ t,e.2=.int (oB e.2) t:=by
 obtain ⟨⟨k,hk,_⟩,_⟩:=h e he;obtain ⟨t,q⟩:=vC hk;exact ⟨t,by rw [q];rfl⟩
def aA9 {es:List (Int×Value)} (h:ElemsOf (intKind prog w) es) {k:Int} (hf:es.findIdx? (fun e=>(intKind prog w).is k e.2)=none):k∉es.map fun e=>oB e.2:=by
 intro z;obtain ⟨e,he,q⟩:=List.mem_map.mp z;obtain ⟨t,e2⟩:=vE h he;have:=List.findIdx?_eq_none_iff.mp hf e he;rw [e2,q] at this;rw [intKind_is] at this;cases this
def aB0 {es:List (Int×Value)} {k:Int} {j:Nat} (hf:es.findIdx? (fun e=>(intKind prog w).is k e.2)=some j):k∈es.map fun e=>oB e.2:=by
 obtain ⟨hj,hp,_⟩:=List.findIdx?_eq_some_iff_getElem.mp hf;obtain ⟨t,q⟩:=vC hp;exact List.mem_map.mpr ⟨es[j],List.getElem_mem hj,by rw [q];rfl⟩
def lA {a:Addr} {o:Obj} {es es':Array (Int×Value)} {ep:Nat} {t t':SetTable} {ks':List Int} {h:Heap} (ho:h.get? a=some o) (hd:o.data=.set es ep t) (hx:o.ExactSet)
  (p:Parts prog w { o with data:=.set es' (ep+1) t' } es' (ep+1) t' ks'):(h.update a (Obj.putSet es' t')).get? a=some { o with data:=.set es' (ep+1) t' } :=
 (SetOf_store (knd:=intKind prog w) (S':=fun k=>decide (k∈es'.toList.map fun e=>oB e.2)) ho hx hd p.el (fun k=>by
  rw [decide_eq_true_eq,List.mem_map];constructor
  ·rintro ⟨e,he,rfl⟩;obtain ⟨q,e2⟩:=vE p.el he;exact ⟨e,he,by rw [e2];exact intKind_is _ _ _ _⟩
  ·rintro ⟨e,he,q⟩;obtain ⟨tk,e2⟩:=vC q;exact ⟨e,he,by rw [e2];rfl⟩) p.few p.fit).1
def xJ {g:Bool->Sem Unit} (hg:∀ (b:Bool) (s₁:Shared) (Q':Unit->Shared->Prop),Q' () s₁->wpAny (model prog w) A (g b) Q' E s₁) {a:Addr} {o:Obj} {es es1:Array (Int×Value)} {ep:Nat} {t t2:SetTable} {ks':List Int}
  (ho:s.heap.get? a=some o) (hd:o.data=.set es ep t) (hx:o.ExactSet) (p:Parts prog w { o with data:=.set es1 (ep+1) t2 } es1 (ep+1) t2 ks') {wd:Bool} {R:Option Bool->Shared->Prop}
  (h:∀ h',Heap.SameBut a s.heap h'->SetI prog w h' a ks'->R (some true) { s with heap:=h' }) :
  wpAny (model prog w) A (do
   storeSet a es1 t2
   if (!wd&&t2.tooFull)=true then do
    g (relayAll t2 es1 (SetTable.grown es1.size)).2.2
    storeSet a (relayAll t2 es1 (SetTable.grown es1.size)).1 (relayAll t2 es1 (SetTable.grown es1.size)).2.1
    pure (some true)
   else pure (some true)) R E s:=by
 refine wpAny_bind (wpAny_storeSet_of ho hd ?_ (fits_of_scanBound p.few));have ho1:=lA ho hd hx p;have sb1:=Heap.SameBut.update s.heap a (Obj.putSet es1 t2);split
 ·have hp:=relayAll_perm t2 es1 (SetTable.grown es1.size);have hf:=relayAll_fits t2 es1 (SetTable.grown es1.size);have hgd:=vB (es:=es1) (n:=SetTable.grown es1.size) p.good;have hz:(relayAll t2 es1 (SetTable.grown es1.size)).1.size=es1.size:=by simpa using hp.length_eq
  have p2:Parts prog w { o with data:=.set (relayAll t2 es1 (SetTable.grown es1.size)).1 (ep+1+1) (relayAll t2 es1 (SetTable.grown es1.size)).2.1 } (relayAll t2 es1 (SetTable.grown es1.size)).1 (ep+1+1) (relayAll t2 es1 (SetTable.grown es1.size)).2.1 ks' :=
   ⟨hx,rfl,p.el.perm hp,(hp.map _).trans p.ks,by rw [hz];exact p.few,hf,hgd⟩
  refine wpAny_bind (hg _ _ _ (wpAny_bind (wpAny_storeSet_of ho1 rfl (wpAny_pure (h _ (sb1.trans (Heap.SameBut.update _ a _)) ⟨_,_,_,_,lA ho1 rfl hx p2,p2⟩)) (fits_of_scanBound p2.few))))
 ·exact wpAny_pure (h _ sb1 ⟨_,_,_,_,ho1,p⟩)
def xK {ks:List Int} {k:Int}:(ks.any (·==k))=decide (k∈ks):=by
 rw [Bool.eq_iff_iff,List.any_eq_true,decide_eq_true_eq];constructor
 ·rintro ⟨x,hx,e⟩;rw [<- eq_of_beq e];exact hx
 ·exact fun hx=>⟨k,hx,beq_self_eq_true k⟩
def bL2 {ks:List Int} {k:Int} (h:k∈ks):step_dedup ks k=ks:=by unfold step_dedup;rw [xK,if_pos (decide_eq_true h)]
def bL3 {ks:List Int} {k:Int} (h:k∉ks):step_dedup ks k=ks++[k]:=by unfold step_dedup;rw [xK,if_neg (by rw [decide_eq_true_eq];exact h)]
def add_int {a:Addr} {ks:List Int} {k:Int} {tk:Tok} {Q:Bool->Shared->Prop} (hS:SetI prog w s.heap a ks) (room:ks.length+1 < scanBound)
  (h:∀ b h',Heap.SameBut a s.heap h'->SetI prog w h' a (step_dedup ks k)->Q b { s with heap:=h' }):wpAny (model prog w) A (setAddHashed a (.int k tk) ((intKind prog w).hash k)) Q E s:=by
 obtain ⟨o,es,ep,t,ho,p⟩:=hS;have hk:(intKind prog w).is k (.int k tk)=true:=intKind_is _ _ _ _;have hsz:es.size=ks.length:=by have:=p.ks.length_eq;simpa using this
 unfold setAddHashed setAddHashedIn;refine wpAny_holding (wpAny_bind (wpAny_setState_of ho p.dat p.fit ?_));dsimp only;rw [byScan_of (x:=.int k tk) rfl p.few p.el];simp only [if_true];unfold setAddByScan;refine wpAny_bind (wpAny_bind (wpAny_rule (wpAny_bind (wpAny_setScan_of hk ho p.dat p.fit p.el ?_))));cases hr:List.findIdx? (fun e=>(intKind prog w).is k e.2) es.toList with
 | some j =>
  have hm:k∈ks:=p.ks.mem_iff.mp (aB0 hr);refine wpAny_pure (wpAny_pure ?_);have q:=h false s.heap (Heap.SameBut.refl a _) (by rw [bL2 hm];exact ⟨o,es,ep,t,ho,p⟩);cases s;exact q
 | none =>
  have hm:k∉ks:=fun z=>aA9 p.el hr (p.ks.mem_iff.mpr z);dsimp only;have gw:∀ (b:Bool) {s₁:Shared} {Q':Unit->Shared->Prop},Q' () s₁->wpAny (model prog w) A (match b with | true=>rule "set.scan.the-table-gave-way" | false=>pure ()) Q' E s₁:=fun b s₁ Q' q=>by
   cases b
   ·exact wpAny_pure q
   ·exact wpAny_rule q
  have lp:=layNew_perm t es ((intKind prog w).hash k) (.int k tk);have lf:=layNew_fits t es ((intKind prog w).hash k) (.int k tk);have lg:Good (txt w) (layNew t es ((intKind prog w).hash k) (.int k tk)).2.1:=sQ p.good;generalize layNew t es ((intKind prog w).hash k) (.int k tk)=L at lp lf lg;obtain ⟨es1,t1,wd,gv⟩:=L;dsimp only at lp lf lg ⊢;rw [Array.toList_push] at lp;have z1:es1.size=ks.length+1:=by have:=lp.length_eq;simp at this;omega
  have mk:∀ t2:SetTable,t2.fits es1.size=true->Good (txt w) t2->Parts prog w { o with data:=.set es1 (ep+1) t2 } es1 (ep+1) t2 (step_dedup ks k):=fun t2 f2 g2 =>
   ⟨p.ex,rfl,(p.el.push hk rfl).perm lp,by
    rw [bL3 hm];refine (lp.map _).trans ?_;rw [List.map_append];exact p.ks.append (List.Perm.refl _),by omega,f2,g2⟩
  refine wpAny_bind (gw _ ?_);have fin:∀ h',Heap.SameBut a s.heap h'->SetI prog w h' a (step_dedup ks k)->wpAny (model prog w) A (pure true) (fun b s'=>Q b s') E { s with heap:=h' }:=fun h' b c=>wpAny_pure (h true h' b c);split
  ·refine wpAny_bind ?_;rw [hashByValue_scannable 8 (x:=.int k tk) rfl];refine wpAny_pure (xJ (fun b s₁ Q' q=>?_) ho p.dat p.ex (mk _ ?_ ?_) fun h' b c=>wpAny_pure (h _ h' b c))
   ·cases b
    ·exact wpAny_pure q
    ·exact wpAny_rule q
   ·split
    ·exact lf
    ·exact SetTable.fits_plain_off lf
   ·split
    ·exact lg
    ·exact lg
  ·refine wpAny_bind (wpAny_pure ?_);simp only [if_true];refine xJ (fun b s₁ Q' q=>?_) ho p.dat p.ex (mk _ lf lg) fun h' b c=>wpAny_pure (h _ h' b c);cases b
   ·exact wpAny_pure q
   ·exact wpAny_rule q
end
end ST

namespace ST
open PySem PySem.Spec PyProof.Rows
section
variable {prog:Program} {w:World} {A:Around} {E:Value->Shared->Prop} {s:Shared} {R:Result->Shared->Prop}
def aK7 {I:Addr} {fp wr:List Addr} {n:Nat} {P:Nat->Value->Prop} {St:Nat->Heap->Prop} (W:Walks prog w A.in1 I fp wr n P St) (S:Addr) (hS:S∉fp) (val:Nat->Int) (hval:∀ i v,P i v->∃ t,v=.int (val i) t) (hb:n+1 < scanBound) :
  ∀ (k i:Nat) (s:Shared),n - i=k->i<=n->St i s.heap->SetI prog w s.heap S (firstMet val i) ->
   (∀ h' tk,SetI prog w h' S (firstMet val n)->(∀ b o,b≠S->b∉wr->s.heap.get? b=some o->h'.get? b=some o)->R (.ok (.ret .none)) { s with heap:=h',toks:=tk }) ->
   codeAny (model prog w) A (.builtin "set.update.loop" ⟨[.ref S,.ref I],[]⟩) R s:=by
 have hw:S∉wr:=fun z=>hS (W.sub _ z);intro k;induction k with
 | zero =>
  intro i s hk hi st si hR;have e:i=n:=by omega
  subst e;refine codeAny_builtin F.entry_set_update_loop ?_;rw [Around.under_plainId F.plain_set_update_loop _];refine wpAny_bind (W.done s _ _ st fun h' tk hm=>wpAny_pure ?_);exact hR h' tk (si.keep fun o e=>hm S o hw e) fun b o _ hb e=>hm b o hb e
 | succ k ih =>
  intro i s hk hi st si hR;have hlt:i < n:=by omega
  refine codeAny_builtin F.entry_set_update_loop ?_;rw [Around.under_plainId F.plain_set_update_loop _];refine wpAny_bind (W.item i s _ _ hlt st fun v h1 tk1 hP st1 hm=>?_);obtain ⟨t,rfl⟩:=hval i v hP;have s1:SetI prog w h1 S (firstMet val i):=si.keep fun o e=>hm S o hw e;have fl:=firstMet_length_le val i;refine wpAny_bind (wpAny_holding ?_);unfold setAdd;refine wpAny_holding (wpAny_bind ((intKind prog w).pyHash (k:=val i) (intKind_is _ _ _ _) ?_));refine add_int (s:={ s with heap:=h1,toks:=tk1+1 }) s1 (by omega) fun b h2 sb s2=>?_;rw [<- firstMet_succ] at s2;refine wpAny_pure ⟨plainId_quiet F.plain_set_update_loop _,ih (i+1) _ (by omega) hlt (W.frame _ h1 _ st1 fun c hc o e=>?_) s2 fun h3 tk3 s3 k3=>hR h3 tk3 s3 fun c o n1 n2 e=>k3 c o n1 n2 ?_⟩
  ·rw [sb.2 c (fun z=>hS (by rw [<- z];exact hc))];exact e
  ·show h2.get? c=some o;rw [sb.2 c n1];exact hm c o n2 e
abbrev iR (w:World):Obj:={ cls:=.type "set",dict:=none,data:=.set #[] 0 (.fresh 0 0 (!txt w)) }
def aB1:Parts prog w (iR w) #[] 0 (.fresh 0 0 (!txt w)) [] where
 ex:=⟨rfl,rfl,rfl⟩
 dat:=rfl
 el:=fun e he=>by simp at he
 ks:=by simp
 few:=by decide
 fit:=rfl
 good:=⟨by simp [Ris,SetTable.fresh],fun e=>by rw [e];rfl⟩
def aK8 (a:Value) {Q₁:Value->Shared->Prop} (h:Q₁ (.ref s.heap.objs.size) { s with heap:=s.heap.push (iR w) }) :
  codeAny (model prog w) A (.call (.builtin "set.__new__") ⟨[.type "set",a],[]⟩) (wants Q₁ E) s:=by
 refine codeAny_of_tree ?_;show wpAny _ _ (checkBuiltinCall "set.__new__" ⟨[.type "set",a],[]⟩ >>= fun _=>again (.builtin "set.__new__" ⟨[.type "set",a],[]⟩)) _ _ s;refine wpAny_bind (wpAny_of_eq (PySem.F.newCall_set_1 a) (wpAny_pure ⟨plainId_quiet PySem.F.plain_set_new _,codeAny_builtin PySem.F.entry_set_new ?_⟩));rw [Around.under_plainId PySem.F.plain_set_new _];have sub:=sub_set_self;unfold Builtin.«set.__new__» Builtin.Frozenset.newClass;obtain ⟨hp,g,d,tk,os⟩:=s;dsimp only
 wp_walk
 refine wpAny_askSetting (wpAny_pure ?_);dsimp only;simp only [newObj];exact wpAny_bind (wpAny_alloc (wpAny_pure (wpAny_pure h)))
def vF (ns:List Int):(List.range ns.length).map (fun i=>ns.getD i 0)=ns:=by
 apply List.ext_getElem
 ·simp
 ·intro i h1 h2;simp [h2]
def vG (ns:List Int):firstMet (fun i=>ns.getD i 0) ns.length=dd ns:=by
 unfold firstMet dd;rw [vF]
def fM {b:Bool} {l:Addr} {items:Array Value} {ns:List Int} {Q:Value->Shared->Prop} (hh:A.handled=none) (hl:SqAt b s.heap l items) (hi:IntsAre items.toList ns) (hb:items.size+1 < scanBound)
  (h:∀ h' tk,SetI prog w h' s.heap.objs.size (dd ns)->(∀ b o,s.heap.get? b=some o->h'.get? b=some o)->Q (.ref s.heap.objs.size) { s with heap:=h',toks:=tk }) :
  wpAny (model prog w) A (call (.type "set") [.ref l]) Q E s:=by
 have hnz:ns.length=items.size:=by have:=IntsAre.length hi;simpa using this.symm
 obtain ⟨c,tl,mro⟩:=PySem.F.called_set.mro;have made:=PySem.F.called_set.made;have sub:=PySem.F.called_set.sub;refine wpAny_call (codeAny_of_tree (wpAny_pure ⟨Code.quiet_builtin _ (by decide +kernel),codeAny_builtin PySem.F.entry_type_call ?_⟩));rw [Around.under_plain (weight_type_call_type "set" [.ref l] []) rfl];have h1:=PySem.F.called_set.notType;have h2:=PySem.F.called_set.canCreate;have h3:=PySem.F.typeCall_set_1 (.ref l)
 repeat (any_goals (first | assumption | wp_step))
 refine codeAny_mono (aK8 (.ref l) (E:=E) (Q₁:=fun obj s₁=>obj=.ref s.heap.objs.size/\s₁={ s with heap:=s.heap.push (iR w) }) ⟨rfl,rfl⟩) fun r s₁ hr=>?_;cases r with
 | error e=>exact hr
 | ok fl =>
  cases fl with
  | ret obj =>
   obtain ⟨rfl,rfl⟩:=hr;have gS:(s.heap.push (iR w)).get? s.heap.objs.size=some (iR w):=Heap.get?_push_size _ rfl;have hT:Shared.TypeIs { s with heap:=s.heap.push (iR w) } (.ref s.heap.objs.size) "set":=⟨_,gS,rfl⟩;have look:=PySem.F.called_set.init.lookup;have bnd:=PySem.F.called_set.init.bind (.ref s.heap.objs.size)
   repeat (any_goals (first | assumption | wp_step))
   refine codeAny_mono (codeAny_call_builtin (R:=wants (fun r s₂=>r=.none/\∃ h' tk,s₂={ s with heap:=h',toks:=tk }/\SetI prog w h' s.heap.objs.size (dd ns)/\(∀ b o,s.heap.get? b=some o->h'.get? b=some o)) E)
    PySem.F.called_set.init.plain PySem.F.entry_set_init (check_set_init_1 hT ?_)) fun r₂ s₂ hr₂=>?_
   ·obtain ⟨cc,⟨⟨oc,od,odt,osl⟩,hol,hcl⟩,f1,f2,f3⟩:∃ cc,(∃ ol,s.heap.get? l=some ol/\ol.cls=.type cc)/\isSubtype (.type cc) (.type "set")=pure false/\isSubtype (.type cc) (.type "frozenset")=pure false/\(Value.type cc==Value.type "dict")=false:=by
     cases b
     ·obtain ⟨ol,hol,hcl,_⟩:=hl;exact ⟨_,⟨ol,hol,hcl⟩,PySem.F.sub_list_set,PySem.F.sub_list_frozenset,by decide⟩
     ·obtain ⟨ol,hol,hcl,_⟩:=hl;exact ⟨_,⟨ol,hol,hcl⟩,PySem.F.sub_tuple_set,PySem.F.sub_tuple_frozenset,by decide⟩
    dsimp only at hcl;subst hcl;have hol2:(s.heap.push (iR w)).get? l=some { cls:=.type cc,dict:=od,data:=odt,slots:=osl }:=Heap.get?_push_of_some _ hol;have il:SqAt b (s.heap.push (iR w)) l items:=hl.keep fun o e=>Heap.get?_push_of_some _ e;unfold Builtin.«set.__init__» noKeywords Builtin.Frozenset.updateFrom;generalize hPI:pyIter=PI
    wp_walk
    subst hPI;refine eP il (wpAny_bind (wpAny_runValue ?_));have lt:l < s.heap.objs.size:=Heap.lt_size hol;have sz:(s.heap.push (iR w)).objs.size=s.heap.objs.size+1:=by rw [Heap.size_push]
    have hne:l≠(s.heap.push (iR w)).objs.size:=by rw [sz];exact Nat.ne_of_lt (Nat.lt_succ_of_lt lt)
    have hSf:s.heap.objs.size∉[(s.heap.push (iR w)).objs.size,l]:=by
     rw [sz];simp only [List.mem_cons,List.not_mem_nil,or_false,not_or];exact ⟨Nat.ne_of_lt (Nat.lt_succ_self _),Nat.ne_of_gt lt⟩
    obtain ⟨P,St,W,st0,hP⟩:∃ P St,Walks prog w A.in1.in1.in1 (s.heap.push (iR w)).objs.size [(s.heap.push (iR w)).objs.size,l] [(s.heap.push (iR w)).objs.size] items.size P St/\St 0 ((s.heap.push (iR w)).push (jO b l))/\∀ i v,P i v->items[i]?=some v:=by
     have il2:SqAt b ((s.heap.push (iR w)).push (jO b l)) l items:=il.keep fun o e=>Heap.get?_push_of_some _ e;cases b
     ·exact ⟨_,_,Walks.list (by simp [hh]) _ l hne items,⟨⟨_,Heap.get?_push_size _ rfl,rfl,rfl⟩,il2⟩,fun _ _ e=>e⟩
     ·exact ⟨_,_,Walks.tuple (by simp [hh]) _ l hne items,⟨⟨_,Heap.get?_push_size _ rfl,rfl,rfl⟩,il2⟩,fun _ _ e=>e⟩
    refine aK7 W s.heap.objs.size hSf (fun i=>ns.getD i 0) (fun i v hv=>IntsAre.int_at hi i v (by rw [Array.getElem?_toList];exact hP i v hv)) hb (items.size - 0) 0 _ rfl (Nat.zero_le _)
     st0 ⟨_,_,_,_,Heap.get?_push_of_some _ gS,aB1⟩ fun h' tk si kp=>?_
    rw [<- hnz,vG] at si;refine wpAny_pure (wpAny_pure ⟨rfl,h',tk,rfl,si,fun b o e=>?_⟩);have bl:b < s.heap.objs.size:=Heap.lt_size e;refine kp b o (Nat.ne_of_lt bl) ?_ (Heap.get?_push_of_some _ (Heap.get?_push_of_some _ e));simp only [List.mem_singleton];rw [sz];exact Nat.ne_of_lt (Nat.lt_succ_of_lt bl)
   ·cases r₂ with
    | error e=>exact hr₂
    | ok fl₂ =>
     cases fl₂ with
     | ret r =>
      obtain ⟨rfl,h',tk,rfl,si,kp⟩:=hr₂
      repeat (any_goals (first | assumption | wp_step))
      exact h _ _ si kp
     | _=>exact hr₂.elim
  | _=>exact hr.elim
end
end ST

namespace ST
open PySem PySem.Spec PyProof.Rows
def sl_next:Slot "set_iterator" "__next__" "set_iterator.__next__" :=
 .of (owner:="set_iterator") (n:="__next__") (by rw [typeLookup_type,builtinLookup_eq_fast];kernel_rfl) (by decide +kernel) (by decide +kernel) (by decide +kernel) (by first | exact .inl (by decide +kernel) | exact .inr (by decide +kernel)) (by rw [isSubtype_type];kernel_rfl)
def aW3:entryFor table "set_iterator.__next__"=some Builtin.«set_iterator.__next__»:=entryFor_of_tree (by kernel_rfl)
def xL:Manifest.owners.lookup (String.ofList ['r','o','t','a','r','e','t','i','_','t','e','s'].reverse)=some Manifest.sig_set_iterator:=by kernel_rfl
def aW4 (a:Value):argsOk "set_iterator.__next__" ⟨[a],[]⟩:=by
 unfold argsOk;rw [signature?_of (id:="set_iterator.__next__") (n:=['_','_','t','x','e','n','_','_']) (o:=['r','o','t','a','r','e','t','i','_','t','e','s']) (by kernel_rfl) xL]
 kernel_rfl
def aW5:entryFor table "set.__iter__"=some Builtin.«frozenset.__iter__»:=entryFor_alias (id':="frozenset.__iter__") (by kernel_rfl) (by decide +kernel) (by decide +kernel) (by kernel_rfl)
abbrev itO (f:Value) (i:Nat) (a:Value) (n ep:Nat):Obj:={ cls:=.type "set_iterator",dict:=none,data:=.fields #[f,.int i 0,a,.int n 0,.int ep 0],slots:=#[] }
section
variable {prog:Program} {w:World} {A:Around} {E:Value->Shared->Prop} {s:Shared} {o:Obj} {es:Array (Int×Value)} {ep:Nat} {t:SetTable} {ks:List Int} {a:Addr}
def iD (ho:s.heap.get? a=some o) (p:Parts prog w o es ep t ks) {Q:(Array (Int×Value)×Nat×SetTable)->Shared->Prop} (h:Q (es,ep,t) s):wpAny (model prog w) A (setState a) Q E s:=wpAny_setState_of ho p.dat p.fit h
def qT {Q:Bool->Shared->Prop} (h:Q (txt w) s):wpAny (model prog w) A setsByText Q E s:=by
 unfold setsByText;exact wpAny_bind (wpAny_askSetting (wpAny_pure h))
noncomputable def vH (w:World) (es:Array (Int×Value)) (t:SetTable):Bool:=!txt w&&(!t.plain&&decide (es.size > 1))
def aK9 (ho:s.heap.get? a=some o) (p:Parts prog w o es ep t ks) {Q:Bool->Shared->Prop} (h:Q (vH w es t) s):wpAny (model prog w) A (setDrawn a) Q E s:=by
 unfold setDrawn;refine wpAny_bind (iD ho p (wpAny_bind (qT (wpAny_pure h))))
def aW6 (ho:s.heap.get? a=some o) (p:Parts prog w o es ep t ks) (ht:txt w=true) {Q:Array (Int×Value)->Shared->Prop} (h:Q (pickOrder (w.params.setOrder a ep) es) s):wpAny (model prog w) A (setWalk a) Q E s:=by
 unfold setWalk;refine wpAny_bind (iD ho p (wpAny_bind (qT ?_)));rw [ht,if_pos rfl];exact wpAny_bind (wpAny_askSetting (wpAny_pure h))
noncomputable def ord (w:World) (a:Addr) (ep:Nat) (es:Array (Int×Value)):Array (Int×Value):=if txt w=true then pickOrder (w.params.setOrder a ep) es else es
def slt (w:World) (t:SetTable) (i:Nat):Nat:=if txt w=true then 0 else gO t.place i
def xM (ho:s.heap.get? a=some o) (p:Parts prog w o es ep t ks) (hd:vH w es t=false) {i:Nat} (hi:i<=es.size) {Q:Option (Value×Nat)->Shared->Prop}
  (h:Q ((ord w a ep es)[i]?.map fun e=>(e.2,slt w t (i+1))) s):wpAny (model prog w) A (setNext a (slt w t i) i ep) Q E s:=by
 unfold setNext;refine wpAny_bind (iD ho p (wpAny_bind (qT ?_)));unfold ord slt at *;cases ht:txt w with
 | true =>
  simp only [ht,if_true] at h ⊢;rw [if_neg (by simp)];exact wpAny_bind (aW6 ho p ht (wpAny_pure h))
 | false =>
  simp only [ht,Bool.false_eq_true,if_false] at h ⊢;have hd':(!t.plain&&decide (es.size > 1))=false:=by unfold vH at hd;rw [ht] at hd;exact hd
  have led:t.led=true:=p.good.2 ht;have psz:t.place.size=es.size:=by
   have f:=p.fit;unfold SetTable.fits at f;rw [Bool.and_eq_true] at f;exact eq_of_beq f.1
  refine wpAny_ite_split (fun z=>?_) fun _=>wpAny_bind (wpAny_ite_split (fun z=>?_) fun _=>wpAny_pure ?_)
  ·have z':(!t.plain&&decide (es.size > 1))=true:=z;rw [hd'] at z';cases z'
  ·have z':(!t.led&&!es.isEmpty)=true:=z;rw [led] at z';cases z'
  rw [qS p.good.1 (by omega)];refine wpAny_pure ?_
  by_cases hlt:i < es.size
  ·rw [Array.getElem?_eq_getElem hlt] at h ⊢;rw [Array.getElem?_eq_getElem (show i < t.place.size by omega)];have e1:gO t.place (i+1)=t.place[i]+1:=by simp [gO,Array.getD,show i < t.place.size by omega]
   rw [e1] at h;exact h
  ·rw [Array.getElem?_eq_none (by omega)] at h ⊢;exact h
def ord_perm:(ord w a ep es).toList.Perm es.toList:=by
 unfold ord;split
 ·exact mR _ _
 ·exact List.Perm.refl _
def aL0 (ho:s.heap.get? a=some o) (p:Parts prog w o es ep t ks) {Q:Array (Int×Value)->Shared->Prop} (h:Q es s):wpAny (model prog w) A (setEntries a) Q E s:=by
 unfold setEntries;exact wpAny_bind (iD ho p (wpAny_pure h))
def xN {P:PySem.Fin->Shared->Prop} {Q:Option Value->Shared->Prop} (hh:A.handled=none) (h:∀ h',(∀ b o,s.heap.get? b=some o->h'.get? b=some o)->Q none { s with heap:=h' }) :
  wpAny (model prog w) A.in1 (do let e <- newExc (Value.type "StopIteration") [];raiseNew e) P (fun e s'=>wpAny (model prog w) A (do
   let b <- isInstance e (Value.type "StopIteration")
   if b=true then pure none else throw e) Q E s') s:=by
 simp only [newExc,newTuple];refine wpAny_bind (wpAny_bind (wpAny_newObj_type (wpAny_bind (m:=firstArgMember _ _) (wpAny_of_eq (a:=Value.none) (by first | rfl | (simp only [firstArgMember];rfl)) (wpAny_newObj_type ?_ (by size_fits)))) (by size_fits)));simp only [raiseNew];refine wpAny_bind (wpAny_handled ?_);rw [show A.in1.handled=none from hh];refine wpAny_bind (wpAny_pure (wpAny_throw ?_));refine wpAny_bind (wpAny_isInstance (T:="StopIteration") (b:=true) ⟨_,Heap.get?_push_size _ rfl,rfl⟩ isSubtype_stop (wpAny_pure ?_));exact h _ fun b o e=>Heap.get?_push_of_some _ (Heap.get?_push_of_some _ e)
def lO {it:Addr} {f:Value} {i:Nat} {Q:Option Value->Shared->Prop} (hit:s.heap.get? it=some (itO f i (.ref a) es.size ep)) (ho:s.heap.get? a=some o) (p:Parts prog w o es ep t ks)
  (h:wpAny (model prog w) A.in1 (match f with
   | Value.int slot tok=>do
    let r <- setNext a slot.toNat i ep
    match r with
     | some (x,next)=>do
      setField (Value.ref it) 0 (rawInt next)
      setField (Value.ref it) 1 (rawInt ((i:Int)+1))
      ret x
     | none=>do
      setField (Value.ref it) 2 Value.none
      let e <- newExc (Value.type "StopIteration") []
      raiseNew e
   | x=>do
    let r <- seqItems? f
    match r with
     | some places =>
      match places[i]? with
      | some (Value.int place tok)=>do
       let x <- setNextDrawn a place.toNat ep
       setField (Value.ref it) 1 (rawInt ((i:Int)+1))
       ret x
      | some val=>unsupported "internal:set_iterator"
      | none=>do
       setField (Value.ref it) 0 (rawInt 0)
       setField (Value.ref it) 2 Value.none
       let e <- newExc (Value.type "StopIteration") []
       raiseNew e
     | x=>unsupported "internal:set_iterator")
   (fun fin s'=>∃ v,fin=PySem.Fin.done (Flow.ret v)/\wpAny (model prog w) A (pure (some v)) Q E s')
   (fun e s'=>wpAny (model prog w) A (do
    let b <- isInstance e (Value.type "StopIteration")
    if b=true then pure none else throw e) Q E s') s):wpAny (model prog w) A (pyNext (.ref it)) Q E s:=by
 have hT:s.TypeIs (.ref it) "set_iterator":=⟨_,hit,rfl⟩;unfold pyNext;refine wpAny_bind (wpAny_attempt (wpAny_callSpecial?_slot (name:=Str.ofString "__next__") hT sl_next (wpAny_call_entry sl_next hT aW3 ?_ (aW4 _))));unfold Builtin.«set_iterator.__next__»;refine wpAny_bind (wpAny_pure (wpAny_bind (wpAny_fieldsOf hit rfl ?_)));dsimp only;refine wpAny_bind (aL0 ho p ?_);rw [if_neg (by simp)];exact h
def bX4 (k:Nat):rawInt ((k:Int)+1)=.int ((k+1:Nat):Int) 0:=by
 rw [show ((k+1:Nat):Int)=(k:Int)+1 by omega];rfl
def aL1 {it:Addr} {i:Nat} {e:Int×Value} {Q:Option Value->Shared->Prop} (hd:vH w es t=false) (hia:a≠it) (hit:s.heap.get? it=some (itO (.int (slt w t i) 0) i (.ref a) es.size ep)) (ho:s.heap.get? a=some o) (p:Parts prog w o es ep t ks)
  (hi:(ord w a ep es)[i]?=some e) (hQ:∀ h',h'.get? it=some (itO (.int (slt w t (i+1)) 0) (i+1) (.ref a) es.size ep)->(∀ b o,b≠it->s.heap.get? b=some o->h'.get? b=some o)->Q (some e.2) { s with heap:=h' }) :
  wpAny (model prog w) A (pyNext (.ref it)) Q E s:=by
 have hz:i < es.size:=by
  have:=ord_perm (w:=w) (a:=a) (ep:=ep) (es:=es) |>.length_eq
  have h2:=(Array.getElem?_eq_some_iff.mp hi).1;simp at this;omega
 refine lO hit ho p (wpAny_bind ?_);rw [Int.toNat_natCast];refine xM ho p hd (by omega) ?_;rw [hi];refine wpAny_bind (wpAny_setField_rec hit (by simp) fun h1 e1 s1=>wpAny_bind (wpAny_setField_rec (s:={ s with heap:=h1 }) e1 (by simp) fun h2 e2 s2=>wpAny_pure ⟨_,rfl,wpAny_pure (hQ h2 ?_ fun b o hb q=>s2.extBut b o hb (s1.extBut b o hb q))⟩));rw [bX4] at e2;exact e2
def aW7 {it:Addr} {Q:Option Value->Shared->Prop} (hh:A.handled=none) (hd:vH w es t=false) (hit:s.heap.get? it=some (itO (.int (slt w t es.size) 0) es.size (.ref a) es.size ep)) (ho:s.heap.get? a=some o) (p:Parts prog w o es ep t ks)
  (hQ:∀ h',(∀ b o,b≠it->s.heap.get? b=some o->h'.get? b=some o)->Q none { s with heap:=h' }):wpAny (model prog w) A (pyNext (.ref it)) Q E s:=by
 have hz:(ord w a ep es)[es.size]?=none:=by
  have:=ord_perm (w:=w) (a:=a) (ep:=ep) (es:=es) |>.length_eq
  simp at this;exact Array.getElem?_eq_none (by omega)
 refine lO hit ho p (wpAny_bind ?_);rw [Int.toNat_natCast];refine xM ho p hd (Nat.le_refl _) ?_;rw [hz];exact wpAny_bind (wpAny_setField_rec hit (by simp) fun h1 e1 s1=>xN (s:={ s with heap:=h1 }) hh fun h2 k2=>hQ h2 fun b o hb q=>k2 b o (s1.extBut b o hb q))
def aL2 {it T:Addr} {ps:List Nat} {oT:Obj} {nT:Nat} {i j:Nat} {e:Int×Value} {Q:Option Value->Shared->Prop} (hia:a≠it) (hiT:T≠it) (hit:s.heap.get? it=some (itO (.ref T) i (.ref a) es.size ep)) (hT:s.heap.get? T=some oT) (hTd:oT.data=.seq (ps.map fun (x:Nat)=>rawInt x).toArray nT) (hTc:oT.cls=.type "tuple")
  (ho:s.heap.get? a=some o) (p:Parts prog w o es ep t ks) (hj:ps[i]?=some j) (he:es[j]?=some e)
  (hQ:∀ h',h'.get? it=some (itO (.ref T) (i+1) (.ref a) es.size ep)->(∀ b o,b≠it->s.heap.get? b=some o->h'.get? b=some o)->Q (some e.2) { s with heap:=h' }) :
  wpAny (model prog w) A (pyNext (.ref it)) Q E s:=by
 refine lO hit ho p ?_;dsimp only;refine wpAny_bind ?_;unfold seqItems?;dsimp only;refine wpAny_bind (wpAny_load hT ?_);rw [hTd];refine wpAny_pure ?_;dsimp only;rw [show ((ps.map fun (x:Nat)=>rawInt x).toArray)[i]?=some (Value.int j 0) by simp [hj,rawInt]];dsimp only;refine wpAny_bind ?_;unfold setNextDrawn;refine wpAny_bind (iD ho p ?_);dsimp only;rw [if_neg (by simp),Int.toNat_natCast,he];refine wpAny_pure (wpAny_bind (wpAny_setField_rec hit (by simp) fun h1 e1 s1=>wpAny_pure ⟨_,rfl,wpAny_pure (hQ h1 ?_ fun b o hb q=>s1.extBut b o hb q)⟩));rw [bX4] at e1;exact e1
def aW8 {it T:Addr} {ps:List Nat} {oT:Obj} {nT:Nat} {Q:Option Value->Shared->Prop} (hh:A.handled=none) (hl:ps.length=es.size) (hit:s.heap.get? it=some (itO (.ref T) es.size (.ref a) es.size ep)) (hT:s.heap.get? T=some oT) (hTd:oT.data=.seq (ps.map fun (x:Nat)=>rawInt x).toArray nT) (hTc:oT.cls=.type "tuple")
  (ho:s.heap.get? a=some o) (p:Parts prog w o es ep t ks) (hQ:∀ h',(∀ b o,b≠it->s.heap.get? b=some o->h'.get? b=some o)->Q none { s with heap:=h' }):wpAny (model prog w) A (pyNext (.ref it)) Q E s:=by
 refine lO hit ho p ?_;dsimp only;refine wpAny_bind ?_;unfold seqItems?;dsimp only;refine wpAny_bind (wpAny_load hT ?_);rw [hTd];refine wpAny_pure ?_;dsimp only;rw [show ((ps.map fun (x:Nat)=>rawInt x).toArray)[es.size]?=none by simp [hl]];exact wpAny_bind (wpAny_setField_rec hit (by simp) fun h1 e1 s1=>wpAny_bind (wpAny_setField_rec (s:={ s with heap:=h1 }) e1 (by simp) fun h2 e2 s2=>xN (s:={ s with heap:=h2 }) hh fun h3 k3=>hQ h3 fun b o hb q=>k3 b o (s2.extBut b o hb (s1.extBut b o hb q))))
end
end ST

namespace ST
open PySem PySem.Spec PyProof.Rows
def xO:Slot "set_iterator" "__iter__" "set_iterator.__iter__" :=
 .of (owner:="set_iterator") (n:="__iter__") (by rw [typeLookup_type,builtinLookup_eq_fast];kernel_rfl) (by decide +kernel) (by decide +kernel) (by decide +kernel) (by first | exact .inl (by decide +kernel) | exact .inr (by decide +kernel)) (by rw [isSubtype_type];kernel_rfl)
def aW9:entryFor table "set_iterator.__iter__"=some Builtin.«dict_keyiterator.__iter__»:=entryFor_alias (id':="dict_keyiterator.__iter__") (by kernel_rfl) (by decide +kernel) (by decide +kernel) (by kernel_rfl)
def aX0 (a:Value):argsOk "set_iterator.__iter__" ⟨[a],[]⟩:=by
 unfold argsOk;rw [signature?_of (id:="set_iterator.__iter__") (n:=['_','_','r','e','t','i','_','_']) (o:=['r','o','t','a','r','e','t','i','_','t','e','s']) (by kernel_rfl) xL]
 kernel_rfl
section
variable {prog:Program} {w:World} {A:Around} {E:Value->Shared->Prop} {s:Shared} {o:Obj} {es:Array (Int×Value)} {ep:Nat} {t:SetTable} {ks:List Int} {a:Addr}
def xP {it:Addr} {x:Value} {f:Value} {i n:Nat} {Q:Value->Shared->Prop} (st:s.heap.get? it=some (itO f i x n ep)) (hQ:Q (.ref it) s):wpAny (model prog w) A (pyIter (.ref it)) Q E s:=by
 have hT:s.TypeIs (.ref it) "set_iterator":=⟨_,st,rfl⟩;refine wpAny_pyIter_slot hT xO (wpAny_call_entry xO hT aW9 ?_ (aX0 _));show wpAny _ _ (ret (.ref it)) _ _ s;exact wpAny_pure ⟨_,rfl,"set_iterator",_,hT,sl_next.lookup,hQ⟩
def bX5 (hh:A.handled=none) (hd:vH w es t=false) (p:Parts prog w o es ep t ks) (it:Addr) (hia:a≠it) :
  Walks prog w A it [it,a] [it] es.size (fun i v=>((ord w a ep es).toList.map (·.2))[i]?=some v) (fun i h=>h.get? it=some (itO (.int (slt w t i) 0) i (.ref a) es.size ep)/\h.get? a=some o) where
 sub:=fun b hb=>by simp at hb;simp [hb]
 frame:=fun i h h' st k=>⟨k it (by simp) _ st.1,k a (by simp) _ st.2⟩
 item:=fun i s Q E hi st hQ=>by
  have hz:=(ord_perm (w:=w) (a:=a) (ep:=ep) (es:=es)).length_eq;simp at hz;have e1:(ord w a ep es)[i]?=some (ord w a ep es)[i]:=Array.getElem?_eq_getElem (by omega);refine aL1 hd hia st.1 st.2 p e1 fun h' k1 k2=>hQ _ h' s.toks ?_ ⟨k1,k2 a o hia st.2⟩ fun b o hb e=>k2 b o (by simpa using hb) e;rw [List.getElem?_map,Array.getElem?_toList,e1];rfl
 done:=fun s Q E st hQ=>aW7 hh hd st.1 st.2 p fun h' k=>hQ h' s.toks fun b o hb e=>k b o (by simpa using hb) e
 self:=fun i s Q E st hQ=>xP st.1 hQ
def bX6 (hh:A.handled=none) (p:Parts prog w o es ep t ks) (it T:Addr) (ps:List Nat) (hp:ps.Perm (List.range es.size)) (hia:a≠it) (hiT:T≠it) :
  Walks prog w A it [it,a,T] [it] es.size (fun i v=>(ps.filterMap fun j=>es[j]?.map (·.2))[i]?=some v) (fun i h=>h.get? it=some (itO (.ref T) i (.ref a) es.size ep)/\h.get? a=some o/\∃ oT nT,h.get? T=some oT/\oT.data=.seq (ps.map fun (x:Nat)=>rawInt x).toArray nT/\oT.cls=.type "tuple") where
 sub:=fun b hb=>by simp at hb;simp [hb]
 frame:=fun i h h' st k=>⟨k it (by simp) _ st.1,k a (by simp) _ st.2.1,let ⟨oT,nT,e,r⟩:=st.2.2;⟨oT,nT,k T (by simp) _ e,r⟩⟩
 item:=fun i s Q E hi st hQ=>by
  obtain ⟨st1,st2,oT,nT,e,r1,r2⟩:=st;have hl:ps.length=es.size:=by simpa using hp.length_eq
  have hm:∀ j∈ps,∃ x,es[j]?=some x:=fun j hj=>⟨es[j]'(by simpa using hp.mem_iff.mp hj),Array.getElem?_eq_getElem _⟩;have ej:ps[i]?=some ps[i]:=List.getElem?_eq_getElem (by omega);obtain ⟨x,ex⟩:=hm _ (List.getElem_mem (show i < ps.length by omega));refine aL2 hia hiT st1 e r1 r2 st2 p ej ex fun h' k1 k2=>hQ _ h' s.toks ?_ ⟨k1,k2 a o hia st2,oT,nT,k2 T _ hiT e,r1,r2⟩ fun b o hb e=>k2 b o (by simpa using hb) e;have gen:∀ (l:List Nat) (k:Nat) (j:Nat) (x:Int×Value),(∀ j∈l,∃ x,es[j]?=some x)->l[k]?=some j->es[j]?=some x->(l.filterMap fun j=>es[j]?.map (·.2))[k]?=some x.2:=by
   intro l;induction l with
   | nil=>intro k j x _ h;simp at h
   | cons y l ih =>
    intro k j x hm h1 h2;obtain ⟨z,hz⟩:=hm y List.mem_cons_self;rw [List.filterMap_cons,hz];cases k with
    | zero =>
     simp at h1;subst h1;rw [h2] at hz;cases hz;rfl
    | succ k=>exact ih k j x (fun j hj=>hm j (List.mem_cons_of_mem _ hj)) (by simpa using h1) h2
  exact gen ps i _ x hm ej ex
 done:=fun s Q E st hQ=>by
  obtain ⟨st1,st2,oT,nT,e,r1,r2⟩:=st;have hl:ps.length=es.size:=by simpa using hp.length_eq
  exact aW8 hh hl st1 e r1 r2 st2 p fun h' k=>hQ h' s.toks fun b o hb e=>k b o (by simpa using hb) e
 self:=fun i s Q E st hQ=>xP st.1 hQ
theorem xQ {α:Type}:∀ (n:Nat) (xs:List α) (s:Shared) (Q:List α->Shared->Prop),n=xs.length->(∀ ys dr,ys.Perm xs->Q ys { s with drawn:=dr })->wpAny (model prog w) A (drawOrder n xs) Q E s
 | 0,xs,s,Q,hn,h=>by
  have:xs=[]:=List.length_eq_zero_iff.mp hn.symm;subst this;unfold drawOrder;exact wpAny_pure (h [] s.drawn (List.Perm.refl _))
 | n+1,[],s,Q,hn,h=>by simp at hn
 | n+1,x::xs,s,Q,hn,h=>by
  unfold drawOrder;have h0:∀ i,i < (x::xs).length->wpAny (model prog w) A (match (x::xs)[i]? with
   | some y=>do
    let r <- drawOrder n ((x::xs).eraseIdx i)
    pure (y::r)
   | none=>unsupported "internal:drawOrder") Q E { s with drawn:=s.drawn.bump .order }:=by
   intro i hi;rw [List.getElem?_eq_getElem hi];refine wpAny_bind (xQ n _ _ _ (by rw [List.length_eraseIdx_of_lt hi];simp at hn ⊢;omega) fun ys dr hy=>wpAny_pure (h _ dr ?_));exact (List.Perm.cons _ hy).trans (jD _ _ hi)
  refine wpAny_bind (show wpAny (model prog w) A (choose .order (x::xs).length) _ _ _ from fun Γ p hΓ=>⟨by simp,?_⟩);rw [Sem.wp_pure];exact h0 _ (Nat.mod_lt _ (by simp))
def aB2 (ps:List Nat) (hp:ps.Perm (List.range es.size)):(ps.filterMap fun j=>es[j]?.map (·.2)).Perm (es.toList.map (·.2)):=by
 refine (hp.filterMap _).trans (List.Perm.of_eq ?_);have:=filterMap_getElem?_range es;rw [<- this,List.map_filterMap]
def aL3 (hh:A.handled=none) (ho:s.heap.get? a=some o) (p:Parts prog w o es ep t ks) {Q:Value->Shared->Prop}
  (h:∀ (I:Addr) (fp:List Addr) (St:Nat->Heap->Prop) (vs:List Value) (h':Heap) dr,vs.Perm (es.toList.map (·.2))->Walks prog w A I fp [I] es.size (fun i v=>vs[i]?=some v) St->St 0 h'->(∀ b o,s.heap.get? b=some o->h'.get? b=some o) ->
   s.heap.objs.size<=I->(∀ b∈fp,b=a\/s.heap.objs.size<=b)->Q (.ref I) { s with heap:=h',drawn:=dr }):wpAny (model prog w) A (pyIter (.ref a)) Q E s:=by
 have hT:s.TypeIs (.ref a) "set":=⟨_,ho,p.ex.1⟩;have hlt:a < s.heap.objs.size:=Heap.lt_size ho;refine wpAny_pyIter_slot hT PySem.F.slot_set_iter (wpAny_call_entry PySem.F.slot_set_iter hT aW5 ?_ (PySem.F.args_set_iter_1 _));unfold Builtin.«frozenset.__iter__»;refine wpAny_bind (wpAny_pure ?_);unfold Builtin.Frozenset.sizeOf;refine wpAny_bind (wpAny_bind (aL0 ho p (wpAny_pure ?_)));refine wpAny_bind (aK9 ho p ?_);cases hd:vH w es t with
 | true =>
  rw [if_pos rfl];refine wpAny_bind (xQ _ _ _ _ (by simp) fun ps dr hp=>?_);refine wpAny_bind (wpAny_newTuple (items:=ps.map fun (i:Nat)=>rawInt i) ?_ (by
   have:=hp.length_eq;simp at this ⊢;rw [this];exact fits_of_scanBound p.few))
  unfold newFields;refine wpAny_bind (wpAny_setEpoch_of (Heap.get?_push_of_some _ ho) p.dat p.fit ?_);refine wpAny_bind (wpAny_newObj_type (wpAny_pure ⟨_,rfl,"set_iterator",_,⟨_,Heap.get?_push_size _ rfl,rfl⟩,sl_next.lookup,?_⟩));refine h _ _ _ (ps.filterMap fun j=>es[j]?.map (·.2)) _ dr (aB2 ps hp) (bX6 hh p _ s.heap.objs.size ps hp (by rw [Heap.size_push];exact Nat.ne_of_lt (Nat.lt_succ_of_lt hlt)) (by rw [Heap.size_push];exact Nat.ne_of_lt (Nat.lt_succ_self _)))
   ⟨Heap.get?_push_size _ rfl,Heap.get?_push_of_some _ (Heap.get?_push_of_some _ ho),_,_,Heap.get?_push_of_some _ (Heap.get?_push_size _ rfl),rfl,rfl⟩ (fun b o e=>Heap.get?_push_of_some _ (Heap.get?_push_of_some _ e)) (by rw [Heap.size_push];exact Nat.le_succ _) fun b hb=>?_
  simp only [List.mem_cons,List.not_mem_nil,or_false] at hb;rcases hb with rfl | rfl | rfl
  ·exact .inr (by rw [Heap.size_push];exact Nat.le_succ _)
  ·exact .inl rfl
  ·exact .inr (Nat.le_refl _)
 | false =>
  rw [if_neg (by simp)];refine wpAny_bind (wpAny_pure ?_);unfold newFields;refine wpAny_bind (wpAny_setEpoch_of ho p.dat p.fit ?_);refine wpAny_bind (wpAny_newObj_type (wpAny_pure ⟨_,rfl,"set_iterator",_,⟨_,Heap.get?_push_size _ rfl,rfl⟩,sl_next.lookup,?_⟩));refine h _ _ _ ((ord w a ep es).toList.map (·.2)) _ s.drawn (ord_perm.map _) (bX5 hh hd p s.heap.objs.size (Nat.ne_of_lt hlt)) ⟨?_,Heap.get?_push_of_some _ ho⟩ (fun b o e=>Heap.get?_push_of_some _ e) (Nat.le_refl _) fun b hb=>?_
  ·simp only [List.mem_cons,List.not_mem_nil,or_false] at hb;rcases hb with rfl | rfl
   ·exact .inr (Nat.le_refl _)
   ·exact .inl rfl
  ·have e0:slt w t 0=0:=by unfold slt;split<;>rfl
   rw [e0];exact Heap.get?_push_size _ rfl
end
end ST

namespace ST
open PySem PySem.Spec PyProof.Rows
section
variable {prog:Program} {w:World} {A:Around} {E:Value->Shared->Prop} {s:Shared} {o:Obj} {es:Array (Int×Value)} {ep:Nat} {t:SetTable} {ks:List Int} {a:Addr}
def aL4 {Q:Bool->Shared->Prop} (hT:s.TypeIs (.ref a) "set") (h:Q false s):wpAny (model prog w) A (Builtin.List.listLengthHint (.ref a)) Q E s:=by
 unfold Builtin.List.listLengthHint;refine wpAny_bind (wpAny_specialOf hT PySem.F.slot_set_len.lookup ?_);generalize hid:("set.__len__":String)=id0
 wp_delta
 rw [show splitId id0=some ("set","__len__") from by subst hid;decide +kernel];subst hid;refine wpAny_bind (wpAny_isInstance (T:="set") (b:=true) hT (by rw [isSubtype_type];kernel_rfl) (wpAny_ite_split (fun z=>absurd z (by decide)) fun _=>wpAny_ite_split (fun _=>?_) fun z=>absurd (by decide +kernel) z));exact wpAny_bind (wpAny_typeOf hT (wpAny_pure h))
def sR (hh:A.handled=none) (ho:s.heap.get? a=some o) (p:Parts prog w o es ep t ks) {R:List Value->Shared->Prop}
  (h:∀ (vs:List Value) h' dr tk,vs.Perm (es.toList.map (·.2))->s.heap.objs.size<=h'.objs.size->(∀ b o,s.heap.get? b=some o->h'.get? b=some o)->R vs { s with heap:=h',drawn:=dr,toks:=tk }):wpAny (model prog w) A (collect (.ref a)) R E s:=by
 have hn:es.size<=sizeLine:=fits_of_scanBound p.few;have hlt:a < s.heap.objs.size:=Heap.lt_size ho;unfold collect;refine wpAny_bind (wpAny_runValue (codeAny_builtin PySem.F.entry_proto_collect ?_));rw [Around.under_plainId PySem.F.plain_proto_collect _];refine wpAny_bind (wpAny_newObj_type (wpAny_pure ⟨plainId_quiet PySem.F.plain_list_iadd _,codeAny_builtin PySem.F.entry_list_iadd ?_⟩));rw [Around.under_plainId PySem.F.plain_list_iadd _];show wpAny _ _ (Builtin.List.listExtendWith (.ref s.heap.objs.size) (.ref a) (.ref s.heap.objs.size)) _ _ _;unfold Builtin.List.listExtendWith;have ho1:(s.heap.push { cls:=.type "list",data:=.seq ([]:List Value).toArray }).get? a=some o:=Heap.get?_push_of_some _ ho;have hT:Shared.TypeIs { s with heap:=s.heap.push { cls:=.type "list",data:=.seq ([]:List Value).toArray } } (.ref a) "set":=⟨_,ho1,p.ex.1⟩;refine wpAny_bind (wpAny_typeOf hT ?_);have n1:Builtin.List.listSameRef (.ref s.heap.objs.size) (.ref a)=false:=by simp [Builtin.List.listSameRef,Nat.ne_of_gt hlt]
 simp only [n1,show (Value.type "set"==Value.type "list")=false by decide,show (Value.type "set"==Value.type "tuple")=false by decide,Bool.or_false,Bool.false_eq_true,if_false];refine wpAny_bind (aL3 (A:=A.in1) hh ho1 p fun I fp St vs h1 dr hp W st k1 hI hfp=>?_);have hS1:h1.get? s.heap.objs.size=some { cls:=.type "list",data:=.seq #[] }:=k1 _ _ (Heap.get?_push_size _ rfl);have sz:(s.heap.push { cls:=.type "list",data:=.seq ([]:List Value).toArray }).objs.size=s.heap.objs.size+1:=by rw [Heap.size_push]
 have hSf:s.heap.objs.size∉fp:=fun z=>by
  rcases hfp _ z with e | e
  ·exact absurd e (Nat.ne_of_gt hlt)
  ·rw [sz] at e;exact absurd e (Nat.not_succ_le_self _)
 have hIs:s.heap.objs.size < I:=by rw [sz] at hI;exact hI
 refine wpAny_bind (wpAny_holding (aL4 (s:={ s with heap:=h1,drawn:=dr }) ⟨_,k1 a o ho1,p.ex.1⟩ ?_));have key:∀ (h2:Heap) (c:Nat),St 0 h2->(∀ b o,b≠s.heap.objs.size->h1.get? b=some o->h2.get? b=some o)->h2.get? s.heap.objs.size=some { cls:=.type "list",data:=.seq #[] c } ->
   codeAny (model prog w) A (.builtin "list.extend.loop" ⟨[.ref s.heap.objs.size,.ref I,.ref s.heap.objs.size],[]⟩) (fun r s'=>match r with
    | .ok (.ret v)=>wpAny (model prog w) A (do
      let o <- load s.heap.objs.size
      match o.data with
      | .seq xs _=>pure xs.toList
      | _=>unsupported "internal:collect") R E s'/\v=.ref s.heap.objs.size
    | _=>False) { s with heap:=h2,drawn:=dr }:=fun h2 c st2 k2 hS2=>by
  refine codeAny_extend_loopS W.toS hn _ hSf _ es.size 0 _ #[] c rfl (Nat.zero_le _) st2 hS2 (ItemsOf.nil _) fun s' acc c' hm hS' hacc=>⟨wpAny_bind (wpAny_load hS' (wpAny_pure ?_)),rfl⟩;have hv:acc.toList=vs:=by
   apply List.ext_getElem?;intro i
   by_cases hi:i < acc.size
   ·rw [Array.getElem?_toList];have e1:acc[i]?=some acc[i]:=Array.getElem?_eq_getElem hi;rw [e1,hacc.2 i _ e1]
   ·have l1:=hacc.1;have l2:=hp.length_eq;rw [List.getElem?_eq_none (by simp;omega),List.getElem?_eq_none (by simp at l2;omega)]
  have e:=Moved.eq_with hm;rw [e];show R acc.toList _;rw [hv];refine h vs s'.heap dr s'.toks hp (Nat.le_of_lt (Heap.lt_size hS')) fun b o e=>?_;have bl:=Heap.lt_size e;refine hm.heap b o ?_ (k2 b o (Nat.ne_of_lt bl) (k1 b o (Heap.get?_push_of_some _ e)));simp only [List.mem_cons,List.not_mem_nil,or_false,not_or];exact ⟨Nat.ne_of_lt bl,Nat.ne_of_lt (Nat.lt_trans bl hIs)⟩
 refine wpAny_ite_split (fun _=>?_) fun _=>wpAny_pure ⟨plainId_quiet PySem.F.plain_extend_loop _,codeAny_mono (key h1 0 st (fun b o _ e=>e) hS1) fun r s' hr=>?_⟩
 ·refine wpAny_bind (wpAny_rule (wpAny_bind ?_));show wpAny _ _ (updateSeq s.heap.objs.size (·.push .none) >>= fun _=>updateSeq s.heap.objs.size (·.pop)) _ _ _;have hS2:=Heap.get?_update_self (Obj.mapSeq (·.push Value.none)) hS1 rfl;have hS3:=Heap.get?_update_self (Obj.mapSeq (·.pop)) hS2 rfl;have oth:∀ b o,b≠s.heap.objs.size->h1.get? b=some o->((h1.update s.heap.objs.size (Obj.mapSeq (·.push Value.none))).update s.heap.objs.size (Obj.mapSeq (·.pop))).get? b=some o:=fun b o hb e =>
   (Heap.get?_update_other _ _ (Ne.symm hb)).trans ((Heap.get?_update_other _ _ (Ne.symm hb)).trans e)
  refine wpAny_bind (wpAny_updateSeq hS1 rfl (wpAny_updateSeq (hz:=by seq_fits) hS2 rfl (wpAny_pure ⟨plainId_quiet PySem.F.plain_extend_loop _,codeAny_mono (key _ _ (W.frame 0 _ _ st fun b hb o e=>oth b o (fun z=>hSf (by rw [<- z];exact hb)) e) oth hS3) fun r s' hr=>?_⟩)));cases r with
  | error e=>exact hr.elim
  | ok fl =>
   cases fl with
   | ret v=>obtain ⟨q1,rfl⟩:=hr;exact q1
   | _=>exact hr.elim
 ·cases r with
  | error e=>exact hr.elim
  | ok fl =>
   cases fl with
   | ret v=>obtain ⟨q1,rfl⟩:=hr;exact q1
   | _=>exact hr.elim
def aL5 {vs:List Value} (h:∀ v∈vs,∃ tk,v=.int (oB v) tk):IntsAre vs (vs.map oB):=by
 induction vs with
 | nil=>exact .nil
 | cons v r ih =>
  obtain ⟨tk,e⟩:=h v List.mem_cons_self;have q:=ih fun u hu=>h u (List.mem_cons_of_mem _ hu);rw [List.map_cons];generalize oB v=k at e;subst e;exact .cons _ _ q
def vI (hh:A.handled=none) (hs:SetI prog w s.heap a ks) (h64:ks.length < 64) {Q:Value->Shared->Prop}
  (h:∀ (b:Addr) (vs:List Value) (ns:List Int) (c:Nat) h' dr tk,IntsAre vs ns->ns.Perm ks->ns.Pairwise (·<=·)->s.heap.get? b=none->h'.get? b=some (seqObj "list" vs.toArray c)->(∀ b o,s.heap.get? b=some o->h'.get? b=some o)->Q (.ref b) { s with heap:=h',drawn:=dr,toks:=tk }) :
  wpAny (model prog w) A (call (.builtin "sorted") [.ref a]) Q E s:=by
 obtain ⟨o,es,ep,t,ho,p⟩:=hs;have hl:es.size=ks.length:=by have:=p.ks.length_eq;simpa using this
 refine kH (n:=es.size) (by omega) (fun R hR=>sR (A:=A.in1) (by simp [hh]) ho p fun vs h' dr tk hp z k=>hR vs (vs.map oB) h' dr tk (aL5 fun v hv=>?_) ?_ ?_ k) h
 ·obtain ⟨e,he,rfl⟩:=List.mem_map.mp (hp.mem_iff.mp hv);exact vE p.el he
 ·simpa using hp.length_eq
 ·refine (hp.map oB).trans ?_;rw [List.map_map];exact p.ks
end
end ST

namespace ST
open PySem PySem.Spec PyProof.Rows
def bX7 (ns:List Int):(dd ns).length<=ns.length:=by
 rw [<- vG];exact firstMet_length_le _ _
end ST
namespace DL
open PySem PySem.Spec PyProof.Rows L2 CI ST
section
variable {X:Cx} {st:Sta} {d:Nat} {v:Evs} {a:Expr} {p p2 pos pos2:Pos}
def bL4 (S:Snd v) (G:Good X st d) (h1:okC st "sorted"=true) (h2:okC st "set"=true):SF X (.Call (.Name "sorted" p) [.Call (.Name "set" p2) [a] [] pos2] [] pos) (xb (aS v st [a]) fun ws=>fun _ h=>xSS ws h):=by
 intro κ M δ h s w h' R F e;obtain ⟨ws,hh,e1,e⟩:=aF e;obtain ⟨n1,n2,n3⟩:=cA G h1;refine wpAny_Call_Name_kw (bZ (u:=.builtin "sorted") F R n2 n3 (by decide +kernel) n1 ?_);refine PyProof.Rows.callWith_builtin1 (iJ (by rfl) ?_) rfl rfl;refine kF (f:=.type "set") S G h2 (by decide +kernel) (.inr ⟨_,rfl⟩) R F e1 fun {M1 us s1} l1 R1 r1=>?_;have sb:scanBound=4096:=rfl;have fin:∀ {ns:List Int} {h2:Heap} {tk2:Nat},ns.length<=62->SetI X.S.P X.S.w h2 s1.heap.objs.size (dd ns)->(∀ b o,s1.heap.get? b=some o->h2.get? b=some o)->Wp X.S X.A (call (.builtin "sorted") [.ref s1.heap.objs.size]) (Pf X.S κ M hh ((srt (dd ns)).map .int)) NE { s1 with heap:=h2,toks:=tk2 }:=fun {ns h2 tk2} hn si k2=>by
  have hd:=bX7 ns;refine vI G.rm.hd si (by omega) fun b vs' ns' c h3 dr tk hi' hp ho hz hb k=>?_;have e2:=srt_only hp ho;subst e2;have hlen:=hi'.length;have hpl:=hp.length_eq;have k3:∀ b o,s1.heap.get? b=some o->h3.get? b=some o:=fun b o q=>k b o (k2 b o q);exact ⟨M1,l1,R1.dr h3 dr tk k3,b,vs',c,rfl,hb,R1.new (by cases q:s1.heap.get? b with | none=>rfl | some o=>rw [k2 b o q] at hz;cases hz),by rw [hlen,hpl,sizeLine_eq];omega,iK hi'⟩
 unfold xSS at e;rcases ws with _ | ⟨x,_ | ⟨y,ws⟩⟩
 ·cases e
 ·obtain ⟨u,rfl,ru⟩:=w1 r1;cases x with
  | c _=>cases e
  | d x =>
   cases x with
   | tuple xs =>
    dsimp only at e;obtain ⟨ns,en,e⟩:=bind_some e;obtain ⟨hn,e⟩:=aE e;cases e;obtain ⟨b,vs,n,rfl,z,hz,rr⟩:=fY (h:=h') R1 ru rfl;have hi:=gM en rr;exact fM (b:=true) G.rm.hd (show s1.heap.IsTuple b vs.toArray from fZ (R1.z _ _ z)) (by simpa using hi) (by have:=hi.length;simp;omega) fun h2 tk2 si k2=>fin hn si k2
   | list xs =>
    dsimp only at e;obtain ⟨ns,en,e⟩:=bind_some e;obtain ⟨hn,e⟩:=aE e;cases e;obtain ⟨b,vs,n,rfl,ho,hz,rr⟩:=dI (h:=h') R1 ru rfl;have hi:=gM en rr;exact fM (b:=false) G.rm.hd (bM ho).isList (by simpa using hi) (by have:=hi.length;simp;omega) fun h2 tk2 si k2=>fin hn si k2
   | _=>cases e
 ·rcases x with x | _<;>first | (cases e;done) | (cases x<;>cases e)
end
end DL

namespace DL
open PySem PySem.Spec PyProof.Rows L2 CI
section
variable {X:Cx} {st:Sta} {d:Nat} {v:Evs} {κ:Kp} {M:Mp} {δ:DSt} {h h':aA} {s:Shared} {a b c e o tg iter:Expr} {es:List Expr} {pos p p2 apos:Pos} {x m:Str} {w:W}
def xR (h:uJ e=false) (o i:Value):subscripted e false o i=operate [o,i] (getItem o i):=by
 cases e<;>first | rfl | cases h
def cM2 (S:Snd v) (G:Good X st d) (hs:uJ b=false):SE X (.Subscript a b pos) (xb (v.E st a) fun x=>xb (v.E st b) fun y=>fun _ h=>xIx x y h):=fun _ _ _ _ _ _ _ R F e =>
 Subscript_ (two (S.E G a) (S.E G b) R F e fun R1 _ ra rb e=>bT8 G.rm R1 ra rb e (xR hs))
theorem bX8 (S:Snd v) (G:Good X st d) {f:Str->Option PyData} (hf:jI st a=some f) (hs:uJ b=false):SE X (.Subscript a b pos) (xb (v.E st b) fun w=>(match w with
    | .d (.str z)=>(match f z with
     | some i=>aC (.d i)
     | none=>xno)
    | _=>xno)):=by
 intro κ M δ h s w h' R F e;obtain ⟨y,p,p',rfl,hn,hg,hm,T⟩:=aH5 G hf;obtain ⟨x,h1,e1,e⟩:=aF e;refine Subscript_ (lL F R hg hm hn (thn (S.E G b R F e1) fun u s1 ⟨M1,l1,R1,r1⟩=>?_));obtain ⟨g,m,g0,g1,g2⟩:=T.map (prog:=X.S.P) (F.ok.mod.kin.keeps R1.bk);rcases x with (_ | _ | _ | z | _ | _ | _) | _<;>first | cases e;done | skip
 obtain ⟨⟨t,rfl⟩,_⟩:=rep_s.mp (show Rep X.S M1.Z _ _ from r1);have e:(match f z with
  | some i=>aC (.d i)
  | none=>xno:XR W) δ h1=some (w,h'):=e
 cases ei:f z with
 | some i =>
  rw [ei] at e;cases e;obtain ⟨t',q',rq⟩:=g1 z i ei;exact wS m.typeIs PySem.F.slot_dict_getitem.lookup (xR hs _ _) (wpAny_getItem_of (qH z t) m q' (((R1.tok _).pw (w:=.d i) (show Rep X.S M1.Z i t' from Rep.go R1.base rq)).go l1))
 | none=>rw [ei] at e;cases e
def aX1:SE X (.Dict [] [] pos) (aC (.d (.dict []))):=by
 intro κ M δ h s w h' R F e;cases e;refine wpAny_Dict_empty ?_;have hd:(s.heap.push { cls:=.type "dict",data:=.dict #[] }).DictOf (bX X.S.P X.S.w) s.heap.objs.size []:=Heap.DictOf.new s.heap;obtain ⟨o,es,ep,ho,hr⟩:=hd;have R1:Mem X.S κ M h { s with heap:=s.heap.push { cls:=.type "dict",data:=.dict #[] } }:=R.kept (t:=s.toks) fun b o e=>Heap.get?_push_of_some _ e;refine ⟨M.add s.heap.objs.size o,Le.add R.size.1,R1.frz R.size ho,?_⟩;exact (aF3 (S:=X.S) (Z:=(M.add s.heap.objs.size o).Z) rfl).mpr ⟨_,o,[],rfl,hO,⟨qN F R,Nat.zero_le _,fun h2 e2=>⟨o,es,ep,e2,hr⟩⟩,.nil⟩
def bL5:SE X (.Dict [] [] pos) oQ:=by
 intro κ M δ h s w h' R F e;cases e;refine wpAny_Dict_empty ?_;have hd:(s.heap.push { cls:=.type "dict",data:=.dict #[] }).DictOf (bX X.S.P X.S.w) s.heap.objs.size []:=Heap.DictOf.new s.heap;obtain ⟨o,es,ep,ho,hr⟩:=id hd;have R1:Mem X.S κ M h { s with heap:=s.heap.push { cls:=.type "dict",data:=.dict #[] } }:=R.kept (t:=s.toks) fun b o e=>Heap.get?_push_of_some _ e;exact ⟨M.cel (s.heap.objs.size,s.heap.objs.size),.cel,R1.add R.size R.size ⟨⟨_,ho⟩,_,ho⟩ ⟨[],hd,.nil,qN F R,Nat.zero_le _⟩,(s.heap.objs.size,s.heap.objs.size),by show (M.m++[_])[h.length]?=_;rw [<- R.len];simp,rfl⟩
def bX9 {S:Sx}:BfS S (.builtin "min") xMn:=by
 intro κ M h h' s A E ws us w d hr hK hsm R r e;unfold xMn at e;split at e
 ·cases e;obtain ⟨u,v,rfl,ra,rb⟩:=w2 r;obtain ⟨t,rfl⟩:=wi.mp ra;obtain ⟨t',rfl⟩:=wi.mp rb;rename_i a b;refine min_two_ints hr.hd fun h2 tk k=>(R.kept (t:=tk) k).pw (wi.mpr ?_)
  by_cases z:b < a
  ·rw [if_pos z];exact ⟨t',by rw [Int.min_eq_right (Int.le_of_lt z)]⟩
  ·rw [if_neg z];exact ⟨t,by rw [Int.min_eq_left (Int.not_lt.mp z)]⟩
 ·cases e
def aX2 {S:Sx} {g:List W->aA->Option (W×aA)} (h:bG5 x=some g):∃ f,bootBuiltins x=some f/\((∃ i,f=.builtin i)\/∃ i,f=.type i)/\BfS S f g:=by
 unfold bG5 at h;split at h
 ·rename_i e;cases h;subst e;exact ⟨_,by decide +kernel,.inl ⟨_,rfl⟩,bT9⟩
 split at h
 ·rename_i e;cases h;subst e;exact ⟨.type "tuple",by decide +kernel,.inr ⟨_,rfl⟩,aU1⟩
 split at h
 ·rename_i e;cases h;subst e;exact ⟨.builtin "all",by decide +kernel,.inl ⟨_,rfl⟩,bU0⟩
 split at h
 ·rename_i e;cases h;subst e;exact ⟨.type "int",by decide +kernel,.inr ⟨_,rfl⟩,bU2⟩
 split at h
 ·rename_i e;cases h;subst e;exact ⟨.builtin "min",by decide +kernel,.inl ⟨_,rfl⟩,bX9⟩
 split at h
 ·rename_i e;cases h;subst e;exact ⟨.builtin "any",by decide +kernel,.inl ⟨_,rfl⟩,bU1⟩
 ·cases h
def aL6 (S:Snd v) (G:Good X st d):SF X (.Call (.Name x p) (a::es) [] pos) (bY v st (.Call (.Name x p) (a::es) [] pos)):=by
 unfold bY;dsimp only;split
 ·rename_i hx;subst hx;split
  ·rename_i b hb;split
   ·rename_i hc;rw [Bool.and_eq_true,Bool.and_eq_true] at hc;obtain ⟨⟨y,p1,q1,heq⟩,hh,rfl⟩:=Option.map_eq_some_iff.mp (show (rgS _).map (·.1)=_ from hb);clear hh hb;cases heq;exact bW9 S G hc.1.1 hc.1.2 hc.2
   ·exact gL
  ·split
   ·rename_i y hq hqe;clear hqe;obtain ⟨p2,q2,heq⟩:=hq;cases heq;split
    ·rename_i hc;simp only [Bool.and_eq_true] at hc;exact bK2 S G hc.1.1.1 hc.1.1.2 hc.1.2 hc.2
    ·exact gL
   ·split
    ·rename_i hc;exact bW6 S G hc
    ·exact gL
 ·split
  ·rename_i hx;subst hx;split
   ·rename_i b hq hqe;clear hqe;obtain ⟨p2,q2,heq⟩:=hq;cases heq;split
    ·rename_i hc;rw [Bool.and_eq_true,Bool.and_eq_true] at hc;exact bL4 S G hc.1.1 hc.1.2
    ·exact gL
   ·split
    ·rename_i y hq hqe;clear hqe;cases hq;split
     ·rename_i hc;rw [Bool.and_eq_true,Bool.and_eq_true] at hc;exact aK1 S G hc.1.1 hc.1.2 hc.2
     ·exact gL
    ·split
     ·rename_i hc;exact bX2 S G hc
     ·exact gL
  ·exact gL
def kI (S:Snd v) (G:Good X st d) (e:Expr):SF X e (bY v st e):=by
 cases e with
 | List es p=>exact bI0 S G
 | ListComp elt gs sc p =>
  rcases gs with _ | ⟨⟨tg,iter,ifs,a⟩,_ | ⟨_,_⟩⟩
  ·exact gL
  ·by_cases ha:a=0
   ·subst ha;exact bI9 S (uT S) G
   ·have:bY v st (.ListComp elt [⟨tg,iter,ifs,a⟩] sc p)=xno:=if_neg ha;rw [this];exact gL
  ·exact gL
 | BinOp a op b p =>
  cases op with
  | Add=>exact bW4 S G
  | _=>exact gL
 | Call f args kw p =>
  cases f with
  | Name x px =>
   rcases args with _ | ⟨a,es⟩
   ·exact gL
   ·rcases kw with _ | ⟨k,ks⟩
    ·exact aL6 S G
    ·rcases es with _ | ⟨_,_⟩
     ·show SF X _ (if x="sorted" then (if okC st x then aT7 v st a (k::ks) else xno) else xno)
      by_cases hx:x="sorted"
      ·subst hx;rw [if_pos rfl]
       by_cases hc:okC st "sorted"=true
       ·rw [if_pos hc];exact bX3 S G hc
       ·rw [if_neg hc];exact gL
      ·rw [if_neg hx];exact gL
     ·exact gL
  | _=>exact gL
 | _=>exact gL
end
end DL

namespace ST
open PySem PySem.Spec PyProof.Rows
section
variable {prog:Program} {w:World} {A:Around} {E:Value->Shared->Prop} {s:Shared} {R:Result->Shared->Prop}
def bL6 (ns:List Int):(dd ns).length<=ns.length:=by
 rw [<- vG];exact firstMet_length_le _ _
end
end ST
namespace DL
open PySem PySem.Spec PyProof.Rows L2 CI ST
section
variable {X:Cx} {st:Sta} {d:Nat} {v:Evs} {a:Expr} {p p2 pos pos2:Pos}
def qU (G:Good X st d) {x:Str} (h:okB st x=true):(cL st x&&(slot st x).isNone&&st.bl.contains x)=true:=by
 unfold okB at h;rw [Bool.and_eq_true] at h;exact h.1
def bL7 (S:Snd v) (G:Good X st d) (h1:okB st "len"=true) (h2:okB st "set"=true) (hs:aH a=true):SE X (.Call (.Name "len" p) [.Call (.Name "set" p2) [a] [] pos2] [] pos) (xb (aS v st [a]) fun ws=>fun _ h=>xLS ws h):=by
 intro κ M δ h s w h' R F e;obtain ⟨ws,hh,e1,e⟩:=aF e;obtain ⟨n1,n2,n3⟩:=cA G (qU G h1);refine wpAny_Call_Name_kw (bZ (u:=.builtin "len") F R n2 n3 (by decide +kernel) n1 ?_);refine PyProof.Rows.callWith_builtin1 (iJ (by rfl) ?_) rfl rfl;refine kF (f:=.type "set") S G (qU G h2) (by decide +kernel) (.inr ⟨_,rfl⟩) R F e1 fun {M1 us s1} l1 R1 r1=>?_;have sb:scanBound=4096:=rfl;have fin:∀ {ns:List Int} {h2:Heap} {tk2:Nat},ns.length<=62->SetI X.S.P X.S.w h2 s1.heap.objs.size (dd ns)->(∀ b o,s1.heap.get? b=some o->h2.get? b=some o)->Wp X.S X.A (call (.builtin "len") [.ref s1.heap.objs.size]) (Pw X.S κ M hh (.d (.int (dd ns).length))) NE { s1 with heap:=h2,toks:=tk2 }:=fun {ns h2 tk2} hn si k2=>by
  obtain ⟨o,es,ep,tt,ho,pt⟩:=si;have hsz:es.size=(dd ns).length:=by
   have:=pt.ks.length_eq
   simpa using this
  have hd:=bL6 ns;refine call_len_set ho pt.ex pt.dat pt.fit (by omega) ?_;rw [hsz];exact ((R1.kept (t:=tk2) k2).tok _).pi.go l1
 unfold xLS at e;rcases ws with _ | ⟨x,_ | ⟨y,ws⟩⟩
 ·cases e
 ·obtain ⟨u,rfl,ru⟩:=w1 r1;cases x with
  | c _=>cases e
  | d x =>
   cases x with
   | tuple xs =>
    dsimp only at e;cases en:bD xs with
    | none=>rw [en] at e;cases e
    | some ns =>
     rw [en] at e;obtain ⟨hn,e⟩:=aE e;cases e;obtain ⟨b,vs,n,rfl,z,hz,rr⟩:=fY (h:=h') R1 ru rfl;have hi:=gM en rr;exact fM (b:=true) G.rm.hd (show s1.heap.IsTuple b vs.toArray from fZ (R1.z _ _ z)) (by simpa using hi) (by have:=hi.length;simp;omega) fun h2 tk2 si k2=>fin hn si k2
   | list xs =>
    dsimp only at e;cases en:bD xs with
    | none=>rw [en] at e;cases e
    | some ns =>
     rw [en] at e;obtain ⟨hn,e⟩:=aE e;cases e;obtain ⟨b,vs,n,rfl,ho,hz,rr⟩:=dI (h:=h') R1 ru rfl;have hi:=gM en rr;exact fM (b:=false) G.rm.hd (bM ho).isList (by simpa using hi) (by have:=hi.length;simp;omega) fun h2 tk2 si k2=>fin hn si k2
   | _=>cases e
 ·rcases x with x | _<;>first | (cases e;done) | (cases x<;>cases e)
end
end DL

namespace DL
open PySem PySem.Spec PyProof.Rows L2 CI
section
variable {X:Cx} {st:Sta} {d:Nat} {v:Evs} {κ:Kp} {M:Mp} {δ:DSt} {h h':aA} {s:Shared} {a b c e o tg iter:Expr} {es:List Expr} {pos p p2 apos:Pos} {x m:Str} {w:W}
def bL8 (S:Snd v) (G:Good X st d) {p:Pos} {args:List Expr} (hx:(cL st "isinstance"&&(slot st "isinstance").isNone&&st.bl.contains "isinstance")=true):SE X (.Call (.Name "isinstance" p) args [] pos) (bH0 v st args):=by
 unfold bH0;cases bT7 args with
 | some y =>
  obtain ⟨⟨e,T⟩,q,rfl⟩:=y;dsimp only;split
  ·rename_i hc;simp only [Bool.and_eq_true] at hc;split
   ·rename_i Ts hT;exact bW7 S G hx hc.1.1.1 (by rw [hc.1.1.2,hc.1.2,hc.2];rfl) hT
   ·exact dH
  ·exact dH
 | none=>exact dH
def bY0 (S:Snd v) (G:Good X st d) {o:Expr} {m:Str} {apos:Pos} {args:List Expr}:SE X (.Call (.Attribute o m apos) args [] pos) (bH1 v st o m apos pos args):=by
 unfold bH1;split
 ·rename_i hc;rw [Bool.and_eq_true] at hc;rcases args with _ | ⟨a,es⟩
  ·dsimp only;split
   ·rename_i hm;subst hm;exact bJ9 S G hc.1 hc.2
   ·exact dH
  ·dsimp only;split
   ·rename_i hn;split
    ·rename_i g hg;exact bK0 S G hg hc.1 hc.2 (by simpa using hn)
    ·exact dH
   ·exact dH
 ·exact dH
def bL9 (S:Snd v) (G:Good X st d) {f:Expr} {args:List Expr}:SE X (.Call f args [] pos) (wQ v st f args pos):=by
 cases f with
 | Name x p =>
  unfold wQ;dsimp only;split
  ·rename_i ht;rw [Bool.and_eq_true] at ht;split
   ·rename_i m hm;rcases args with _ | ⟨a,es⟩
    ·exact dH
    ·exact bD6 S G ht.1 (G.fnW _ _ hm)
   ·split
    ·exact dH
    ·split
     ·rename_i m hm;rcases args with _ | ⟨a,es⟩
      ·exact dH
      ·exact bD6 S G ht.1 (G.fn _ _ hm)
     ·split
      ·rename_i hbl;have hx:(cL st x&&(slot st x).isNone&&st.bl.contains x)=true:=by rw [ht.1,ht.2,hbl];rfl
       split
       ·rename_i g hg;rcases args with _ | ⟨a,es⟩
        ·exact dH
        ·obtain ⟨f,h1,h2,h3⟩:=aX2 (S:=X.S) hg;exact cM1 S G hx h1 h2 h3
       ·split
        ·rename_i hi;subst hi;exact bL8 S G hx
        ·rcases args with _ | ⟨a,es⟩
         ·exact oS gL
         ·exact oS (aL6 S G)
      ·exact dH
  ·split
   ·rcases args with _ | ⟨a,es⟩
    ·exact dH
    ·exact bJ2 S G
   ·exact dH
 | Attribute o m apos =>
  unfold wQ;dsimp only;split
  ·exact dH
  ·exact bY0 S G
 | _=>exact dH
def bM0 (S:Snd v) (G:Good X st d) {f:Expr} {args:List Expr}:SE X (.Call f args [] pos) (aG1 v st f args pos):=by
 unfold aG1;cases hq:fuS f args with
 | none =>
  dsimp only;cases hr:fuR f args with
  | none=>exact bL9 S G
  | some y =>
   obtain ⟨a,p,p2,q,rfl,rfl⟩:=y;dsimp only;split
   ·rename_i hc;simp only [Bool.and_eq_true] at hc;exact aJ0 S G (qU G hc.1.1.1) (qU G hc.1.1.2) hc.1.2 hc.2
   ·exact dH
 | some y =>
  obtain ⟨a,p,p2,q,rfl,rfl⟩:=y;dsimp only;split
  ·rename_i hc;simp only [Bool.and_eq_true] at hc;exact bL7 S G hc.1.1 hc.1.2 hc.2
  ·exact dH
def bM1 (S:Snd v) (G:Good X st d) (e:Expr):SE X e (aG2 v st e):=by
 cases e with
 | Name x p=>exact aH3 G
 | Constant c k p=>exact aU4
 | BinOp a op b p=>exact bU9 S G
 | Compare a ops cs p=>exact bJ8 S G
 | BoolOp op vs p =>
  cases op with
  | And=>exact aH4 S G vs
  | Or=>exact bD1 S G vs
 | UnaryOp op a p =>
  cases op with
  | Not=>exact bV0 S G
  | USub=>exact bV1 S G
  | _=>exact dH
 | IfExp c a b p=>exact bV2 S G
 | Tuple es k p=>exact bV6 S G
 | List es p=>exact oS (kI S G _)
 | ListComp elt gs sc p =>
  show SE X _ (match gW st gs with
   | some (tg,iter,ifs)=>qB v st elt tg iter ifs sc
   | none=>aK (bY v st (.ListComp elt gs sc p)))
  split
  ·rename_i tg iter ifs e;rw [bW3 e];exact aU7 S G
  ·exact oS (kI S G _)
 | Subscript a b p =>
  unfold aG2;dsimp only;split
  ·exact bW5 S G
  ·split
   ·exact dH
   ·rename_i hs;have hs:uJ b=false:=by simpa using hs
    split
    ·rename_i f hf;exact bX8 S G hf hs
    ·exact cM2 S G hs
 | Call f args kw p =>
  rcases kw with _ | ⟨k,ks⟩
  ·exact bM0 S G
  ·exact oS (kI S G _)
 | Dict ks vs p =>
  rcases ks with _ | ⟨_,_⟩
  ·rcases vs with _ | ⟨_,_⟩
   ·exact aX1
   ·exact dH
  ·exact dH
 | _=>exact dH
theorem bD8 (S:Snd v) (G:Good X st d) (he:∀ whole,isTrue e X.env whole=(do let v <- whole;standAt e.pos;holding [v] (truthy v))):ST X e (xb (v.E st e) fun w=>(match w with
  | .d (.bool b)=>aC b
  | _=>xno)):=by
 intro κ M δ h s w h' R F e';obtain ⟨x,h1,e1,e'⟩:=aF e';refine isTrue_plain (thn (S.E G e R F e1) fun u s1 ⟨M1,l1,R1,r1⟩=>?_) (he _);rcases x with (_ | b | _ | _ | _ | _ | _) | _<;>first | cases e';done | skip
 cases e';cases wb.mp r1;exact wpAny_truthy_bool ⟨rfl,M1,l1,R1⟩
def bM2 (S:Snd v) (G:Good X st d) (e:Expr):ST X e (bC9 v st e):=by
 cases e with
 | UnaryOp op a p =>
  cases op with
  | Not =>
   intro κ M δ h s w h' R F e;obtain ⟨x,h1,e1,e⟩:=aF (show xb (v.T st a) (fun b=>aC (!b)) δ h=some (w,h') from e);cases e;exact isTrue_not (thn (S.T G a R F e1) fun c s1 ⟨ec,q⟩=>⟨by rw [ec],q⟩)
  | _=>exact bD8 S G fun _=>rfl
 | BoolOp op vs p =>
  cases op with
  | And=>exact bD2 S G vs _
  | Or=>exact bV3 S G vs _
 | Compare a ops cs p=>exact bV5 S G
 | IfExp a b c p=>exact fun _ _ _ _ _ _ _ _ _ e=>by cases e
 | _=>exact bD8 S G fun _=>rfl
def aB3:SG X e (fun _ _ _=>none):=fun _ _ _ _ _ _ _ _ _ _ _ _ e=>by cases e
def vJ (h:uJ b=false) (v:Value):assign (.Subscript a b pos) X.env v=(do
   let ov <- holding [v] (eval a X.env)
   let iv <- holding [v,ov] (eval b X.env)
   standAt pos
   holding [v,ov,iv] (setItem ov iv v)
   release [v,ov,iv] []):=by
 cases b<;>first | rfl | cases h
def bM3 (S:Snd v) (G:Good X st d) (e:Expr):SG X e (rZ v st e):=by
 cases e with
 | Name x p =>
  unfold rZ;dsimp only;split
  ·rename_i i hi;split
   ·rename_i hl;exact bI4 G hi hl
   ·exact aB3
  ·exact aB3
 | Tuple es k p =>
  unfold rZ;dsimp only;split
  ·rename_i hs;exact bW0 S G hs
  ·exact aB3
 | Subscript a b p =>
  unfold rZ;dsimp only;split
  ·exact aB3
  ·rename_i hs;exact bW1 S G (vJ (by simpa using hs))
 | _=>exact aB3
end
end DL

namespace DL
open PySem PySem.Spec PyProof.Rows L2 CI
section
variable {X:Cx} {st:Sta} {d:Nat} {v:Evs}
def bY1 (Sn:Snd v) (G:Good X st d) (e:Expr):SE X e (aT9 v st e):=by
 unfold aT9;cases qt:tpA e with
 | some es =>
  obtain ⟨⟨es,k,p,he⟩,hh,rfl⟩:=Option.map_eq_some_iff.mp (show (tpS _).map (·.1)=_ from qt);clear hh qt;subst he;dsimp only;intro κ M δ h s w h' R F e;obtain ⟨ws,h1,e1,e⟩:=aF e;obtain ⟨hw,e⟩:=aE e;cases e;rw [Bool.and_eq_true,decide_eq_true_eq] at hw;refine wpAny_Tuple_spliced (thn (cG Sn G es _ R F e1) fun us s1 ⟨M1,l1,R1,r1⟩=>?_);have ul:us.length<=sizeLine:=by
   have:=r1.length;have:=sizeLine_eq;omega
  refine ⟨ul,?_⟩;have R2:Mem X.S κ M1 h1 { s1 with heap:=s1.heap.push { cls:=.type "tuple",data:=.seq us.toArray } }:=R1.kept (t:=s1.toks) fun b o e=>Heap.get?_push_of_some _ e;have ho:(s1.heap.push { cls:=.type "tuple",data:=.seq us.toArray }).get? s1.heap.objs.size=some { cls:=.type "tuple",data:=.seq us.toArray }:=Heap.get?_push_size _ rfl;exact Pw.go l1 ⟨M1.cel (s1.heap.objs.size,s1.heap.objs.size),.cel,R2.add R1.size R1.size ⟨⟨_,ho⟩,_,ho⟩ ⟨_,us,ho,⟨⟨_,rfl⟩,ul⟩,RepWs.go .cel r1⟩,(s1.heap.objs.size,s1.heap.objs.size),by show (M1.m++[_])[h1.length]?=_;rw [<- R1.len];simp,rfl⟩
 | none=>exact xA (Sn.F G e)
end
end DL

namespace DL
open PySem PySem.Spec PyProof.Rows L2 CI
section
variable {X:Cx} {st:Sta} {d:Nat} {v:Evs} {κ:Kp} {M:Mp} {δ:DSt} {h h':aA} {s:Shared} {a b c e o tg iter:Expr} {es:List Expr} {pos p p2 apos px:Pos} {x m:Str} {w:W} {i:Nat}
def mS (h:jB e=false) (t:Option Expr) (l:Nat) (env:Env):swapsWith e t l env=pure false:=by
 cases e<;>first | rfl | cases h
def sS (F:Fra X κ M δ) (G:Good X st d) {elt:Expr} {gs:List Comprehension} {sc:Scope} {l:Nat} :
  swapsWith (.ListComp elt gs sc p) (some (.Name x px)) l X.env=pure (swB st (.ListComp elt gs sc p) x px):=by
 show (pure (X.env.blockKind==.function&&X.env.kindOf x==some .local&&px.line==p.line&&!(sc.names.any fun (n,k)=>n==x&&(k==.local||k==.cell))):Sem Bool)=_;unfold swB;dsimp only;have e1:(X.env.blockKind==.function)=true:=by unfold Env.blockKind;rw [F.ok.kind];rfl
 have e2:(X.env.kindOf x==some .local)=dJ st.S x:=by
  unfold Env.kindOf dJ;rw [G.S];cases q:st.S.names.lookup x with
  | none=>rfl
  | some k=>cases k<;>rfl
 rw [e1,e2,Bool.true_and]
def vK (h:aT8 e tg=false) (env:Env):swappedStores [tg] e env=pure none:=by
 cases tg<;>first | rfl | (cases e<;>first | rfl | cases h)
def aX3 (h:aH e=true) (env:Env):(assignEach [e] env).map (·.2)=[assign e env]:=by
 cases e<;>first | rfl | cases h
def xS {f:XR W} (G:Good X st d) (he:SE X e f) (hi:slot st x=some i) (hl:(qA st.S x&&(st.top||dJ st.S x))=true) (hs:∀ ⦃κ M δ⦄,Fra X κ M δ->swapsWith e (some (.Name x px)) pos.line X.env=pure false):SS X (.Assign [.Name x px] e pos) (aR i f):=by
 intro κ M δ h s fl h' R F e';obtain ⟨⟨w,h1⟩,e1,e'⟩:=bind_some e';cases e';obtain ⟨hx,hf⟩:=aH2 G hl;refine wpAny_Assign_Name (thn (he R F e1) fun u s1 ⟨M1,l1,R1,r1⟩=>?_) (hs F);exact aH1 (F.go l1) R1 (lM G hi) hx hf r1 fun s2 κ2 o2 R2 F2 _=>⟨κ2,M1,o2,l1,R2,F2⟩
def aL7 (S:Snd v) (G:Good X st d) (hi:slot st x=some i) (hl:(qA st.S x&&(st.top||dJ st.S x))=true) (hc:jB e=true) (hs:(swB st e x px||!(dJ st.S x))=true) {f:XR W}
  (hf:f=bS (bY v st e)\/f=aK (bY v st e)):SS X (.Assign [.Name x px] e pos) (aR i f):=by
 have no:∀ {e:Expr},f=bS (bY v st e)\/f=aK (bY v st e)->(∀ δ h,bY v st e δ h=none)->SS X (.Assign [.Name x px] e pos) (aR i f):=fun {e} hf n κ M δ h s fl h' R F e'=>by
  obtain ⟨⟨w,h1⟩,e1,e'⟩:=bind_some e';rcases hf with rfl | rfl<;>(obtain ⟨q,e2,_⟩:=bind_some (show (bY v st e δ h).bind _=_ from e1);rw [n] at e2;cases e2)
 cases e with
 | ListComp elt gs sc p =>
  by_cases hw:swB st (.ListComp elt gs sc p) x px=true
  ·rcases gs with _ | ⟨⟨tg,iter,ifs,a⟩,_ | ⟨_,_⟩⟩
   ·exact no hf fun _ _=>rfl
   ·by_cases ha:a=0
    ·subst ha
     by_cases hcc:(oO st.N sc st.S&&!jJ iter)=true
     ·have e0:bY v st (.ListComp elt [⟨tg,iter,ifs,0⟩] sc p)=xb (rV v st tg iter) fun p=>fun δ h=>aN (v.G (st.blk sc) tg) (aF9 v (st.blk sc) ifs) (v.E (st.blk sc) elt) p.2 p.1 p.1 (bK (fL st.N sc) δ) h []:=by
       show kX v st elt tg iter ifs sc=_;unfold kX;rw [if_pos hcc]
      rw [Bool.and_eq_true] at hcc;have hset:jJ iter=false:=by simpa using hcc.2
      have hloc:st.S.names.lookup x=some .local:=by
       unfold swB at hw;simp only [Bool.and_eq_true] at hw;have h1:=hw.1.1;unfold dJ at h1;split at h1
       ·assumption
       ·cases h1
      intro κ M δ h s fl h' R F e';obtain ⟨⟨w,h2⟩,e1,e'⟩:=bind_some e';cases e';have run:∀ {xs:List PyData} {h1:aA},bY v st (.ListComp elt [⟨tg,iter,ifs,0⟩] sc p) δ h=some (xs,h1)->(∀ {κ:Kp} {M:Mp} {u:Value} {s:Shared},Pf X.S κ M h1 xs u s->Pw X.S κ M h2 w u s)->Wp X.S X.A (exec (.Assign [.Name x px] (.ListComp elt [⟨tg,iter,ifs,0⟩] sc p) pos) X.env) (Ps X κ M h2 (.nx (δ.set i (some w)))) NE s:=fun {xs h1} e2 cv=>by
       rw [e0] at e2;obtain ⟨⟨all,c⟩,h0,e3,e4⟩:=aF e2;exact bI8 G.rm.hd (by rw [G.S,G.N];exact lN hcc.1) (uT S G tg iter) (fun cl C=>S.G (cV G cl C) tg) (fun cl C=>uS S (cV G cl C) ifs) (fun cl C=>S.E (cV G cl C) elt) (qL hset _) R F e3 (jM e4) (fun p=>cv (bW2 p)) (lM G hi) (by rw [G.S];exact hloc) (by rw [sS F G,hw])
      rcases hf with rfl | rfl
      ·obtain ⟨⟨xs,h1⟩,e2,e5⟩:=bind_some (show (bY v st _ δ h).bind _=_ from e1);cases e5;exact run e2 fun p=>aG3 p
      ·obtain ⟨⟨xs,h1⟩,e2,e5⟩:=bind_some (show (bY v st _ δ h).bind _=_ from e1);cases e5;exact run e2 fun p=>qC p
     ·exact no hf fun δ h=>by
       show kX v st elt tg iter ifs sc δ h=none;unfold kX;rw [if_neg hcc];rfl
    ·exact no hf fun δ h=>by
      show (if a=0 then kX v st elt tg iter ifs sc else xno) δ h=none;rw [if_neg ha];rfl
   ·exact no hf fun _ _=>rfl
  ·have hw':swB st (.ListComp elt gs sc p) x px=false:=by simpa using hw
   refine xS G ?_ hi hl fun κ M δ F=>by rw [sS F G,hw']
   rcases hf with rfl | rfl
   ·exact xA (kI S G _)
   ·exact oS (kI S G _)
 | SetComp elt gs sc p=>exact no hf fun _ _=>rfl
 | DictComp k w gs sc p=>exact no hf fun _ _=>rfl
 | _=>cases hc
def bY2 (S:Snd v) (G:Good X st d) (hc:jB e=false) (ht:aT8 e tg=false) (hn:aH tg=true):SS X (.Assign [tg] e pos) fun δ h=>((if cvS st tg e=true then bS (v.F st e) else v.E st e) δ h).bind fun p=>(v.G st tg p.1 δ p.2).bind fun q=>some (.nx q.1,q.2):=by
 have he:SE X e (if cvS st tg e=true then bS (v.F st e) else v.E st e):=by
  split
  ·exact xA (S.F G e)
  ·exact S.E G e
 intro κ M δ h s fl h' R F e';obtain ⟨⟨w,h1⟩,e1,e'⟩:=bind_some e';obtain ⟨⟨δ2,h2⟩,e2,e'⟩:=bind_some e';cases e';refine wpAny_Assign_stores (thn (he R F e1) fun u s1 ⟨M1,l1,R1,r1⟩=>?_) (mS hc _ _ _) (vK ht _);rw [aX3 hn];exact thn (S.G G tg R1 (F.go l1) r1 e2) fun _ s2 ⟨κ2,M2,o2,l2,R2,F2⟩=>⟨κ2,M2,o2,l1.trans l2,R2,F2⟩
def bM4 (S:Snd v) (G:Good X st d) (t:Stmt):SS X t (sA v st t):=by
 have one:∀ (tg e:Expr) (pos:Pos),SS X (.Assign [tg] e pos) (if (jB e||aT8 e tg||!(aH tg))=true then fun _ _=>none else fun δ h=>((if cvS st tg e=true then bS (v.F st e) else v.E st e) δ h).bind fun p=>(v.G st tg p.1 δ p.2).bind fun q=>some (.nx q.1,q.2)):=fun tg e pos=>by
  split
  ·exact kE
  ·rename_i hc;simp only [Bool.or_eq_true,not_or,Bool.not_eq_true,Bool.not_eq_true',Bool.not_eq_false] at hc;exact bY2 S G hc.1.1 hc.1.2 (by simpa using hc.2)
 cases t with
 | Return o p =>
  cases o with
  | none=>exact kE
  | some e =>
   refine bV8 (f:=if st.cv.contains "return"=true then aT9 v st e else v.E st e) ?_;split
   ·exact bY1 S G e
   ·exact S.E G e
 | If c a b p=>exact cL9 S G
 | Expr e p =>
  unfold sA;dsimp only;split
  ·exact kE
  ·rename_i hc;exact bI3 S G (mS (by simpa using hc) _ _ _)
 | Pass p=>exact fun _ _ _ _ _ _ _ R F e=>by cases e;exact wpAny_Pass ⟨_,_,.refl,.refl,R,F⟩
 | Break p=>exact fun _ _ _ _ _ _ _ R F e=>by cases e;exact wpAny_Break ⟨_,_,.refl,.refl,R,F⟩
 | Continue p=>exact fun _ _ _ _ _ _ _ R F e=>by cases e;exact wpAny_Continue ⟨_,_,.refl,.refl,R,F⟩
 | For tg iter body els p =>
  rcases els with _ | ⟨_,_⟩
  ·unfold sA;dsimp only;split
   ·exact kE
   ·rename_i hs;exact bV9 G.rm.hd (uT S G tg iter) (S.G G tg) (sF S G body) (qL (by simpa using hs) _)
  ·exact kE
 | Assign tgs e p =>
  rcases tgs with _ | ⟨tg,_ | ⟨_,_⟩⟩
  ·exact kE
  ·cases tg with
   | Name x px =>
    unfold sA;dsimp only;split
    ·rename_i i hi;split
     ·rename_i hl;split
      ·rename_i hc;split
       ·rename_i hw;split
        ·exact aL7 S G hi hl hc hw (.inl rfl)
        ·exact aL7 S G hi hl hc hw (.inr rfl)
       ·exact kE
      ·rename_i hc;have hsw:∀ ⦃κ M δ⦄,Fra X κ M δ->swapsWith e (some (.Name x px)) p.line X.env=pure false:=fun _ _ _ _=>mS (by simpa using hc) _ _ _;split
       ·rename_i hz;rw [Bool.and_eq_true] at hz;have hd:∃ pp,e=.Dict [] [] pp:=by
         have:=hz.2;cases e<;>first | (cases this;done) | skip
         rename_i ks vs pp;cases ks<;>cases vs<;>first | exact ⟨_,rfl⟩ | cases this
        obtain ⟨pp,rfl⟩:=hd;exact xS G bL5 hi hl hsw
       ·split
        ·exact xS G (xA (S.F G e)) hi hl hsw
        ·exact xS G (S.E G e) hi hl hsw
     ·exact kE
    ·exact kE
   | Attribute o f pa=>exact kE
   | _=>exact one _ _ _
  ·cases tg<;>exact kE
 | _=>exact kE
end
def aL8 {v:Evs} (S:Snd v):Snd (step v):=⟨fun G=>bM1 S G,fun G=>bM2 S G,fun G=>kI S G,fun G=>bM3 S G,fun G=>bM4 S G⟩
def bM5:Snd Evs.no:=⟨fun _ _=>dH,fun _ _ _ _ _ _ _ _ _ _ _ e=>(by cases e),fun _ _=>gL,fun _ _=>aB3,fun _ _=>kE⟩
theorem xT:∀ n,Snd (evs n)
 | 0=>bM5
 | n+1=>aL8 (xT n)
end DL

namespace DL
open PySem PySem.Spec PyProof.Rows L2 CI
def zip_fst {α β:Type} {a:α} {b:β} {l:List α} {r:List β} (h:(a,b)∈l.zip r):a∈l:=(List.of_mem_zip h).1
section
variable {kd:Str->Option NameKind} {x:Str} {v:Value}
theorem jP:∀ {bs:List (Str×Value)} {m:Str->Option Value},(∀ v,(x,v)∉bs)->bindL kd bs m x=m x/\bindC kd bs m x=m x
 | [],_,_=>⟨rfl,rfl⟩
 | (n,v)::r,m,h=>by
  unfold bindL bindC;have ne:x≠n:=by rintro rfl;exact h v List.mem_cons_self
  rw [(jP fun w hw=>h w (List.mem_cons_of_mem _ hw)).1,(jP fun w hw=>h w (List.mem_cons_of_mem _ hw)).2];constructor<;>split<;>simp [ne]
theorem mT:∀ {P:List Str} {vs:List Value} {i:Nat} {m:Str->Option Value},P.Nodup->P[i]?=some x->vs[i]?=some v->(kd x=some .local->bindL kd (P.zip vs) m x=some v)/\(kd x≠some .local->bindC kd (P.zip vs) m x=some v)
 | [],_,_,_,_,h,_=>by simp at h
 | _::_,[],_,_,_,_,h=>by simp at h
 | p::P,w::vs,0,m,nd,h1,h2=>by
  simp at h1 h2;subst h1;subst h2;have no:∀ v,(p,v)∉P.zip vs:=fun v hv=>(List.nodup_cons.mp nd).1 (zip_fst hv);refine ⟨fun hk=>?_,fun hk=>?_⟩
  ·show bindL kd ((p,w)::P.zip vs) m p=_;unfold bindL;rw [(jP no).1,if_pos hk];simp
  ·show bindC kd ((p,w)::P.zip vs) m p=_;unfold bindC;rw [(jP no).2,if_neg hk];simp
 | p::P,w::vs,i+1,m,nd,h1,h2=>by
  have ih:=fun m=>mT (i:=i) (m:=m) (List.nodup_cons.mp nd).2 (by simpa using h1) (by simpa using h2);refine ⟨fun hk=>?_,fun hk=>?_⟩
  ·show bindL kd ((p,w)::P.zip vs) m x=_;unfold bindL;exact (ih _).1 hk
  ·show bindC kd ((p,w)::P.zip vs) m x=_;unfold bindC;exact (ih _).2 hk
end
def aB4 {N:List Str} {ws:List W} {i:Nat} {w:W} (h:(eW N ws)[i]?=some (some w)):ws[i]?=some w:=by
 unfold eW at h
 by_cases hi:i < ws.length
 ·rw [List.getElem?_append_left (by simpa using hi),List.getElem?_map] at h;cases e:ws[i]? with
  | none=>rw [e] at h;cases h
  | some a=>rw [e] at h;cases h;rfl
 ·rw [List.getElem?_append_right (by simpa using hi),List.getElem?_replicate] at h;split at h<;>cases h
structure FnSc (t:Stmt):Prop where
 kind:(defScope t).kind=.function
 co:(defScope t).isCoroutine=false
 gen:(defScope t).isGenerator=false
 nd:(bT t).Nodup
 par:∀ x∈parsOf t,Loc (defScope t) x
 nofree:∀ y∈(defScope t).names,y.2≠.free
def bY3 {t:Stmt} (h:fnB t=true):FnSc t:=by
 unfold fnB at h;simp only [Bool.and_eq_true,decide_eq_true_eq,List.all_eq_true,Bool.not_eq_true'] at h;obtain ⟨h1,h2,h3,h4,h5,h6⟩:=h;refine ⟨h1,h2,h3,h4,fun x hx=>?_,fun y hy e=>?_⟩
 ·have:=h5 x hx;unfold qA at this;split at this
  ·rename_i q;exact .inl q
  ·rename_i q;exact .inr q
  ·cases this
 ·have:=h6 y hy;rw [e] at this;cases this
def aX4 {t:Stmt} {i:Nat} {y:Str} (e:(bT t)[i]?=some y) (hi:i < (parsOf t).length):(parsOf t)[i]?=some y:=by
 unfold bT at e
 rwa [List.getElem?_append_left hi] at e
abbrev cxF (S:Sx) (t:Stmt) (q:Str) (L f:Addr) (cd:Value) (A:Around):Cx:=⟨S,A.deeper (envOfC q (defScope t) L f cd),bT t,envOfC q (defScope t) L f cd,true⟩
section
variable {S:Sx} {κ:Kp} {M:Mp} {h h':aA} {s s1:Shared} {A:Around} {t:Stmt} {q:Str} {f:Addr} {cd:Value} {us:List Value} {ws:List W}
def aB5 (FS:FnSc t) (md:Mod S) (hz:S.base.objs.size<=s.heap.objs.size) (hl:ws.length=(parsOf t).length) (fo:FrO κ A) (R:Mem S κ M h s) (r:RepWs S M ws us)
  (x:InCallC s s.heap.objs.size (bindL (envOfC q (defScope t) s.heap.objs.size f cd).kindOf ((parsOf t).zip us) fun _=>none) (cellsFrom (s.heap.objs.size+1) (defScope t).names []) (bindC (envOfC q (defScope t) s.heap.objs.size f cd).kindOf ((parsOf t).zip us) fun _=>none) s1) :
  ∃ κ1,Mem S κ1 M h s1/\Fra (cxF S t q s.heap.objs.size f cd A) κ1 M (eW (bT t) ws)/\∀ κ2,Own (cxF S t q s.heap.objs.size f cd A) κ1 κ2->∀ a y,κ a=some y->κ2 a=some y:=by
 obtain ⟨h1,tk,rfl,hk⟩:=x.done;have R1:Mem S κ M h { s with heap:=h1,toks:=tk }:=R.kept hk
 let fp:=(cellsFrom (s.heap.objs.size+1) (defScope t).names []).map (·.2)
 have up:∀ b∈fp,s.heap.objs.size < b:=fun b hb=>by
  obtain ⟨⟨n,c⟩,hm,rfl⟩:=List.mem_map.mp hb;exact x.above n c hm
 have fr:∀ b∈fp,aZ κ M b:=fun b hb=>R.new (Heap.get?_none_of_le (Nat.le_of_lt (up b hb)));have R2:=R1.pin fr;obtain ⟨o,es,ep,ho,hd,hs,hf⟩:=x.toInCall.ns;have f0:=R.size;have R3:=R2.more (b:=false) ⟨f0.1,f0.2.2⟩ ho;have mem:∀ y c,(cellsFrom (s.heap.objs.size+1) (defScope t).names []).lookup y=some c->c∈fp:=fun y c e=>List.mem_map.mpr ⟨_,PySem.mem_of_lookup e,rfl⟩;have kc:∀ y c,(cellsFrom (s.heap.objs.size+1) (defScope t).names []).lookup y=some c->∃ oc,((fR κ fp h1).up s.heap.objs.size (false,o)) c=some (true,oc)/\oc.data=.cell (bindC (envOfC q (defScope t) s.heap.objs.size f cd).kindOf ((parsOf t).zip us) (fun _=>none) y):=fun y c e=>by
  obtain ⟨oc,h2,h3⟩:=x.cell y c e;have h2:h1.get? c=some oc:=h2;refine ⟨oc,?_,h3⟩;rw [bG (Nat.ne_of_gt (up c (mem y c e)))];unfold fR;rw [if_pos (mem y c e),h2];rfl
 have has:∀ {y:Str},(defScope t).names.lookup y=some .cell->∃ c,(cellsFrom (s.heap.objs.size+1) (defScope t).names []).lookup y=some c:=fun hy=>Option.isSome_iff_exists.mp (PySem.W.cellsFrom_some _ _ _ (.inl hy));have ndP:(parsOf t).Nodup:=(List.sublist_append_left _ _).nodup FS.nd;refine ⟨_,R3,⟨⟨md,FS.kind,rfl,rfl,fun y z c a b=>name_of_addr x.apart (PySem.mem_of_lookup a) (PySem.mem_of_lookup b),fun y hy=>?_,hz,FS.nd⟩,?_,⟨o,_,fQ,⟨es,ep,hd,hs,hf⟩,fun i y w e1 e2 e3=>?_⟩,fun y c e=>?_,?_⟩,fun κ2 own a y ea=>?_⟩
 ·have hy:(defScope t).names.lookup y=some .cell\/(defScope t).names.lookup y=some .free:=hy;rcases hy with hy | hy
  ·exact has hy
  ·exact absurd rfl (FS.nofree _ (PySem.mem_of_lookup hy))
 ·show (eW (bT t) ws).length=(bT t).length;unfold eW;rw [List.length_append,List.length_map,List.length_replicate,hl];have:(parsOf t).length<=(bT t).length:=by unfold bT;rw [List.length_append];omega
  omega
 ·have ew:=aB4 e2;obtain ⟨u,eu,ru⟩:=iQ r ew;have hi:i < (parsOf t).length:=by rw [<- hl];exact (List.getElem?_eq_some_iff.mp ew).1
  have ep:=aX4 e1 hi;refine ⟨u,ru,?_⟩;rcases FS.par y (List.mem_of_getElem? ep) with k | k
  ·exact .inl ⟨k,(mT ndP ep eu).1 k⟩
  ·obtain ⟨c,e⟩:=has k;obtain ⟨oc,h2,h3⟩:=kc y c e;rw [(mT ndP ep eu).2 (by show (defScope t).names.lookup y≠_;rw [k];decide)] at h3;exact .inr ⟨.inl k,c,oc,e,h2,h3⟩
 ·obtain ⟨oc,h2,h3⟩:=kc y c e;exact ⟨oc,_,h2,h3⟩
 ·obtain ⟨l,e1,e2⟩:=fo;refine ⟨envOfC q (defScope t) s.heap.objs.size f cd::l,by simp [Around.deeper,e1],fun env he=>?_⟩;rcases List.mem_cons.mp he with rfl | he
  ·exact ⟨by show (defScope t).kind≠_;rw [FS.kind];decide,_,o,rfl,fQ,fun vs z=>by rw [hd] at z;cases z⟩
  ·obtain ⟨k1,L,o',k2,k3,k4⟩:=e2 env he;refine ⟨k1,L,o',k2,?_,k4⟩;rw [bG fun z=>by rw [z,f0.2.1] at k3;cases k3];unfold fR;rw [if_neg fun z=>by rw [(fr L z).2.1] at k3;cases k3];exact k3
 ·have nL:a≠s.heap.objs.size:=fun z=>by rw [z,f0.2.1] at ea;cases ea
  have nf:a∉fp:=fun z=>by rw [(fr a z).2.1] at ea;cases ea
  have e1:((fR κ fp h1).up s.heap.objs.size (false,o)) a=κ a:=by
   rw [bG nL];unfold fR;rw [if_neg nf]
  by_cases e2:κ2 a=((fR κ fp h1).up s.heap.objs.size (false,o)) a
  ·rw [e2,e1,ea]
  ·rcases own a e2 with z | ⟨_,y',z⟩
   ·exact (nL z).elim
   ·exact (nf (mem y' a z)).elim
end
end DL

namespace DL
open PySem PySem.Spec PyProof.Rows L2 CI
section
variable {S:Sx} {κ κ2:Kp} {M M2:Mp} {h h1:aA} {s s':Shared} {n:Nat}
noncomputable def Low (n:Nat):Cell->Prop
 | .r is=>∀ j,W.c j∈is->j < n
 | .p is=>∀ j,W.c j∈is->j < n
 | .o _ fs=>∀ f j,fs.lookup f=some (.c j)->j < n
 | _=>True
def aL9 {c:Cell} (hc:∀ j∈cRefs c,j < n):Low n c:=by
 cases c with
 | r is=>exact fun j hj=>hc j (List.mem_flatten.mpr ⟨[j],List.mem_map.mpr ⟨_,hj,rfl⟩,List.mem_singleton.mpr rfl⟩)
 | p is=>exact fun j hj=>hc j (List.mem_flatten.mpr ⟨[j],List.mem_map.mpr ⟨_,hj,rfl⟩,List.mem_singleton.mpr rfl⟩)
 | o C fs =>
  intro f j e;refine hc j ?_;unfold cRefs;exact List.mem_flatten.mpr ⟨[j],List.mem_map.mpr ⟨_,PySem.mem_of_lookup e,rfl⟩,List.mem_singleton.mpr rfl⟩
 | _=>exact True.intro
def bM6 {H:Heap} {p:Addr×Addr} {c:Cell} (x:CellOk S M H p c):Low M.m.length c:=by
 cases c with
 | r is =>
  obtain ⟨us,k,_,_,r⟩:=x;intro j hj;obtain ⟨i,hi⟩:=List.getElem?_of_mem hj;obtain ⟨u,_,p,ep,_⟩:=iQ r hi;exact (List.getElem?_eq_some_iff.mp ep).1
 | p is =>
  obtain ⟨o,us,_,_,r⟩:=x;intro j hj;obtain ⟨i,hi⟩:=List.getElem?_of_mem hj;obtain ⟨u,_,p,ep,_⟩:=iQ r hi;exact (List.getElem?_eq_some_iff.mp ep).1
 | o C fs =>
  obtain ⟨_,_,_,mA,_,r,_⟩:=x;intro f j e;obtain ⟨u,_,p,ep,_⟩:=RelO.some_of (by rw [<- e];exact r f);exact (List.getElem?_eq_some_iff.mp ep).1
 | _=>exact True.intro
def sT {w:W} {u:Value} (r:RepW S M w u) (hl:∀ j,w=.c j->j < n):RepW S ⟨M.Z,M.m.take n⟩ w u:=by
 cases w with
 | d x=>exact r
 | c j =>
  obtain ⟨p,ep,e⟩:=r;exact ⟨p,by show (M.m.take n)[j]?=_;rw [List.getElem?_take_of_lt (hl j rfl)];exact ep,e⟩
theorem kJ:∀ {is:List W} {us:List Value},RepWs S M is us->(∀ j,W.c j∈is->j < n)->RepWs S ⟨M.Z,M.m.take n⟩ is us
 | [],_,r,_=>by cases r;exact .nil
 | i::is,_,r,l=>by
  cases r with
  | cons a b=>exact .cons (sT a fun j ej=>l j (by rw [ej];exact List.mem_cons_self)) (kJ b fun j hj=>l j (List.mem_cons_of_mem _ hj))
def aM0 {H:Heap} {p:Addr×Addr} {c:Cell} (x:CellOk S M H p c) (l:Low n c):CellOk S ⟨M.Z,M.m.take n⟩ H p c:=by
 cases c with
 | r is =>
  obtain ⟨us,k,e,z,r⟩:=x;exact ⟨us,k,e,z,kJ r l⟩
 | p is =>
  obtain ⟨o,us,e,z,r⟩:=x;exact ⟨o,us,e,z,kJ r l⟩
 | o C fs =>
  obtain ⟨a,b,c,mA,d,r,e⟩:=x;refine ⟨a,b,c,mA,d,fun f=>?_,e⟩;have rf:=r f;cases q:fs.lookup f with
  | none=>rw [q] at rf;cases q2:mA f with
   | none=>exact True.intro
   | some u=>rw [q2] at rf;exact rf.elim
  | some w =>
   rw [q] at rf;obtain ⟨u,eu,ru⟩:=RelO.some_of rf;rw [eu];exact sT ru fun j ej=>l f j (by rw [q,ej])
 | l xs=>exact x
 | k xs=>exact x
 | n xs=>exact x
 | t xs=>exact x
def Mem.cut (R0:Mem S κ M h s) (l:Le M M2) (R:Mem S κ M2 h1 s') (ok:okP h h1):Mem S κ ⟨M2.Z,M.m⟩ (h1.take h.length) s':=by
 obtain ⟨k,ek⟩:=l.m;have em:M.m=M2.m.take h.length:=by rw [ek,<- R0.len];simp
 have lt:h.length<=h1.length:=by rw [<- R.len,ek,<- R0.len];simp
 have at_:∀ {i:Nat} {p:Addr×Addr},M.m[i]?=some p->M2.m[i]?=some p:=fun e=>l.at e;have sub:∀ p∈M.m,p∈M2.m:=fun p hp=>by rw [ek];exact List.mem_append_left _ hp
 refine ⟨R.z,R.k,by rw [List.length_take];show M.m.length=_;rw [R0.len];omega,fun i j p q a b=>R.ap i j p q (at_ a) (at_ b),fun p hp=>R.off p (sub p hp),fun i p c a b=>?_,R.base,R.bare,R.os⟩;have a:M.m[i]?=some p:=a;have hi:i < h.length:=by rw [<- R0.len];exact (List.getElem?_eq_some_iff.mp a).1
 rw [List.getElem?_take_of_lt hi] at b;have lo:Low h.length c:=by
  rcases ok i c hi b with z | z
  ·exact aL9 z
  ·have:=bM6 (R0.cel i p c a z)
   rwa [R0.len] at this
 have:=aM0 (R.cel i p c (at_ a) b) lo
 rwa [<- em] at this
theorem qV {j k:Nat}:∀ {ws:List W},noC j ws=true->W.c k∈ws->k≠j
 | [],_,h=>by cases h
 | .c i::ws,e,h=>by
  unfold noC at e;rw [Bool.and_eq_true,decide_eq_true_eq] at e;rcases List.mem_cons.mp h with z | z
  ·cases z;exact e.1
  ·exact qV e.2 z
 | .d x::ws,e,h=>by
  unfold noC at e;rcases List.mem_cons.mp h with z | z
  ·cases z
  ·exact qV e z
theorem aM1 {j:Nat} {H:aA}:∀ {ws:List W} {ds:List PyData},sB n H ws=some ds->W.c j∈ws->∃ xs,H[j]?=some (.l xs)
 | [],_,_,h=>by cases h
 | .d x::ws,_,e,_=>by cases e
 | .c i::ws,ds,e,h=>by
  unfold sB at e;split at e
  ·rename_i xs ei;obtain ⟨_,e⟩:=aE e;obtain ⟨ds',e',rfl⟩:=map_some e;rcases List.mem_cons.mp h with z | z
   ·cases z;exact ⟨xs,ei⟩
   ·exact aM1 e' z
  ·cases e
theorem xU {m:List (Addr×Addr)} {H hc:aA} (R:Mem S κ M2 H s') (hm:∀ j q,n<=j->M2.m[j]?=some q->κ q.1=none/\∀ p∈m,p.1≠q.1/\p.2≠q.1):∀ (ws:List W) (us:List Value) (ds:List PyData) (N:Mp),sB n H ws=some ds->RepWs S M2 ws us->N.m=m->Le ⟨M2.Z,m⟩ N->Mem S κ N hc s'->(∀ j q,W.c j∈ws->M2.m[j]?=some q->N.Z q.1=none) ->
  ∃ N',Le N N'/\N'.m=m/\Mem S κ N' hc s'/\Paired (Rep S N'.Z) ds us/\∀ a,N.Z a=none->(∀ j q,W.c j∈ws->M2.m[j]?=some q->q.1≠a)->N'.Z a=none
 | [],us,ds,N,e,r,em,l,RN,hz=>by
  cases e;cases r;exact ⟨N,.refl,em,RN,.nil,fun a h _=>h⟩
 | .d x::ws,us,ds,N,e,r,em,l,RN,hz=>by cases e
 | .c j::ws,us,ds,N,e,r,em,l,RN,hz=>by
  unfold sB at e;split at e
  ·rename_i xs ej;obtain ⟨⟨hj,hn⟩,e⟩:=aE e;obtain ⟨ds',e',rfl⟩:=map_some e;cases r with
   | @cons _ u _ us ru rus =>
    obtain ⟨q,eq,rfl⟩:=ru;obtain ⟨vs,k,ho,hl,rr⟩:=R.cel j q _ eq ej;have z0:=hz j q List.mem_cons_self eq;obtain ⟨k0,m0⟩:=hm j q hj eq;have R1:Mem S κ (N.add q.1 (aV vs k)) hc s':=RN.frz ⟨z0,k0,by rw [em];exact m0⟩ ho;have l1:Le N (N.add q.1 (aV vs k)):=Le.add z0;obtain ⟨N',l2,em',R',rp,hk⟩:=xU R hm ws us ds' (N.add q.1 (aV vs k)) e' rus em (l.trans l1) R1 fun j' q' hj' eq'=>by
     obtain ⟨a,_⟩:=R.ap j j' q q' eq eq' (fun z=>qV hn hj' z.symm);show (if q'.1=q.1 then _ else N.Z q'.1)=none;rw [if_neg (Ne.symm a)];exact hz j' q' (List.mem_cons_of_mem _ hj') eq'
    refine ⟨N',l1.trans l2,em',R',.cons (rep_l.mpr ⟨_,_,vs,rfl,l2.z _ _ hO,⟨⟨k,rfl⟩,hl⟩,Reps'.go (M:=⟨M2.Z,m⟩) ((l.trans l1).trans l2) rr⟩) rp,fun a ha hq=>?_⟩;refine hk a ?_ fun j' q' hj' eq'=>hq j' q' (List.mem_cons_of_mem _ hj') eq';show (if a=q.1 then _ else N.Z a)=none;rw [if_neg (Ne.symm (hq j q List.mem_cons_self eq))];exact ha
  ·cases e
def aX5 {p:Fl×aA} {z:PyData} {h2:aA} {u:Value} (R0:Mem S κ M h s) (l:Le M M2) (R:Mem S κ M2 p.2 s') (e:aJ h p=some (z,h2)) (hr:(∃ δ,p.1=.nx δ/\u=.none)\/∃ w,p.1=.rt w/\RepW S M2 w u):Pw S κ M h2 (.d z) u s':=by
 unfold aJ at e
 classical
 obtain ⟨ok,e⟩:=aE e;have R3:=R0.cut l R ok;have l3:Le M ⟨M2.Z,M.m⟩:=⟨l.z,[],by simp⟩;rcases hr with ⟨δ,hp,rfl⟩ | ⟨w,hp,r⟩
 ·rw [hp] at e;cases e;exact R3.pn.go l3
 ·rw [hp] at e;cases w with
  | d y=>cases e;exact ⟨_,l3,R3,r⟩
  | c i =>
   dsimp only at e;obtain ⟨q,eq,rfl⟩:=r;obtain ⟨z1,k1,_⟩:=R.off q (List.mem_of_getElem? eq) q.1 (.inl rfl);have fr:h.length<=i->aZ κ ⟨M2.Z,M.m⟩ q.1:=fun hi=>⟨z1,k1,fun r hr=>by
    obtain ⟨j,hj⟩:=List.getElem?_of_mem hr;have hj:M.m[j]?=some r:=hj;have hlt:j < h.length:=by rw [<- R0.len];exact (List.getElem?_eq_some_iff.mp hj).1
    obtain ⟨a,_,b,_⟩:=R.ap j i r q (l.at hj) eq (by omega);exact ⟨a,b⟩⟩
   split at e
   ·rename_i xs ei;obtain ⟨hi,e⟩:=aE e;cases e;obtain ⟨us,n,ho,hz,rr⟩:=R.cel i q _ eq ei;exact ⟨_,l3.trans (Le.add (fr hi).1),R3.frz (fr hi) ho,rep_l.mpr ⟨_,_,us,rfl,hO,⟨⟨n,rfl⟩,hz⟩,Reps'.go (Le.add (fr hi).1) rr⟩⟩
   ·rename_i xs ei;obtain ⟨hi,e⟩:=aE e;cases e;obtain ⟨vs,hd,rr,hs,hz⟩:=R.cel i q _ eq ei;obtain ⟨o,es,ep,ho,hr⟩:=hd;exact ⟨_,l3.trans (Le.add (fr hi).1),R3.frz (fr hi) ho,(aF3 (wN rr)).mpr ⟨_,o,vs,rfl,hO,⟨hs,hz,fun h2 e2=>⟨o,es,ep,e2,hr⟩⟩,RepK.go (M:=⟨M2.Z,M.m⟩) (Le.add (fr hi).1) rr⟩⟩
   ·rename_i ws ei;obtain ⟨hi,e⟩:=aE e;obtain ⟨ds,ed,e⟩:=map_some e;cases e;obtain ⟨o,us,ho,sq,rr⟩:=R.cel i q _ eq ei;have hm:∀ j q',h.length<=j->M2.m[j]?=some q'->κ q'.1=none/\∀ p∈M.m,p.1≠q'.1/\p.2≠q'.1:=fun j q' hj eq'=>by
     obtain ⟨_,k1,_⟩:=R.off q' (List.mem_of_getElem? eq') q'.1 (.inl rfl);refine ⟨k1,fun r hr=>?_⟩;obtain ⟨j2,hj2⟩:=List.getElem?_of_mem hr;have hj2:M.m[j2]?=some r:=hj2;have hlt:j2 < h.length:=by rw [<- R0.len];exact (List.getElem?_eq_some_iff.mp hj2).1
     obtain ⟨a,_,b,_⟩:=R.ap j2 j r q' (l.at hj2) eq' (by omega);exact ⟨a,b⟩
    obtain ⟨N',l4,em,R4,rp,hk⟩:=xU R hm ws us ds ⟨M2.Z,M.m⟩ ed rr rfl .refl R3 fun j q' _ eq'=>(R.off q' (List.mem_of_getElem? eq') q'.1 (.inl rfl)).1;have zq:N'.Z q.1=none:=hk q.1 z1 fun j q' hj eq'=>by
     have hji:j≠i:=fun z=>by
      subst z;obtain ⟨xs,ex⟩:=aM1 ed hj;rw [ei] at ex;cases ex
     exact (R.ap j i q' q eq' eq hji).1
    have fr4:aZ κ N' q.1:=⟨zq,k1,by rw [em];exact (fr hi).2.2⟩;exact ⟨_,(l3.trans l4).trans (Le.add zq),R4.frz fr4 ho,rep_t.mpr ⟨_,o,us,rfl,hO,sq,pY (fun _ _ x=>Rep.go (Le.add zq).z x) rp⟩⟩
   ·cases e
end
structure Fun (K:PySem.W.Frag) (x qual:Str) (st:Stmt) (f:Addr) (fd:FuncData):Prop where
 ex:∃ (oc:Value) (od:Option Addr) (kV doc pm:Value) (an:Option Addr) (cdv ct:Value) (osl:Array (Option Value)),
  fd=PySem.W.fnOf x qual (cF st) (bC st) (defScope st) .none kV doc pm an cdv ct/\K.lookup f=some ⟨oc,od,.func fd,osl⟩/\PySem.W.codeIn K cdv qual=true
 kp:PySem.W.keepIn K (.ref f)=true
structure TopOk (t:Top) (S:Sx):Prop where
 bl:∀ x,t.bl.contains x=true->S.mg x=none
 gc:∀ x z,t.gc x=some z->∃ u,S.mg x=some u/\Rep S S.base.get? z u
 tk:∀ x f,t.tk x=some f->∃ p,S.mg x=some (.ref p)/\TabK S p f
 defs:∀ x s,t.defs x=some s->∃ f fd,Fun S.K x x s f fd/\S.mg x=some (.ref f)/\hU S.K fd (parsOf s)
 ini:∀ x C s,t.ini x=some (C,s)->∃ n q f fd,Fun S.K n q s f fd/\Mk S.K C f/\S.mg x=some (.ref C)/\hU S.K fd (parsOf s)
 mt:∀ x C s,t.mt x=some (C,s)->Cls S.K C/\∃ n q f fd,Fun S.K n q s f fd/\Meth S.K C x f/\hU S.K fd (parsOf s)
 fo:∀ C f,t.fo C f=true->Cls S.K C/\uN S.K C f
 qn:∀ x q,t.qn x=some q->t.mt x=none/\t.ini x=none/\∀ s f fd,Fun S.K x x s f fd->S.mg x=some (.ref f)->x++".<locals>."=q.1/\∃ c0,fd.code=.ref c0/\TbS S c0 q.2
structure TabOk (S:Sx) (d:Nat) (fn:Str->Option XF) (ob:ObS):Prop where
 fn:∀ x m,fn x=some m->FnG S d x (toW m)
 fnW:∀ x m,ob.fnW x=some m->FnG S d x m
 cls:∀ x C m,ob.cls x=some (C,m)->(∀ ws h,m ws h=none)\/∃ k f fd ps,k+1<=d/\Mk S.K C f/\FnS S k f fd ps m/\S.mg x=some (.ref C)/\hU S.K fd ps
 om:∀ x C m,ob.om x=some (C,m)->(∀ ws h,m ws h=none)\/(Cls S.K C/\∃ f fd ps,Meth S.K C x f/\FnS S d f fd ps m/\hU S.K fd ps)
 fo:∀ C f,ob.fo C f=true->Cls S.K C/\uN S.K C f
section
variable {S:Sx} {t:Top} {fn:Str->Option XF} {ob:ObS} {x n q:Str} {st:Stmt} {f:Addr} {fd:FuncData} {k:Nat}
def aX6 {A:Around} {L:Addr} {cd:Value} (T:TopOk t S) (B:TabOk S k fn ob) (hr:Room (k+1) A) (hq:∀ q',t.qn x=some q'->q++".<locals>."=q'.1/\∃ c0,cd=.ref c0/\TbS S c0 q'.2):Good (cxF S st q L f cd A) (t.sta fn ob x st) k :=
 ⟨T.bl,T.gc,T.tk,B.fn,B.fnW,B.cls,B.om,B.fo,rfl,rfl,fun _=>rfl,hr.deeper _,fun q' e=>⟨(hq q' e).1,(hq q' e).2,by have:=hr.dp;show A.depth+1+3*k+7 < _;omega,by have:=hr.un;show A.units+3+16*k+212 < _;omega⟩⟩
def aM2 {m:XFW} (hq:∀ q',t.qn x=some q'->q++".<locals>."=q'.1/\∃ c0,fd.code=.ref c0/\TbS S c0 q'.2) (T:TopOk t S) (F:Fun S.K n q st f fd) (B:TabOk S k fn ob) (hb:fnB st=true) (len:∀ ws h r,m ws h=some r->ws.length=(parsOf st).length)
  (he:∀ ws h r,m ws h=some r->∃ p,xSs (evs t.deep) (t.sta fn ob x st) (bC st) (eW (bT st) ws) h=some p/\∀ {κ M M2 s s' u},Mem S κ M h s->Le M M2->Mem S κ M2 p.2 s'->((∃ δ,p.1=.nx δ/\u=.none)\/∃ w,p.1=.rt w/\RepW S M2 w u)->Pw S κ M r.2 r.1 u s') (hnb:∀ ws h r p,m ws h=some r->xSs (evs t.deep) (t.sta fn ob x st) (bC st) (eW (bT st) ws) h=some p->(∃ δ,p.1=.nx δ)\/∃ w,p.1=.rt w) :
  FnS S (k+1) f fd (parsOf st) m:=by
 refine ⟨len,fun {A κ M h h' s args us ws w} hr fo md hz R hbd r e=>?_⟩;obtain ⟨oc,od,kV,doc,pm,an,cdv,ct,osl,rfl,lk,hcd⟩:=F.ex;have FS:=bY3 hb;have KX:S.K.In s.heap:=md.kin.keeps R.bk;have lim:s.heap.NoLimit:=md.nolimit.keeps R.bk;have hkind:∀ y∈(parsOf st).zip us,(defScope st).names.lookup y.1=some .local\/((defScope st).names.lookup y.1=some .cell/\((cellsFrom (s.heap.objs.size+1) (defScope st).names []).lookup y.1).isSome=true):=fun ⟨n,v⟩ hy=>by
  rcases FS.par n (zip_fst hy) with q | q
  ·exact .inl q
  ·exact .inr ⟨q,PySem.W.cellsFrom_some _ _ _ (.inl q)⟩
 have hdep:A.depth < recursionLimit:=by have:=hr.dp;omega
 refine codeAny_call_function hdep (KX _ _ lk) rfl FS.co FS.gen rfl (PySem.W.codeRec_of KX hcd) (hbd _ _ _ _ ?_);refine wpAny_newFunctionEnv_cells FS.kind hkind fun env he' s1 ic=>?_;subst he';refine ⟨lim.keeps ic.toInCall.keep,codeAny_func ?_⟩;obtain ⟨⟨fl,h1⟩,ep,fin⟩:=he ws h _ e;obtain ⟨κ1,R1,F1,back⟩:=aB5 (A:=A) FS md hz (len _ _ _ e) fo R r ic;refine wpAny_mono (sF (xT t.deep) (aX6 (x:=x) T B hr hq) _ R1 F1 ep) (fun fl2 s2 ⟨κ2,M2,o2,l2,R2,fw⟩=>?_) fun _ _ z=>z.elim;have R3:Mem S κ M2 h1 s2:=R2.less (back κ2 o2);rcases hnb ws h _ _ e ep with ⟨δ,hp⟩ | ⟨w',hp⟩
 ·cases hp;cases fl2 with
  | next=>exact ⟨.none,rfl,fin R l2 R3 (.inl ⟨δ,rfl,rfl⟩)⟩
  | _=>exact fw.elim
 ·cases hp;cases fl2 with
  | ret u=>exact ⟨u,rfl,fin R l2 R3 (.inr ⟨w',rfl,fw⟩)⟩
  | _=>exact fw.elim
def xV {d:Nat} {ps:List Str} {m:XFW} (hm:∀ ws h,m ws h=none):FnS S d f fd ps m:=⟨fun ws h r e=>(by rw [hm] at e;cases e),fun _ _ _ _ _ _ _ e=>(by rw [hm] at e;cases e)⟩
def aM3 (hq:∀ q',t.qn x=some q'->q++".<locals>."=q'.1/\∃ c0,fd.code=.ref c0/\TbS S c0 q'.2) (T:TopOk t S) (F:Fun S.K n q st f fd) (B:TabOk S k fn ob):FnS S (k+1) f fd (parsOf st) (iV t fn ob x st):=by
 by_cases hb:fnB st=true
 ·have op:∀ {ws h r},iV t fn ob x st ws h=some r->ws.length=(parsOf st).length/\∃ p,xSs (evs t.deep) (t.sta fn ob x st) (bC st) (eW (bT st) ws) h=some p/\iU p=some r:=fun {ws h r} e=>by
   unfold iV at e;obtain ⟨hc,e⟩:=aE e;obtain ⟨p,e1,e2⟩:=bind_some e;exact ⟨hc.2,p,e1,e2⟩
  refine aM2 (x:=x) hq T F B hb (fun ws h r e=>(op e).1) (fun ws h r e=>?_) fun ws h r p e e1=>?_
  ·obtain ⟨_,⟨fl,h1⟩,e1,e2⟩:=op e;refine ⟨_,e1,fun {κ M M2 s s' u} R0 l R hr=>?_⟩;rcases hr with ⟨δ,hp,rfl⟩ | ⟨w,hp,r⟩
   ·cases hp;cases e2;exact (R.pn.go l)
   ·cases hp;cases e2;exact ⟨M2,l,R,r⟩
  ·obtain ⟨_,p',e1',e2⟩:=op e;rw [e1] at e1';cases e1';obtain ⟨fl,h1⟩:=p;cases fl with
   | nx δ=>exact .inl ⟨δ,rfl⟩
   | rt w=>exact .inr ⟨w,rfl⟩
   | _=>cases e2
 ·exact xV fun ws h=>by unfold iV;rw [if_neg fun z=>hb z.1]
def bD9 (hq:∀ q',t.qn x=some q'->q++".<locals>."=q'.1/\∃ c0,fd.code=.ref c0/\TbS S c0 q'.2) (T:TopOk t S) (F:Fun S.K n q st f fd) (B:TabOk S k fn ob):FnS S (k+1) f fd (parsOf st) (toW (mD t fn ob x st)):=by
 by_cases hb:fnB st=true
 ·have op:∀ {ws h r},toW (mD t fn ob x st) ws h=some r->ws.length=(parsOf st).length/\∃ p z,xSs (evs t.deep) (t.sta fn ob x st) (bC st) (eW (bT st) ws) h=some p/\aJ h p=some (z,r.2)/\r.1=.d z:=fun {ws h r} e=>by
   obtain ⟨⟨z,h2⟩,e0,e⟩:=bind_some e;cases e;unfold mD at e0;obtain ⟨hc,e0⟩:=aE e0;obtain ⟨p,e1,e2⟩:=bind_some e0;exact ⟨hc.2,p,z,e1,e2,rfl⟩
  refine aM2 (x:=x) hq T F B hb (fun ws h r e=>(op e).1) (fun ws h r e=>?_) fun ws h r p e e1=>?_
  ·obtain ⟨_,p,z,e1,e2,ez⟩:=op e;refine ⟨_,e1,fun {κ M M2 s s' u} R0 l R hr=>?_⟩;rw [ez];exact aX5 R0 l R e2 hr
  ·obtain ⟨_,p',z,e1',e2,_⟩:=op e;rw [e1] at e1';cases e1';unfold aJ at e2
   classical
   obtain ⟨_,e2⟩:=aE e2;obtain ⟨fl,h1⟩:=p;cases fl with
   | nx δ=>exact .inl ⟨δ,rfl⟩
   | rt w=>exact .inr ⟨w,rfl⟩
   | _=>cases e2
 ·exact xV fun ws h=>by unfold toW mD;rw [if_neg fun z=>hb z.1];rfl
abbrev xW (t:Top) (S:Sx) (d:Nat):Prop:=TabOk S d (fnT t fun y=>aD t d y) (obT t (fun y=>callW t d y) (fun y=>callI t d y) fun y=>callM t d y)
def sU (T:TopOk t S):xW t S 0:=by
 refine ⟨fun x m e=>?_,fun x m e=>?_,fun x C m e=>?_,fun x C m e=>?_,T.fo⟩
 ·obtain ⟨s,hs,rfl⟩:=map_some e;exact .inl fun _ _=>rfl
 ·dsimp only at e;split at e
  ·obtain ⟨s,hs,rfl⟩:=map_some e;exact .inl fun _ _=>rfl
  ·cases e
 ·obtain ⟨p,hs,e2⟩:=map_some e;cases e2;exact .inl fun _ _=>rfl
 ·obtain ⟨p,hs,e2⟩:=map_some e;cases e2;exact .inl fun _ _=>rfl
def sV (T:TopOk t S) {d:Nat} (B:xW t S d) (hI:∀ x C s,t.ini x=some (C,s)->(∀ ws h,callI t (d+1) x ws h=none)\/∃ k f fd ps,k+1<=d+1/\Mk S.K C f/\FnS S k f fd ps (callI t (d+1) x)/\S.mg x=some (.ref C)/\hU S.K fd ps):xW t S (d+1):=by
 refine ⟨fun x m e=>?_,fun x m e=>?_,fun x C m e=>?_,fun x C m e=>?_,T.fo⟩
 ·obtain ⟨s,hs,rfl⟩:=map_some e;obtain ⟨f,fd,F,hm,hb⟩:=T.defs x s hs;have e:aD t (d+1) x=mD t (fnT t fun y=>aD t d y) (obT t (fun y=>callW t d y) (fun y=>callI t d y) fun y=>callM t d y) x s:=by
   rw [aD,hs]
  dsimp only;rw [e];exact .inr ⟨f,fd,parsOf s,hm,F.kp,hb,bD9 (fun q' e=>(T.qn x q' e).2.2 _ _ _ F hm) T F B⟩
 ·dsimp only at e;split at e
  ·obtain ⟨s,hs,rfl⟩:=map_some e;obtain ⟨f,fd,F,hm,hb⟩:=T.defs x s hs;have e:callW t (d+1) x=iV t (fnT t fun y=>aD t d y) (obT t (fun y=>callW t d y) (fun y=>callI t d y) fun y=>callM t d y) x s:=by
    rw [callW,hs]
   try dsimp only
   rw [e];exact .inr ⟨f,fd,parsOf s,hm,F.kp,hb,aM3 (fun q' e=>(T.qn x q' e).2.2 _ _ _ F hm) T F B⟩
  ·cases e
 ·obtain ⟨⟨C',s⟩,hs,e2⟩:=map_some e;cases e2;exact hI x _ s hs
 ·obtain ⟨⟨C',s⟩,hs,e2⟩:=map_some e;cases e2;obtain ⟨hc,n,q,f,fd,F,hM,hb⟩:=T.mt x _ s hs;have e:callM t (d+1) x=iV t (fnT t fun y=>aD t d y) (obT t (fun y=>callW t d y) (fun y=>callI t d y) fun y=>callM t d y) x s:=by
   rw [callM,hs]
  dsimp only;rw [e];exact .inr ⟨hc,f,fd,parsOf s,hM,aM3 (fun q' e=>by rw [(T.qn x q' e).1] at hs;cases hs) T F B,hb⟩
theorem vL (T:TopOk t S):∀ d,xW t S d
 | 0=>sU T
 | 1=>sV T (sU T) fun x C s _=>.inl fun _ _=>rfl
 | d+2=>sV T (vL T (d+1)) fun x C s hs=>by
  obtain ⟨n,q,f,fd,F,hM,hm,hb⟩:=T.ini x C s hs;have e:callI t (d+2) x=iV t (fnT t fun y=>aD t d y) (obT t (fun y=>callW t d y) (fun y=>callI t d y) fun y=>callM t d y) x s:=by
   rw [callI,hs]
  refine .inr ⟨d+1,f,fd,parsOf s,Nat.le_refl _,hM,?_,hm,hb⟩;show FnS S (d+1) f fd (parsOf s) (callI t (d+2) x);rw [e];exact aM3 (fun q' e=>by rw [(T.qn x q' e).2.1] at hs;cases hs) T F (vL T d)
end
end DL

namespace Att
open PySem PySem.W PySem.Calls PyProof.Rows

def lI {P:Params} {h:Heap}:∀ (ns:List Int) (vs:List Value),WellAll P h vs (ns.map WData.int)->IntsAre vs ns:=by
 intro ns;induction ns with
 | nil =>
  intro vs w;rw [List.map_nil] at w;cases w;exact .nil
 | cons n ns ih =>
  intro vs w;rw [List.map_cons] at w;cases w with
  | cons a b =>
   cases a;exact .cons _ _ (ih _ b)

def aB6 {l:OpenLaw} {n:Nat} (hn:l.most=some n) {P:Params} {h:Heap} {args:List WData} {vals:List Value}
  (hpre:l.row.toRowW.claim.pre args=true) (hwl:WellAll P h vals args) :
  ∃ a vs ns,vals=[Value.ref a]/\args=[WData.list (ns.map WData.int)]/\h.get? a=some { cls:=.type "list",data:=.seq vs.toArray }/\IntsAre vs ns/\ns.length<=n:=by
 have hsh:WShape.hasAll [] args [.list .int]=true:=(pre_splitW hpre).1;have hc:l.pre.holds [] { args:=args }=true:=(pre_splitW hpre).2;obtain ⟨d,r,rfl,h1,h2⟩:=hasAllW_cons hsh;obtain rfl:=hasAllW_nil h2;obtain ⟨xs,rfl,h3⟩:=hasW_list h1;obtain ⟨ns,rfl⟩:=items_int h3;have hlen:ns.length<=n:=by
  unfold OpenLaw.pre at hc;have h4:(WTm.not (.lt (.lit (.int (n:Int))) (.len (.arg 0)))).holds [] { args:=[.list (ns.map .int)] }=true:=by
   have h4:=(holds_andW hc).1;rw [hn] at h4;exact h4
  have h5:=condW_of h4 (w_not (w_lt w_lit (w_len_list (w_arg rfl))));rw [List.length_map] at h5;refine Nat.le_of_not_lt fun q=>?_;have q':(n:Int) < ((ns.length:Nat):Int):=by omega
  first
   | (rw [decide_eq_true q'] at h5;exact absurd h5 (by decide))
   | (simp at h5;omega)
 cases hwl with
 | cons w1 w2 =>
  cases w2;cases w1 with
  | list ho hall=>exact ⟨_,_,ns,rfl,rfl,ho,lI ns _ hall,hlen⟩

def aB7 (l:OpenLaw) (args:List WData):l.row.toRowW.claim.post args (.bool true) args=true :=
 postW_of (r:=l.row.toRowW) (X:=(true==true))
  (show WShape.has [] (.bool true) .bool=true by first | rfl | decide | simp [WShape.has,WShape.arms,WShape.armsAll])
  (show (WTm.eq .res (.lit (.bool true))).value [] { args:=args,res:=some (.bool true),after:=args }=some (.bool (true==true)) from w_eq_bool (w_res rfl) w_lit) rfl

def attach_call {l:OpenLaw} {n:Nat} {q:Program} {loose:List Str} {XP:(Str->Option Value)->Heap->Prop} {YP:World->Heap->Prop} {d:DefRec}
  (hn:l.most=some n) (hdf:d.params.defaults=[])
  (call:∀ (w:World) (s₀ s₁:Shared) (mg mb:Str->Option Value) (fa:Addr) (o:Obj) (pm cd doc:Value) (a:Addr) (vs:List Value) (ns:List Int),
   Ground q loose [] XP w s₀ mg mb s₁.heap->YP w s₁.heap ->
   s₁.heap.get? fa=some o->o.data=.func (docDef d.name d.params d.body d.scope pm cd doc)->s₁.heap.CodeRec cd d.name->mg d.name=some (.ref fa) ->
   s₁.heap.get? a=some { cls:=.type "list",data:=.seq vs.toArray }->IntsAre vs ns->ns.length<=n->s₁.gens=#[] ->
   codeAny (model l.prog w) callerA (.call (.ref fa) ⟨[.ref a],[]⟩) (fun r s'=>r=.ok (.ret (.bool true))/\OldK s₁.heap s'.heap/\s'.os=s₁.os/\AllBare s'.gens) s₁) :
  WalkO q loose XP YP l.row.toRowW d [] (fun f vs=>PySem.call f vs):=by
 intro w s₀ s₁ mg mb G Y fa o pm cd doc dV kV ho hd hcd hD hmg hg args vals as hpre hlay hrd hwl hlo;obtain rfl:dV=.none:=Dflts.none hD hdf;obtain rfl:kV=.none:=Dflts.noKw hD;obtain ⟨a,vs,ns,rfl,rfl,hobj,hints,hlen⟩:=aB6 hn hpre hwl;refine enter_call (codeAny_mono (call w s₀ s₁ mg mb fa o pm cd doc a vs ns G Y ho (fd_plain hd) hcd hmg hobj hints hlen hg) fun r s' hq=>?_);obtain ⟨rfl,h2,h3,h4⟩:=hq;exact ⟨.inl ⟨.bool true,.bool true,[],rfl,fun _=>rfl,.bool true,aB7 l _,fun _=>⟨List.Pairwise.nil,fun _ hm=>(nomatch hm)⟩⟩,h2,h3,h4⟩

end Att

namespace CI
open PySem PySem.Spec PyProof.Rows L2 DL
noncomputable def aM4 (x:Str):Stmt->Bool
 | .FunctionDef n _ _ _ _ _ _ _ _ _=>n==x
 | _=>false
def vM (b:List Stmt) (x:Str):Option Stmt:=b.find? (aM4 x)
noncomputable def xX:Nat->Expr->Option PyData
 | _,.Constant (.int i) _ _=>some (.int i)
 | _,.Constant (.str x) _ _=>some (.str x)
 | _,.Constant (.bool x) _ _=>some (.bool x)
 | _,.Constant .none _ _=>some .none
 | n+1,.Tuple es _ _=>(es.mapM (xX n)).map .tuple
 | _,_=>none
def bM7 (b:List Stmt) (x:Str):Option PyData:=b.findSome? fun s=>match s with
 | .Assign [.Name y _] e _=>if y==x&&!(x==("__name__":Str)) then xX 4 e else none
 | _=>none
def bM8:List (Option Expr)->List Expr->Option (List (Str×PyData))
 | [],[]=>some []
 | some (.Constant (.str x) _ _)::ks,e::vs=>(xX 4 e).bind fun i=>(bM8 ks vs).map ((x,i)::·)
 | _,_=>none
noncomputable def tkS:(s:Stmt)->Option (Str×List (Option Expr)×List Expr)
 | .Assign [.Name y _] (.Dict ks vs _) _=>some (y,ks,vs)
 | _=>none
def bM9 (b:List Stmt) (x:Str):Option (Str->Option PyData):=b.findSome? fun s=>(tkS s).bind fun y=>if y.1==x then (bM8 y.2.1 y.2.2).map fun t z=>t.lookup z else none
noncomputable def blAll:List Str:=["len","tuple","all","any","isinstance","int","bool","str","list","range","sorted","set","zip","enumerate","dict","max","min","sum","reversed","abs"]
def bE0 (b:List Stmt) (ac:Str->List Nat) (cv:Str->List Str) (fuel deep:Nat) (wf:Str->Bool:=fun _=>false) (ini mt:Str->Option (Addr×Stmt):=fun _=>none) (fo:Addr->Str->Bool:=fun _ _=>false) (qn:Str->Option (Str×Pos):=fun _=>none):Top:=⟨blAll,bM7 b,bM9 b,vM b,ac,cv,fuel,deep,wf,ini,mt,fo,qn⟩
def gcl (b:List Stmt):List (Str×PyData):=b.filterMap fun s=>match s with
 | .Assign [.Name y _] e _=>if !(y==("__name__":Str)) then (xX 4 e).map (y,·) else none
 | _=>none
def bN0 {b:List Stmt} {x:Str} {z:PyData} (h:bM7 b x=some z):(x,z)∈gcl b:=by
 obtain ⟨s,hs,e⟩:=List.exists_of_findSome?_eq_some h;refine List.mem_filterMap.mpr ⟨s,hs,?_⟩;split at e
 ·rename_i y p e0 q;split at e
  ·rename_i hc;rw [Bool.and_eq_true] at hc;have:y=x:=eq_of_beq hc.1;subst this;try simp only []
   rw [if_pos hc.2,e];rfl
  ·cases e
 ·cases e
def tkl (b:List Stmt):List (Str×List (Str×PyData)):=b.filterMap fun s=>(tkS s).bind fun y=>(bM8 y.2.1 y.2.2).map (y.1,·)
def bN1 {b:List Stmt} {x:Str} {f:Str->Option PyData} (h:bM9 b x=some f):∃ t,(x,t)∈tkl b/\f=fun z=>t.lookup z:=by
 obtain ⟨s,hs,e⟩:=List.exists_of_findSome?_eq_some h;obtain ⟨y,ey,e1⟩:=Option.bind_eq_some_iff.mp e;obtain ⟨hc,e2⟩:=aE e1;have:y.1=x:=eq_of_beq hc;subst this;obtain ⟨t,et,rfl⟩:=Option.map_eq_some_iff.mp e2;refine ⟨t,List.mem_filterMap.mpr ⟨_,hs,?_⟩,rfl⟩;rw [ey,Option.bind_some,et];rfl
noncomputable def dfl (b:List Stmt):List (Str×Stmt):=b.filterMap fun s=>match s with
 | .FunctionDef n _ _ _ _ _ _ _ _ _=>some (n,s)
 | _=>none
def bN2 {b:List Stmt} {x:Str} {s:Stmt} (h:vM b x=some s):(x,s)∈dfl b:=by
 have h1:=List.find?_some h;have h2:=List.mem_of_find?_eq_some h;refine List.mem_filterMap.mpr ⟨s,h2,?_⟩;unfold aM4 at h1;split at h1
 ·simp only [eq_of_beq h1]
 ·cases h1
def sW {x k:Str} {hh:Int} {t:Tok} {v:Value} {es:List DictEntry}:findBy Value.isStrOf (⟨hh,.str k t,v⟩::es).toArray x=if k=x then some v else findBy Value.isStrOf es.toArray x:=by
 unfold findBy;simp only [List.find?_toArray,List.find?_cons,Value.isStrOf]
 by_cases e:k=x
 ·simp [e]
 ·have:(k==x)=false:=beq_eq_false_iff_ne.mpr e;simp [e,this]
section
variable {K:PySem.W.Frag} {S:Sx}
def aM5 {x qual:Str} {st:Stmt} {f:Addr} {oc:Value} {od an:Option Addr} {osl:Array (Option Value)} {kV doc pm cdv ct:Value} (l:K.lookup f=some ⟨oc,od,.func (PySem.W.fnOf x qual (cF st) (bC st) (defScope st) .none kV doc pm an cdv ct),osl⟩)
  (c:PySem.W.codeIn K cdv qual=true) (k:PySem.W.keepIn K (.ref f)=true):Fun K x qual st f (PySem.W.fnOf x qual (cF st) (bC st) (defScope st) .none kV doc pm an cdv ct):=⟨⟨oc,od,kV,doc,pm,an,cdv,ct,osl,rfl,l,c⟩,k⟩
abbrev BA (n q:Str) (s:Stmt) (us:List Value):Prop:=∀ (kV doc pm:Value) (an:Option Addr) (cdv ct:Value),bindArgs (PySem.W.fnOf n q (cF s) (bC s) (defScope s) .none kV doc pm an cdv ct) ⟨us,[]⟩=pure ((parsOf s).zip us)
def _root_.DL.Fun.binds {x q:Str} {st:Stmt} {f:Addr} {fd:FuncData} (F:Fun K x q st f fd) (h:∀ us:List Value,us.length=(parsOf st).length->BA x q st us):hU K fd (parsOf st):=by
 obtain ⟨oc,od,kV,doc,pm,an,cdv,ct,osl,rfl,lk,hcd⟩:=F.ex;exact fun s us _ hl=>.of_eq (h us hl kV doc pm an cdv ct)
def FI (K:PySem.W.Frag) (n:Str) (s:Stmt):Prop:=∃ (f:Addr) (od an:Option Addr) (sl:Array (Option Value)) (oc kV dc pm cd ct:Value),PySem.W.nsIn K mainGlobals n=some (some (.ref f))/\K.lookup f=some ⟨oc,od,.func (PySem.W.fnOf n n (cF s) (bC s) (defScope s) .none kV dc pm an cd ct),sl⟩/\PySem.W.codeIn K cd n=true/\PySem.W.keepIn K (.ref f)=true
def fi_mk {n:Str} {s:Stmt} {f:Addr} {od an:Option Addr} {sl:Array (Option Value)} {oc kV dc pm cd ct:Value} (a:PySem.W.nsIn K mainGlobals n=some (some (.ref f))) (l:K.lookup f=some ⟨oc,od,.func (PySem.W.fnOf n n (cF s) (bC s) (defScope s) .none kV dc pm an cd ct),sl⟩) (c:PySem.W.codeIn K cd n=true) (k:PySem.W.keepIn K (.ref f)=true):FI K n s:=⟨_,_,_,_,_,_,_,_,_,_,a,l,c,k⟩
abbrev FR (K:PySem.W.Frag) (mg:Str->Option Value) (n:Str) (s:Stmt):Prop:=∃ f fd,Fun K n n s f fd/\mg n=some (.ref f)/\hU K fd (parsOf s)
variable {n q:Str} {s:Stmt} {h:Heap} {mg:Str->Option Value}
def FI.ok (a:FI K n s) (X:K.In h) (G:h.Ns mainGlobals mg) (hb:∀ us:List Value,us.length=(parsOf s).length->BA n n s us):FR K mg n s:=by
 obtain ⟨f,od,an,sl,oc,kV,dc,pm,cd,ct,a,l,c,k⟩:=a;have F:=aM5 (st:=s) l c k;exact ⟨f,_,F,PySem.W.mg_of X G a,F.binds hb⟩
def cM3 {P:Str->Stmt->Prop}:∀ p∈([]:List (Str×Stmt)),P p.1 p.2:=fun _ z=>nomatch z
def cM4 {P:Str->Stmt->Prop} {x:Str} {s:Stmt} {l:List (Str×Stmt)} (a:P x s) (b:∀ p∈l,P p.1 p.2):∀ p∈(x,s)::l,P p.1 p.2:=List.forall_mem_cons.mpr ⟨a,b⟩
def FI.ok1 (a:FI K n s) (X:K.In h) (G:h.Ns mainGlobals mg) (hn:(parsOf s).length=1) (hb:∀ u,BA n n s [u]):FR K mg n s:=a.ok X G fun us hl=>by
 rw [hn] at hl
 match us,hl with
 | [u],_=>exact hb u
def FI.ok2 (a:FI K n s) (X:K.In h) (G:h.Ns mainGlobals mg) (hn:(parsOf s).length=2) (hb:∀ u v,BA n n s [u,v]):FR K mg n s:=a.ok X G fun us hl=>by
 rw [hn] at hl
 match us,hl with
 | [u,v],_=>exact hb u v
def FI.ok3 (a:FI K n s) (X:K.In h) (G:h.Ns mainGlobals mg) (hn:(parsOf s).length=3) (hb:∀ u v x,BA n n s [u,v,x]):FR K mg n s:=a.ok X G fun us hl=>by
 rw [hn] at hl
 match us,hl with
 | [u,v,x],_=>exact hb u v x
def FI.ok4 (a:FI K n s) (X:K.In h) (G:h.Ns mainGlobals mg) (hn:(parsOf s).length=4) (hb:∀ u v x y,BA n n s [u,v,x,y]):FR K mg n s:=a.ok X G fun us hl=>by
 rw [hn] at hl
 match us,hl with
 | [u,v,x,y],_=>exact hb u v x y
def FI.ok5 (a:FI K n s) (X:K.In h) (G:h.Ns mainGlobals mg) (hn:(parsOf s).length=5) (hb:∀ u v x y z,BA n n s [u,v,x,y,z]):FR K mg n s:=a.ok X G fun us hl=>by
 rw [hn] at hl
 match us,hl with
 | [u,v,x,y,z],_=>exact hb u v x y z
def bN3 {a:Addr} {n:Nat} {ws:List Int} {its:Array Value} (X:K.In h) (l:K.lookup a=some ⟨.type "tuple",none,.seq its n,#[]⟩) (hv:Paired (fun (i:Int) v=>∃ t,v=.int i t) ws its.toList) (hs:its.size<=sizeLine):Rep S h.get? (.tuple (ws.map .int)) (.ref a) :=
 rep_t.mpr ⟨a,_,its.toList,rfl,X a _ l,⟨⟨n,by rw [Array.toArray_toList]⟩,by rw [Array.length_toList];exact hs⟩,rT (pY (fun _ _ x=>rep_i.mpr x) hv)⟩
def qW {a:Addr} {n:Nat} {ws:List Str} {its:Array Value} (X:K.In h) (l:K.lookup a=some ⟨.type "tuple",none,.seq its n,#[]⟩) (hv:Paired (fun (i:Str) v=>(∃ t,v=.str i t)/\PyData.strOk i=true) ws its.toList) (hs:its.size<=sizeLine):Rep S h.get? (.tuple (ws.map .str)) (.ref a) :=
 rep_t.mpr ⟨a,_,its.toList,rfl,X a _ l,⟨⟨n,by rw [Array.toArray_toList]⟩,by rw [Array.length_toList];exact hs⟩,rT (pY (fun _ _ x=>rep_s.mpr x) hv)⟩
def bN4 {t:Top} {x:Str} {f:Addr} {fd:FuncData} {k:Nat} (T:TopOk t S) (hs:t.defs x=some s) (F:Fun S.K x x s f fd) (hq:autoParam (t.qn x=none) ZR):FnS S (k+1) f fd (parsOf s) (toW (aD t (k+1) x)):=by
 have e:aD t (k+1) x=mD t (fnT t fun y=>aD t k y) (obT t (fun y=>callW t k y) (fun y=>callI t k y) fun y=>callM t k y) x s:=by
  rw [aD,hs]
 rw [e];exact bD9 (fun q' e=>by rw [hq] at e;cases e) T F (vL T k)
theorem sX {Z:Zm}:∀ {ns:List Int} {vs:List Value},IntsAre vs ns->Paired (Rep S Z) (ns.map .int) vs
 | _,_,.nil=>.nil
 | _,_,.cons n t h=>.cons (rep_i.mpr ⟨t,rfl⟩) (sX h)
end
def Top.fv (t:Top) (l:List Str):Top:={ t with gc:=fun x=>if l.contains x=true then some (fkD x) else t.gc x }
def TopOk.fv {S:Sx} {t:Top} (T:TopOk t S) {l:List Str} (hl:∀ x,l.contains x=true->∃ s,t.defs x=some s):TopOk (t.fv l) S where
 bl:=T.bl
 gc:=fun x z e=>by
  have e:(if l.contains x=true then some (fkD x) else t.gc x)=some z:=e
  by_cases h:l.contains x=true
  ·rw [if_pos h] at e;cases e;obtain ⟨s,hs⟩:=hl x h;obtain ⟨f,fd,_,mg,_⟩:=T.defs x s hs;exact ⟨_,mg,(aF4 rfl).mpr ⟨⟨f,rfl⟩,mg⟩⟩
  ·rw [if_neg h] at e;exact T.gc x z e
 tk:=T.tk
 defs:=T.defs
 ini:=T.ini
 mt:=T.mt
 fo:=T.fo
 qn:=T.qn
end CI

namespace CI
open PySem PySem.Spec PyProof.Rows L2 DL
section
variable {K:PySem.W.Frag} {mg:Str->Option Value}
def aB8 {P:Program} {w:World} {mb:Str->Option Value} {k:Nat} {fa a Pt c0:Addr} {fd:FuncData} {x:Str} {m:XF} {s₁:Shared} {vs:List Value} {ns:List Int} {qs:List (Pos×Str)}
  (KX:K.In s₁.heap) (hns:s₁.heap.Ns mainGlobals mg) (hb:s₁.heap.Ns builtinsNs mb) (hbb:∀ x:Str,x≠"__name__"->mb x=bootBuiltins x) (hlim:s₁.heap.NoLimit) (hg:s₁.gens=#[])
  (ha:s₁.heap.get? a=some { cls:=.type "list",data:=.seq vs.toArray }) (hi:IntsAre vs ns) (hl:ns.length<=sizeLine) (hr:Room k callerA)
  (hPt:s₁.heap.get? Pt=some (PySem.W.tabObj #[])) (hKP:K.lookup Pt=none) (hcd:PySem.W.codeHdIn K c0 Pt=true)
  (hbm:∃ bm ob,mg "__builtins__"=some (.ref bm)/\bm≠builtinsNs/\s₁.heap.get? bm=some ob/\ob.cls=.type "module"/\ob.dict=some builtinsNs/\ob.data=.plain)
  (F:∀ base:Heap,K.In base->base.Ns mainGlobals mg->base.BuiltinsAt mg Pt->FnS ⟨P,w,K,mg,base,s₁.os,#[],Pt⟩ k fa fd [x] (toW m)) (hbind:BindsTo s₁ fd ⟨[.ref a],[]⟩ [(x,.ref a)]) (e:m [.d (.list (ns.map .int))] [.t []]=some (.bool true,[.t qs])) :
  codeAny (model P w) callerA (.call (.ref fa) ⟨[.ref a],[]⟩) (fun r s'=>r=.ok (.ret (.bool true))/\OldK s₁.heap s'.heap/\s'.os=s₁.os/\AllBare s'.gens) s₁:=by
 have haP:a≠Pt:=fun z=>by rw [z,hPt] at ha;cases ha
 have get:∀ {b:Addr} {o:Obj},s₁.heap.get? b=some o->b≠Pt->(PySem.W.hideAll s₁.heap [Pt]).get? b=some o:=fun e n=>PySem.W.hideAll_get [Pt] e (by simpa using n);have back:∀ {b:Addr} {o:Obj},(PySem.W.hideAll s₁.heap [Pt]).get? b=some o->s₁.heap.get? b=some o:=fun e=>PySem.W.of_hideAll [Pt] e;have non:(PySem.W.hideAll s₁.heap [Pt]).get? Pt=none:=PySem.W.hideAll_none [Pt] (by simp);have hsz:(PySem.W.hideAll s₁.heap [Pt]).objs.size=s₁.heap.objs.size:=PySem.W.hideAll_size _ _;generalize PySem.W.hideAll s₁.heap [Pt]=base at get back non hsz;have nsK:∀ {b:Addr} {m:Str->Option Value},s₁.heap.Ns b m->base.Ns b m:=fun {b m} ⟨o,es,ep,e,d,r⟩=>⟨o,es,ep,get e (fun z=>by
  rw [z,hPt] at e;cases e;exact Data.noConfusion (show Data.fields #[]=Data.dict es ep from d)),d,r⟩
 have hKb:K.In base:=fun b o e=>get (KX b o e) fun z=>by rw [z,hKP] at e;cases e
 have hB:base.BuiltinsAt mg Pt:=by
  obtain ⟨bm,ob,b1,b2,b3,b4,b5,b6⟩:=hbm;have bP:bm≠Pt:=fun z=>by rw [z,hPt] at b3;cases b3;cases b6
  have bg:bm≠mainGlobals:=fun z=>by
   obtain ⟨o,es,ep,e,d,_⟩:=hns;rw [<- z,b3] at e;cases e;rw [b6] at d;cases d
  exact ⟨bm,ob,b1,b2,bg,bP,get b3 bP,b4,b5,b6⟩
 have R:Mem ⟨P,w,K,mg,base,s₁.os,#[],Pt⟩ (fun _=>none) ⟨base.get?,[(Pt,Pt)]⟩ [.t []] s₁:=by
  refine ⟨fun _ _ e=>back e,fun _ _ _ e=>(by cases e),rfl,fun i j p q e1 e2 ne=>?_,fun p hp b hb=>?_,fun i p c e1 e2=>?_,fun _ _ e=>e,.of_eq hg,rfl⟩
  ·have h1:=(List.getElem?_eq_some_iff.mp e1).1;have h2:=(List.getElem?_eq_some_iff.mp e2).1;simp at h1 h2;omega
  ·cases List.mem_singleton.mp hp;have:b=Pt:=hb.elim id id;subst this;exact ⟨non,rfl,_,hPt⟩
  ·cases i with
   | zero =>
    simp at e1 e2;subst e1 e2;exact ⟨[],hPt,.nil,rfl⟩
   | succ i=>simp at e1
 have md:Mod ⟨P,w,K,mg,base,s₁.os,#[],Pt⟩:=⟨hKb,nsK hns,⟨mb,nsK hb,hbb⟩,hlim.imp fun _ z=>z.imp nsK id⟩;have e':toW m [.d (.list (ns.map .int))] [.t []]=some (.d (.bool true),[.t qs]):=by unfold toW;rw [e];rfl
 have hv:=sX (S:=⟨P,w,K,mg,base,s₁.os,#[],Pt⟩) (Z:=base.get?) hi;have hlen:=hv.length;rw [List.length_map] at hlen;refine codeAny_mono ((F base hKb (nsK hns) hB).run (us:=[.ref a]) hr ⟨[],rfl,fun _ z=>nomatch z⟩ md (Nat.le_of_eq hsz) R hbind (ws:=[.d (.list (ns.map .int))]) (.cons (rep_l.mpr ⟨a,_,vs,rfl,get ha haP,⟨⟨0,rfl⟩,by omega⟩,hv⟩) .nil) e') fun r s' ⟨u,hq,M',l,R',ru⟩=>?_;subst hq;cases wb.mp ru;obtain ⟨cs,hP',_,_⟩:=R'.cel 0 (Pt,Pt) (.t qs) (l.at rfl) rfl;have hP':s'.heap.get? Pt=some (PySem.W.tabObj (#[]++(eH qs cs).toArray)):=hP';have keep:∀ b o,b≠Pt->s₁.heap.get? b=some o->s'.heap.get? b=some o:=fun b o hb e=>R'.bk b o (get e hb);refine ⟨rfl,⟨fun b o e=>?_,fun b o e=>?_⟩,R'.os,R'.bare⟩
 ·by_cases hb:b=Pt
  ·subst hb;rw [hPt] at e;cases e;have C:=PySem.W.codeHd_of_K KX hcd;exact .inr (.inl ⟨(C.tab hPt).isCodeTable,rfl,#[],_,rfl,hP'⟩)
  ·exact .inl (keep b o hb e)
 ·by_cases hb:b=Pt
  ·subst hb;exact ⟨_,hP'⟩
  ·exact ⟨o,keep b o hb e⟩
def aM6 {l:PySem.W.OpenLaw} {n k:Nat} {q:Program} {loose:List Str} {XP:(Str->Option Value)->Heap->Prop} {YP:World->Heap->Prop} {d:DefRec} {K:Params->PySem.W.Frag} {m:XF} {x:Str} {Pt c0:Addr}
  (hn:l.most=some n) (hn2:n<=sizeLine) (hdf:d.params.defaults=[]) (hr:Room k callerA)
  (hY:∀ (w:World) (h:Heap),YP w h->(K w.params).In h/\h.get? Pt=some (PySem.W.tabObj #[])) (hKP:∀ w:World,(K w.params).lookup Pt=none) (hcd:∀ w:World,PySem.W.codeHdIn (K w.params) c0 Pt=true)
  (F:∀ (w:World) (mg:Str->Option Value) (fa:Addr) (h:Heap) (os:OsState),(K w.params).In h->h.Ns mainGlobals mg->mg d.name=some (.ref fa) ->
   ∃ fd:FuncData,(∀ (s:Shared) (u:Value),BindsTo s fd ⟨[u],[]⟩ [(x,u)])/\∀ base:Heap,(K w.params).In base->base.Ns mainGlobals mg->base.BuiltinsAt mg Pt->FnS ⟨l.prog,w,K w.params,mg,base,os,#[],Pt⟩ k fa fd [x] (toW m))
  (hm:∀ ns:List Int,ns.length<=n->∃ qs,m [.d (.list (ns.map .int))] [.t []]=some (.bool true,[.t qs])) :
  PySem.W.WalkO q loose XP YP l.row.toRowW d [] (fun f vs=>PySem.call f vs):=by
 refine Att.attach_call hn hdf fun w s₀ s₁ mg mb fa o pm cd doc a vs ns G Y ho hd hcd' hmg hobj hints hlen hg=>?_;obtain ⟨KX,hP⟩:=hY w _ Y;obtain ⟨fd,hb,hF⟩:=F w mg fa s₁.heap s₁.os KX G.T.g hmg;obtain ⟨qs,e⟩:=hm ns hlen;exact aB8 KX G.T.g G.T.b G.T.builtins G.T.nolimit hg hobj hints (Nat.le_trans hlen hn2) hr hP (hKP w) (hcd w) G.T.bmain hF (hb _ _) e
def FIT (K:PySem.W.Frag) (n:Str) (s:Stmt) (Pt:Addr):Prop:=∃ (f c0:Addr) (od an:Option Addr) (sl:Array (Option Value)) (oc kV dc pm ct:Value),PySem.W.nsIn K mainGlobals n=some (some (.ref f))/\K.lookup f=some ⟨oc,od,.func (PySem.W.fnOf n n (cF s) (bC s) (defScope s) .none kV dc pm an (.ref c0) ct),sl⟩/\PySem.W.codeIn K (.ref c0) n=true/\PySem.W.keepIn K (.ref f)=true/\PySem.W.codeHdIn K c0 Pt=true
def fit_mk {n:Str} {s:Stmt} {Pt f c0:Addr} {od an:Option Addr} {sl:Array (Option Value)} {oc kV dc pm ct:Value} (a:PySem.W.nsIn K mainGlobals n=some (some (.ref f))) (l:K.lookup f=some ⟨oc,od,.func (PySem.W.fnOf n n (cF s) (bC s) (defScope s) .none kV dc pm an (.ref c0) ct),sl⟩) (c:PySem.W.codeIn K (.ref c0) n=true) (k:PySem.W.keepIn K (.ref f)=true) (hd:PySem.W.codeHdIn K c0 Pt=true):FIT K n s Pt:=⟨_,_,_,_,_,_,_,_,_,_,a,l,c,k,hd⟩
def FIT.fi {n:Str} {s:Stmt} {Pt:Addr} (a:FIT K n s Pt):FI K n s:=by
 obtain ⟨f,c0,od,an,sl,oc,kV,dc,pm,ct,a,l,c,k,_⟩:=a;exact ⟨f,od,an,sl,oc,kV,dc,pm,.ref c0,ct,a,l,c,k⟩
def FIT.code {S:Sx} {h:Heap} {n:Str} {s s':Stmt} {f:Addr} {fd:FuncData} (a:FIT S.K n s S.tp) (X:S.K.In h) (G:h.Ns mainGlobals S.mg) (F:Fun S.K n n s' f fd) (hf:S.mg n=some (.ref f)) (htb:S.tb=#[]) (hbm:S.base.BuiltinsAt S.mg S.tp) (pos:Pos):∃ c0,fd.code=.ref c0/\TbS S c0 pos:=by
 obtain ⟨f',c0,od,an,sl,oc,kV,dc,pm,ct,a,l,c,k,hd⟩:=a;have e:=hf.symm.trans (PySem.W.mg_of X G a);cases e;obtain ⟨oc',od',kV',doc',pm',an',cdv',ct',osl',rfl,lk,_⟩:=F.ex;rw [l] at lk;have e2:=congrArg (fun o:Option Obj=>(o.map (·.data))) lk;have e3:Data.func (PySem.W.fnOf n n (cF s) (bC s) (defScope s) .none kV dc pm an (.ref c0) ct)=Data.func (PySem.W.fnOf n n (cF s') (bC s') (defScope s') .none kV' doc' pm' an' cdv' ct'):=Option.some.inj e2;have e4:=congrArg (fun d:Data=>match d with | .func fd=>fd.code | _=>.none) e3;have e5:Value.ref c0=cdv':=e4;exact ⟨c0,e5.symm,hd,by rw [htb];exact True.intro,by rw [htb];rfl,hbm⟩
end
end CI

namespace CI
open PySem PySem.Spec PyProof.Rows L2 DL
@[simp] theorem gP (j:Nat) (y x:PyData) (δ:DSt) (h:aA):kB j y x δ h=match h[j]?,y with
   | some (.l xs),.int k=>(ixN xs.length k).map fun n=>(δ,h.set j (.l (xs.set n x)))
   | some (.k kvs),_=>if (bI y).isSome=true/\kvs.length < sizeLine then some (δ,h.set j (.k (pZ kvs y x))) else none
   | some (.r ws),.int k=>(ixN ws.length k).map fun n=>(δ,h.set j (.r (ws.set n (.d x))))
   | _,_=>none:=rfl
@[simp] theorem cP9 (j:Nat) (x:PyData) (h:aA):uK (.c j) [.d x] h=match h[j]? with
 | some (.l xs)=>if xs.length < sizeLine then some (.d .none,h.set j (.l (xs++[x]))) else none
 | _=>none:=rfl
@[simp] theorem cQ0 (j k:Nat) (h:aA):uK (.c j) [.c k] h=match h[j]? with
 | some (.r is)=>if is.length < sizeLine then some (.d .none,h.set j (.r (is++[.c k]))) else none
 | _=>none:=rfl
def bN5 {a b:String} (h:Str.ofString a=Str.ofString b):a=b:=by
 simp only [Str.ofString_eq_byList] at h;unfold Str.ofStringByList at h;have h1:=congrArg Str.cps h;have h2:(a.toList.map Char.toNat)=(b.toList.map Char.toNat):=by
  have:=congrArg Array.toList h1
  simpa using this
 have h3:a.toList=b.toList:=by
  refine (List.map_inj_right ?_).mp h2;intro x y e;exact Char.toNat_inj.mp e
 exact String.toList_inj.mp h3
@[simp] theorem bY4 (a b:String):(Str.ofString a=Str.ofString b)=(a=b):=propext ⟨bN5,fun e=>by rw [e]⟩
@[simp] theorem cM5 (a b:String):(Str.ofString a==Str.ofString b)=(a==b):=by
 rw [Bool.eq_iff_iff,beq_iff_eq,beq_iff_eq,bY4]
end CI
namespace DL
open PySem PySem.Spec PyProof.Rows L2
@[simp] theorem cM6 (i j:Int):PyData.eqv (.int i) (.int j)=decide (i=j):=by rw [PyData.eqv];exact Bool.beq_eq_decide_eq i j
@[simp] theorem cM7 (i j:Str):PyData.eqv (.str i) (.str j)=(i==j):=by rw [PyData.eqv]
@[simp] theorem at0 {a:PyData} {r:List PyData}:atI (a::r) 0=some a:=by simp [atI,ixN]
@[simp] theorem at1 {a b:PyData} {r:List PyData}:atI (a::b::r) 1=some b:=by
 have:(1:Int) < (r.length:Int)+1+1:=by omega
 simp [atI,ixN,this]
@[simp] theorem at2 {a b c:PyData} {r:List PyData}:atI (a::b::c::r) 2=some c:=by
 have:(2:Int) < (r.length:Int)+1+1+1:=by omega
 simp [atI,ixN,this]
@[simp] theorem at3 {a b c d:PyData} {r:List PyData}:atI (a::b::c::d::r) 3=some d:=by
 have:(3:Int) < (r.length:Int)+1+1+1+1:=by omega
 simp [atI,ixN,this]
@[simp] theorem ix0 (n:Nat):ixN (n+1) 0=some 0:=by
 have:(0:Int) < ((n+1:Nat):Int):=by omega
 simp only [ixN,this,Int.le_refl,if_true];rfl
def ix_nat {n i:Nat} (h:i < n):ixN n (i:Int)=some i:=by
 have h1:(i:Int) < (n:Int):=by omega
 have h2:(0:Int)<=(i:Int):=by omega
 simp [ixN,h1,h2]
@[simp] theorem bY5 (h:aA) (i:Nat) (a:Cell):(h.set i a).take h.length=h.set i a:=by
 rw [List.take_of_length_le (by simp)]
@[simp] theorem cT8:ixN 3 2=some 2:=rfl
@[simp] theorem cT9:ixN 3 0=some 0:=rfl
end DL
namespace L2
def bO {α:Type} {xs:List α} {j:Nat} {v:α} (h:xs[j]?=some v):atI xs (j:Int)=some v:=by
 unfold atI;rw [DL.ix_nat (List.getElem?_eq_some_iff.mp h).1];exact h
end L2
namespace DL
open PySem
def szl:sizeLine=16777216:=rfl
end DL

namespace CI
open PySem DL
@[simp] theorem bY6 {α β:Type} (x:XR α) (f:α->XR β) (δ:DSt) (h:aA):xb x f δ h=(x δ h).bind fun p=>f p.1 δ p.2:=rfl
@[simp] theorem sY {α:Type} (a:α) (δ:DSt) (h:aA):aC a δ h=some (a,h):=rfl
@[simp] theorem cM8 {α:Type} (δ:DSt) (h:aA):(xno:XR α) δ h=none:=rfl
@[simp] theorem cJ9 (i:Nat) (δ:DSt) (h:aA):aB i δ h=match δ[i]? with
 | some (some w)=>some (w,h)
 | _=>none:=rfl
def dO (h:aA):okP h h:=fun i c _ e=>.inr e
def kK {h h1:aA} (L:aA) (hl:h1.length=h.length) (k:okP h h1):okP h (h1++L):=fun i c hi e=>k i c hi (by rwa [List.getElem?_append_left (by omega)] at e)
def aM7 {h h1:aA} (i:Nat) (xs:List PyData) (k:okP h h1):okP h (h1.set i (.l xs)):=fun j c hj e=>by
 by_cases q:i=j
 ·subst q
  by_cases hi:i < h1.length
  ·rw [List.getElem?_set_self hi] at e;cases e;exact .inl fun m hm=>by cases hm
  ·rw [List.set_eq_of_length_le (by omega)] at e;exact k i c hj e
 ·rw [List.getElem?_set_ne q] at e;exact k j c hj e
@[simp] theorem cU0 (h:aA):okP h h=True:=eq_true (dO h)
@[simp] theorem cU1 (h L:aA):okP h (h++L)=True:=eq_true (kK L rfl (dO h))
def aM8 (h0:aA) (z:PyData) (h:aA) (ok:okP h0 h):aJ h0 (.rt (.d z),h)=some (z,h.take h0.length):=by
 unfold aJ;rw [if_pos ok]
def aM9 (h0:aA) (δ:DSt) (h:aA) (ok:okP h0 h):aJ h0 (.nx δ,h)=some (.none,h.take h0.length):=by
 unfold aJ;rw [if_pos ok]
@[simp] theorem aX7 (h:aA) (z:PyData):aJ h (.rt (.d z),h)=some (z,h):=by rw [aM8 _ _ _ (dO h),List.take_length]
@[simp] theorem cK0 (h:aA) (δ:DSt):aJ h (.nx δ,h)=some (.none,h):=by rw [aM9 _ _ _ (dO h),List.take_length]
@[simp] theorem cK1 (h L:aA) (z:PyData):aJ h (.rt (.d z),h++L)=some (z,h):=by rw [aM8 _ _ _ (kK L rfl (dO h)),List.take_left'];rfl
@[simp] theorem cK2 (h L:aA) (δ:DSt):aJ h (.nx δ,h++L)=some (.none,h):=by rw [aM9 _ _ _ (kK L rfl (dO h)),List.take_left'];rfl
@[simp] theorem cK3 (δ:DSt) (h:aA):iU (.nx δ,h)=some (.d .none,h):=rfl
@[simp] theorem cK4 (w:W) (h:aA):iU (.rt w,h)=some (w,h):=rfl
@[simp] theorem bS1 (δ:DSt):bK [] δ=[]:=rfl
@[simp] theorem bN6 (r:List (Option Nat)) (δ:DSt):bK (none::r) δ=none::bK r δ:=rfl
@[simp] theorem bN7 (i:Nat) (r:List (Option Nat)) (δ:DSt):bK (some i::r) δ=(δ[i]?).bind id::bK r δ:=rfl
@[simp] theorem bY7 (gs:List XG) (xs:List PyData) (δ:DSt) (h:aA):aO gs (.d (.tuple xs)) δ h=cD gs xs δ h:=rfl
@[simp] theorem bY8 (δ:DSt) (h:aA):cD [] [] δ h=some (δ,h):=rfl
@[simp] theorem bS2 (g:XG) (gs:List XG) (x:PyData) (xs:List PyData) (δ:DSt) (h:aA):cD (g::gs) (x::xs) δ h=(g (.d x) δ h).bind fun p=>cD gs xs p.1 p.2:=rfl
@[simp] theorem cQ1 (h:aA) (x:PyData):ref h (.d x)=some x:=rfl
end CI

namespace CI
open PySem PySem.Spec PyProof.Rows L2 DL
section
variable {δ:DSt} {h:aA}
@[simp] theorem bY9 (x:XR Bool):aX x δ h=(x δ h).map asW:=rfl
@[simp] theorem cM9 (b:Bool):asW (b,h)=(.d (.bool b),h):=rfl
@[simp] theorem cN0 (op:CmpOp) (x y:XR W):xC1 op x y δ h=(x δ h).bind fun u=>(y δ u.2).bind fun w=>eJ op u.1 w.1 w.2:=rfl
@[simp] theorem cN1 (op op':CmpOp) (x y z:XR W):xC2 op op' x y z δ h=(x δ h).bind fun u=>(y δ u.2).bind fun w=>(eJ op u.1 w.1 w.2).bind fun p=>if p.1=true then (z δ p.2).bind fun q=>eJ op' w.1 q.1 q.2 else some (false,p.2):=rfl
@[simp] theorem cN2 (op op' op'':CmpOp) (x y z t:XR W):xC3 op op' op'' x y z t δ h=(x δ h).bind fun u=>(y δ u.2).bind fun w=>(eJ op u.1 w.1 w.2).bind fun p =>
 if p.1=true then (z δ p.2).bind fun q=>(eJ op' w.1 q.1 q.2).bind fun p'=>if p'.1=true then (t δ p'.2).bind fun q'=>eJ op'' q.1 q'.1 q'.2 else some (false,p'.2) else some (false,p.2):=rfl
@[simp] theorem bZ0 (f:Str->Option PyData) (x:XR W):kW f x δ h=(x δ h).bind fun p=>(match p.1 with
 | .d (.str s)=>some (!(f s).isSome,p.2)
 | .d .none=>some (true,p.2)
 | _=>none):=by
 unfold kW;rw [bY6]
 congr 1
 funext p
 obtain ⟨w,h'⟩:=p;cases w with
 | d x=>cases x<;>rfl
 | c i=>rfl
@[simp] theorem cK5 (x:XR (List PyData)):aK x δ h=(x δ h).bind fun p=>some (.d (.list p.1),p.2):=rfl
@[simp] theorem bZ1 (x:XR (List PyData)):bS x δ h=(x δ h).bind fun p=>some (.c p.2.length,p.2++[.l p.1]):=rfl
@[simp] theorem cN3 (x:XR (List W)):xPl x δ h=(x δ h).bind fun p=>(match hX p.1 with
 | some xs=>if xs.length<=sizeLine then some (xs,p.2) else none
 | none=>none):=rfl
@[simp] theorem cK6 (i:Nat) (x:XR W):aR i x δ h=(x δ h).bind fun p=>some (.nx (δ.set i (some p.1)),p.2):=rfl
@[simp] theorem bZ2 (x:XR W):aM x δ h=(x δ h).bind fun p=>(match p.1 with
 | .d (.list xs)=>some ((xs,none),p.2)
 | .d (.tuple xs)=>some ((xs,none),p.2)
 | .c i=>(match p.2[i]? with
  | some (.l xs)=>some ((xs,some (i,false)),p.2)
  | _=>none)
 | _=>none):=rfl
@[simp] theorem bN8:hX []=some []:=rfl
@[simp] theorem bZ3 (x:PyData) (r:List W):hX (.d x::r)=(hX r).map (x::·):=rfl
@[simp] theorem cN4 (i j:Int):eJ .Lt (.d (.int i)) (.d (.int j)) h=some (decide (i < j),h):=rfl
@[simp] theorem cN5 (i j:Int):eJ .LtE (.d (.int i)) (.d (.int j)) h=some (decide (i<=j),h):=rfl
@[simp] theorem cN6 (i j:Int):eJ .Gt (.d (.int i)) (.d (.int j)) h=some (decide (j < i),h):=rfl
@[simp] theorem cN7 (i j:Int):eJ .GtE (.d (.int i)) (.d (.int j)) h=some (decide (j<=i),h):=rfl
@[simp] theorem cN8 (u w:W):eJ .Eq u w h=(xEq u w h).map fun b=>(b,h):=rfl
@[simp] theorem cN9 (u w:W):eJ .NotEq u w h=(xEq u w h).map fun b=>(!b,h):=rfl
@[simp] theorem cO0 (u w:W):eJ .Is u w h=(xIs u w).map fun b=>(b,h):=rfl
@[simp] theorem bS3 (u w:W):eJ .IsNot u w h=(xIs u w).map fun b=>(!b,h):=rfl
@[simp] theorem cO1 (u w:W):eJ .In u w h=(xIn u w h).map fun b=>(b,h):=rfl
@[simp] theorem bS4 (u w:W):eJ .NotIn u w h=(xIn u w h).map fun b=>(!b,h):=rfl
def xY (a b:PyData):xEq (.d a) (.d b) h=if (aG 64 a&&aG 64 b)=true then some (PyData.eqv a b) else none:=rfl
@[simp] theorem cK7 (n:Nat):aG n .none=true:=by rw [aG]
@[simp] theorem cK8 (n:Nat) (b:Bool):aG n (.bool b)=true:=by rw [aG]
@[simp] theorem bN9 (n:Nat) (i:Int):aG n (.int i)=true:=by rw [aG]
@[simp] theorem cO2 (n:Nat) (x:Str):aG n (.str x)=true:=by rw [aG]
@[simp] theorem xZ (n:Nat) (xs:List PyData):aG (n+1) (.list xs)=plainsB n xs:=by rw [aG]
@[simp] theorem aN0 (n:Nat) (xs:List PyData):aG (n+1) (.tuple xs)=plainsB n xs:=by rw [aG]
@[simp] theorem aX8 (n:Nat):plainsB n []=true:=by rw [plainsB]
@[simp] theorem mU (n:Nat) (x:PyData) (xs:List PyData):plainsB n (x::xs)=(aG n x&&plainsB n xs):=by rw [plainsB]
@[simp] theorem cK9 (i j:Int):xEq (.d (.int i)) (.d (.int j)) h=some (decide (i=j)):=by rw [xY];simp [PyData.eqv];exact Bool.beq_eq_decide_eq i j
@[simp] theorem cL0 (x y:Str):xEq (.d (.str x)) (.d (.str y)) h=some (x==y):=by simp [xY,PyData.eqv]
@[simp] theorem bZ4 (x y:Bool):xEq (.d (.bool x)) (.d (.bool y)) h=some (x==y):=by cases x<;>cases y<;>simp [xY,PyData.eqv]
@[simp] theorem bE1 (y:Str):xEq (.d .none) (.d (.str y)) h=some false:=by simp [xY,PyData.eqv]
@[simp] theorem cQ2 (x:PyData):aY [.d x] h=(match x with
  | .list xs=>some (.d (.int xs.length),h)
  | .tuple xs=>some (.d (.int xs.length),h)
  | _=>none):=by cases x<;>rfl
@[simp] theorem cL1 (xs:List PyData):aT [.d (.list xs)] h=some (.d (.tuple xs),h):=rfl
@[simp] theorem cL2 (xs:List PyData):aT [.d (.tuple xs)] h=some (.d (.tuple xs),h):=rfl
@[simp] theorem bZ5 (xs:List PyData):hV [.d (.list xs)] h=(cI xs).map fun bs=>(.d (.bool (bs.all id)),h):=rfl
@[simp] theorem ix_t (xs:List PyData) (i:Int):xIx (.d (.tuple xs)) (.d (.int i)) h=(atI xs i).map fun v=>(.d v,h):=rfl
@[simp] theorem ix_l (xs:List PyData) (i:Int):xIx (.d (.list xs)) (.d (.int i)) h=(atI xs i).map fun v=>(.d v,h):=rfl
@[simp] theorem sl_t (xs:List PyData) (lo hi:Option Int):xSl (.d (.tuple xs)) lo hi h=some (.d (.tuple (cut xs lo hi)),h):=rfl
@[simp] theorem sl_l (xs:List PyData) (lo hi:Option Int):xSl (.d (.list xs)) lo hi h=some (.d (.list (cut xs lo hi)),h):=rfl
@[simp] theorem bS5 (i j:Int):hZ .Add (.d (.int i)) (.d (.int j)) h=some (.d (.int (i+j)),h):=rfl
@[simp] theorem bS6 (i j:Int):hZ .Sub (.d (.int i)) (.d (.int j)) h=some (.d (.int (i - j)),h):=rfl
@[simp] theorem bS7 (i j:Int):hZ .Mult (.d (.int i)) (.d (.int j)) h=if iT i j=true then some (.d (.int (i*j)),h) else none:=rfl
@[simp] theorem bS8 (i j:Int):hZ .FloorDiv (.d (.int i)) (.d (.int j)) h=if dP j=true then some (.d (.int (i / j)),h) else none:=rfl
@[simp] theorem bS9 (i j:Int):hZ .Mod (.d (.int i)) (.d (.int j)) h=if 0 < j then some (.d (.int (i%j)),h) else none:=rfl
@[simp] theorem bT0 (i j:Int):hZ .Pow (.d (.int i)) (.d (.int j)) h=if rU i j=true then some (.d (.int (i^j.toNat)),h) else none:=rfl
@[simp] theorem bT1 (xs ys:List PyData):hZ .Add (.d (.tuple xs)) (.d (.tuple ys)) h=if xs.length+ys.length<=sizeLine then some (.d (.tuple (xs++ys)),h) else none:=rfl
@[simp] theorem bT2 (xs ys:List PyData):hZ .Add (.d (.list xs)) (.d (.list ys)) h=if xs.length+ys.length<=sizeLine then some (.d (.list (xs++ys)),h) else none:=rfl
@[simp] theorem cJ (xs:List PyData):dZ none xs h=true:=rfl
theorem eQ {g:XG} {te:XR W} {all:List PyData} (f:PyData->PyData) (k:Nat) (hg:∀ w δ h,g w δ h=some (δ.set k (some w),h)) :
  ∀ (rest:List PyData) (δ:DSt) (ac:List PyData),(∀ x∈rest,∀ u,te ((δ.set k u).set k (some (.d x))) h=some (.d (f x),h))->aN g (aC true) te none all rest δ h ac=some (ac++rest.map f,h)
 | [],δ,ac,_=>by simp [aN]
 | x::r,δ,ac,hf=>by
  have e:=hf x List.mem_cons_self none;rw [List.set_set] at e;rw [aN,cJ,if_pos rfl,hg];simp only [Option.bind_some,sY,if_true,e];rw [eQ f k hg r _ _ fun y hy u=>by
   have:=hf y (List.mem_cons_of_mem _ hy) u;rw [List.set_set] at this ⊢;rw [List.set_set];exact this]
  simp
theorem iL {f:PyData->Bool}:∀ xs:List PyData,cI (xs.map fun x=>.bool (f x))=some (xs.map f)
 | []=>rfl
 | x::r=>by rw [List.map_cons,cI,iL r];rfl
theorem all_map {f:PyData->Bool} {h:aA} (xs:List PyData):hV [.d (.list (xs.map fun x=>.bool (f x)))] h=some (.d (.bool (xs.all f)),h):=by
 rw [bZ5,iL,Option.map_some,List.all_map];rfl
end
end CI

namespace CI
open PySem PySem.Spec PyProof.Rows L2 DL
abbrev S3:=Int×Int×Int
noncomputable def stL (s:S3):Cell:=.l [.int s.1,.int s.2.1,.int s.2.2]
def lP {i:Int} (h1:-(2^64) < i) (h2:i < 2^64) (j:Int):iT i j=true:=by
 unfold iT;rw [decide_eq_true h1,decide_eq_true h2];rfl
def aX9 {j:Int} (h1:-(2^64) < j) (h2:j < 2^64) (i:Int):iT i j=true:=by
 unfold iT;rw [decide_eq_true h1,decide_eq_true h2,Bool.and_self,Bool.or_true]
def pB {h L:aA} {i:Nat} {c:Cell} (hi:i < h.length):h.set i c++L=(h++L).set i c:=(List.set_append_left _ _ hi).symm
def aY0 {h:aA} {i:Nat} {xs:List PyData} (hi:i < h.length):ref (h.set i (.l xs)) (.c i)=some (.list xs):=by
 simp [ref,hi]
@[simp] theorem cU2 {h:aA} {i:Nat} {xs:List PyData} (hi:i < h.length) (k:Int):xIx (.c i) (.d (.int k)) (h.set i (.l xs))=(atI xs k).map fun v=>(.d v,h.set i (.l xs)):=by
 unfold xIx;rw [aY0 hi]
end CI

namespace CI
open PySem PySem.Spec PyProof.Rows L2 DL
variable (h:aA)
@[simp] theorem cO3 (L:aA) (i:Nat) (c:Cell):(h.set i c++L).take h.length=h.set i c:=by
 rw [List.take_append_of_le_length (by simp)];simp
end CI

namespace CI
open PySem PySem.Spec PyProof.Rows L2 DL
theorem mV {g:XG} {te:XR W} {all:List PyData} {h:aA} (J:DSt->Prop) :
  ∀ (ps:List (PyData×PyData)) (δ:DSt) (ac:List PyData),J δ->(∀ p∈ps,∀ δ,J δ->∃ δ1,g (.d p.1) δ h=some (δ1,h)/\J δ1/\te δ1 h=some (.d p.2,h))->aN g (aC true) te none all (ps.map (·.1)) δ h ac=some (ac++ps.map (·.2),h)
 | [],δ,ac,_,_=>by simp [aN]
 | x::r,δ,ac,j,hf=>by
  obtain ⟨δ1,e1,j1,e2⟩:=hf x List.mem_cons_self δ j;rw [List.map_cons,aN];simp [e1,e2,aC];rw [mV J r δ1 (ac++[x.2]) j1 fun y hy=>hf y (List.mem_cons_of_mem _ hy)];simp
@[simp] theorem cO4 (xs:List PyData) (h:aA):lY (.d (.list xs)) h=some ((dY xs,none),h):=rfl
@[simp] theorem aN1 (xs:List PyData) (h:aA):lY (.d (.tuple xs)) h=some ((dY xs,none),h):=rfl
@[simp] theorem cO5 (xs:List PyData):iY (.d (.tuple xs))=some xs:=rfl
@[simp] theorem cO6 (xs:List PyData):iY (.d (.list xs))=some xs:=rfl
def bO0 (a:PyData) (xs:List PyData) (h:aA):xIn (.d a) (.d (.tuple xs)) h=if (aG 64 (.tuple xs)&&aG 64 a)=true then some (xs.any fun z=>PyData.eqv z a) else none:=rfl
@[simp] theorem bZ6 (x a b:Str) (h:aA):xIn (.d (.str x)) (.d (.tuple [.str a,.str b])) h=some (a==x||b==x):=by
 rw [bO0];simp [PyData.eqv]
end CI

namespace CI
open PySem PySem.Spec PyProof.Rows L2 DL ST
theorem sZ {g:XG} {tb:XS} {all:List PyData} (I:DSt->aA->Prop):∀ (rest:List PyData),(∀ x∈rest,∀ δ h,I δ h->∃ δ1 h1 δ2 h2,g (.d x) δ h=some (δ1,h1)/\tb δ1 h1=some (.nx δ2,h2)/\I δ2 h2) ->
  ∀ (δ:DSt) (h:aA),I δ h->∃ δ' h',bJ g tb none all rest δ h=some (.nx δ',h')/\I δ' h'
 | [],_,δ,h,i=>⟨δ,h,by simp [bJ],i⟩
 | x::r,ht,δ,h,i=>by
  obtain ⟨δ1,h1,δ2,h2,e1,e2,i2⟩:=ht x List.mem_cons_self δ h i;obtain ⟨δ3,h3,e3,i3⟩:=sZ I r (fun y hy=>ht y (List.mem_cons_of_mem _ hy)) δ2 h2 i2;refine ⟨δ3,h3,?_,i3⟩;rw [bJ,cJ,if_pos rfl,e1];simp only [Option.bind_some,e2];exact e3
def pC {g:XG} {tb:XS} {all:List PyData} (I:DSt->aA->Prop) (rest:List PyData) (ht:∀ x∈rest,∀ δ h,I δ h->∃ δ1 h1,g (.d x) δ h=some (δ1,h1)/\∃ δ2 h2,tb δ1 h1=some (.nx δ2,h2)/\I δ2 h2) (δ:DSt) (h:aA) (i:I δ h) :
  ∃ δ' h',bJ g tb none all rest δ h=some (.nx δ',h')/\I δ' h':=sZ I rest (fun x hx δ h i=>let ⟨δ1,h1,e1,δ2,h2,e2,i2⟩:=ht x hx δ h i;⟨δ1,h1,δ2,h2,e1,e2,i2⟩) δ h i
section
variable (h:aA)
@[simp] theorem bZ7:bD []=some []:=rfl
@[simp] theorem bT3 (i:Int) (r:List PyData):bD (.int i::r)=(bD r).map (i::·):=rfl
def qX (ns:List Int):bD (ns.map .int)=some ns:=by
 induction ns with
 | nil=>rfl
 | cons n r ih=>simp [ih]
@[simp] theorem cQ3:xIs (.d .none) (.d .none)=some true:=rfl
@[simp] theorem cQ4 (i:Int):xIs (.d (.int i)) (.d .none)=some false:=rfl
@[simp] theorem cQ5 (xs:List PyData):xIs (.d (.tuple xs)) (.d .none)=some false:=rfl
def get_last (c:Cell):(h++[c])[h.length]?=some c:=by simp
def set_last (c c':Cell):(h++[c]).set h.length c'=h++[c']:=by simp
def mpre_last (xs:List PyData):lG "append" (.c h.length) (h++[.l xs])=true:=by
 unfold lG;rw [if_pos rfl];simp
def aY1 {lo:Int} {n:Nat} {x:PyData} (hx:x∈rng lo n):∃ k:Nat,k < n/\x=.int (lo+k):=by
 unfold rng at hx;obtain ⟨k,hk,rfl⟩:=List.mem_map.mp hx;exact ⟨k,by simpa using hk,rfl⟩
end
end CI

namespace CI
open PySem PySem.Spec PyProof.Rows L2 DL ST
@[simp high] theorem bs {α β:Type} (a:α) (f:α->Option β):(some a).bind f=f a:=id rfl
@[simp high] theorem xv0 (w:W) (l:DSt) (h:aA):aB 0 (some w::l) h=some (w,h):=id rfl
@[simp high] theorem xv1 {x0:Option W} (w:W) (l:DSt) (h:aA):aB 1 (x0::some w::l) h=some (w,h):=id rfl
@[simp high] theorem xv2 {x0 x1:Option W} (w:W) (l:DSt) (h:aA):aB 2 (x0::x1::some w::l) h=some (w,h):=id rfl
@[simp high] theorem xv3 {x0 x1 x2:Option W} (w:W) (l:DSt) (h:aA):aB 3 (x0::x1::x2::some w::l) h=some (w,h):=id rfl
@[simp high] theorem xv4 {x0 x1 x2 x3:Option W} (w:W) (l:DSt) (h:aA):aB 4 (x0::x1::x2::x3::some w::l) h=some (w,h):=id rfl
@[simp high] theorem xv5 {x0 x1 x2 x3 x4:Option W} (w:W) (l:DSt) (h:aA):aB 5 (x0::x1::x2::x3::x4::some w::l) h=some (w,h):=id rfl
@[simp high] theorem xv6 {x0 x1 x2 x3 x4 x5:Option W} (w:W) (l:DSt) (h:aA):aB 6 (x0::x1::x2::x3::x4::x5::some w::l) h=some (w,h):=id rfl
@[simp high] theorem xv7 {x0 x1 x2 x3 x4 x5 x6:Option W} (w:W) (l:DSt) (h:aA):aB 7 (x0::x1::x2::x3::x4::x5::x6::some w::l) h=some (w,h):=id rfl
@[simp high] theorem xv8 {x0 x1 x2 x3 x4 x5 x6 x7:Option W} (w:W) (l:DSt) (h:aA):aB 8 (x0::x1::x2::x3::x4::x5::x6::x7::some w::l) h=some (w,h):=id rfl
@[simp high] theorem xv9 {x0 x1 x2 x3 x4 x5 x6 x7 x8:Option W} (w:W) (l:DSt) (h:aA):aB 9 (x0::x1::x2::x3::x4::x5::x6::x7::x8::some w::l) h=some (w,h):=id rfl
@[simp high] theorem cU3 {x0 x1 x2 x3 x4 x5 x6 x7 x8 x9:Option W} (w:W) (l:DSt) (h:aA):aB 10 (x0::x1::x2::x3::x4::x5::x6::x7::x8::x9::some w::l) h=some (w,h):=id rfl
@[simp high] theorem cU4 {x0 x1 x2 x3 x4 x5 x6 x7 x8 x9 x10:Option W} (w:W) (l:DSt) (h:aA):aB 11 (x0::x1::x2::x3::x4::x5::x6::x7::x8::x9::x10::some w::l) h=some (w,h):=id rfl
theorem yA {g:XG} {tt:XR Bool} {te:XR W} {all:List PyData} {h:aA} (p:PyData->Bool) (f:PyData->PyData) (I:DSt->Prop):∀ (xs:List PyData) (δ:DSt) (ac:List PyData),I δ ->
  (∀ x∈xs,∀ δ,I δ->∃ δ',g (.d x) δ h=some (δ',h)/\I δ'/\tt δ' h=some (p x,h)/\(p x=true->te δ' h=some (.d (f x),h)))->aN g tt te none all xs δ h ac=some (ac++(xs.filter p).map f,h)
 | [],δ,ac,_,_=>by simp [aN]
 | x::r,δ,ac,i,hx=>by
  obtain ⟨δ',e1,i',e2,e3⟩:=hx x List.mem_cons_self δ i;have ih:=fun ac=>yA (all:=all) p f I r δ' ac i' fun y hy=>hx y (List.mem_cons_of_mem _ hy);rw [aN,cJ,if_pos rfl,e1];simp only [bs,e2];cases hp:p x with
  | true=>rw [if_pos rfl,e3 hp];simp only [bs];rw [ih];simp [hp]
  | false=>rw [if_neg (by simp)];rw [ih];simp [hp]
def mW {g:XG} {te:XR W} {all:List PyData} {h:aA} (f:PyData->PyData) (I:DSt->Prop) (xs:List PyData) (δ:DSt) (i:I δ)
  (hx:∀ x∈xs,∀ δ,I δ->∃ δ',g (.d x) δ h=some (δ',h)/\I δ'/\te δ' h=some (.d (f x),h)):aN g (aC true) te none all xs δ h []=some (xs.map f,h):=by
 have:=yA (g:=g) (tt:=aC true) (te:=te) (all:=all) (h:=h) (fun _=>true) f I xs δ [] i fun x m δ i=>by
  obtain ⟨δ',a,b,c⟩:=hx x m δ i;exact ⟨δ',a,b,rfl,fun _=>c⟩
 rw [this,List.filter_eq_self.mpr (fun _ _=>rfl),List.nil_append]
def gA {g:XG} {tb:XS} {all:List PyData} {P:DSt->aA->Prop} (I:Nat->DSt->aA->Prop) {rest:List PyData} {δ:DSt} {h:aA} (hi:I 0 δ h) (hP:∀ δ h,I rest.length δ h->P δ h)
  (ht:∀ n (hn:n < rest.length) δ h,I n δ h->∃ δ1 h1,g (.d rest[n]) δ h=some (δ1,h1)/\∃ δ2 h2,tb δ1 h1=some (.nx δ2,h2)/\I (n+1) δ2 h2):∃ δ' h',bJ g tb none all rest δ h=some (.nx δ',h')/\P δ' h':=by
 suffices H:∀ (r:List PyData) (n:Nat) (δ:DSt) (h:aA),(∃ p,rest=p++r/\p.length=n)->I n δ h->∃ δ' h',bJ g tb none all r δ h=some (.nx δ',h')/\I rest.length δ' h' by
  obtain ⟨δ',h',e,i⟩:=H rest 0 δ h ⟨[],rfl,rfl⟩ hi;exact ⟨δ',h',e,hP δ' h' i⟩
 intro r;induction r with
 | nil =>
  rintro n δ h ⟨p,e1,e2⟩ i;subst e2;simp at e1;subst e1;exact ⟨δ,h,by simp [bJ],i⟩
 | cons x r ih =>
  rintro n δ h ⟨p,e1,e2⟩ i;have hn:n < rest.length:=by rw [e1];simp;omega
  have hx:rest[n]=x:=by subst e2;subst e1;simp
  obtain ⟨δ1,h1,e1',δ2,h2,e2',i2⟩:=ht n hn δ h i;rw [hx] at e1';obtain ⟨δ3,h3,e3,i3⟩:=ih (n+1) δ2 h2 ⟨p++[x],by simp [e1],by simp [e2]⟩ i2;refine ⟨δ3,h3,?_,i3⟩;rw [bJ,cJ,if_pos rfl,e1'];simp only [bs,e2'];exact e3
def rng_len (lo:Int) (n:Nat):(rng lo n).length=n:=by simp [rng]
def mX {i j:Nat} (hi:i<=100) (hj:j<=100):cU i j=true:=by
 unfold cU;simp only [Bool.and_eq_true,decide_eq_true_eq];omega
@[simp] theorem at4 (a b c e f:PyData) (r:List PyData):atI (a::b::c::e::f::r) 4=some f:=bO (j:=4) (by simp)
@[simp] theorem at5 (a b c e f g:PyData) (r:List PyData):atI (a::b::c::e::f::g::r) 5=some g:=bO (j:=5) (by simp)
end CI

namespace CI
open PySem DL
variable {h L:aA} {i:Nat} {c c':Cell}
open Classical in
@[simp] theorem qY (h0:aA) (z:PyData) (h1:aA):aJ h0 (.rt (.d z),h1)=if okP h0 h1 then some (z,h1.take h0.length) else none:=rfl
open Classical in
@[simp] theorem aN2 (h0:aA) (δ:DSt) (h1:aA):aJ h0 (.nx δ,h1)=if okP h0 h1 then some (PyData.none,h1.take h0.length) else none:=rfl
def yB (xs:List PyData):okP (h.set i c) (h.set i (.l xs)):=by
 have:=aM7 i xs (dO (h.set i c))
 rwa [List.set_set] at this
@[simp] theorem cQ6 (xs:List PyData):okP (h.set i c) (h.set i (.l xs))=True:=eq_true (yB xs)
@[simp] theorem cQ7 (s:S3):okP (h.set i c) (h.set i (stL s))=True:=eq_true (yB _)
@[simp] theorem cQ8 (xs:List PyData):okP (h.set i c) (h.set i (.l xs)++L)=True:=eq_true (kK L (by simp) (yB xs))
@[simp] theorem bO1 (s:S3):okP (h.set i c) (h.set i (stL s)++L)=True:=eq_true (kK L (by simp) (yB _))
@[simp] theorem cQ9 (s:S3) (hi:i < h.length):okP (h.set i c) ((h++L).set i (stL s))=True:=by rw [<- pB hi,bO1]
@[simp] theorem cO7:(h.set i c).take h.length=h.set i c:=List.take_of_length_le (by simp)
@[simp] theorem bZ8:(h.set i c++L).take h.length=h.set i c:=by rw [List.take_append_of_le_length (by simp),cO7]
@[simp] theorem cR0 (hi:i < h.length):((h++L).set i c).take h.length=h.set i c:=by rw [<- pB hi,bZ8]
end CI

namespace SJ
open PySem
set_option genInjectivity true in
inductive One where
 | read (k:Nat) | write (k:Nat) (v:Int) | add (k:Nat) (n:Int) | swap (k:Nat) (o n:Int)
set_option genInjectivity true in
inductive Call where
 | one (c:One) | span (lo hi:Nat) | deal (cs:List One)
set_option genInjectivity true in
inductive Stp where
 | call (c:Call) | look (c:Call) | lay (ps:List (Nat×Int))
def One.dat:One->PyData
 | .read k=>.tuple [.str "read",.int k]
 | .write k v=>.tuple [.str "write",.int k,.int v]
 | .add k n=>.tuple [.str "add",.int k,.int n]
 | .swap k o n=>.tuple [.str "swap",.int k,.int o,.int n]
def One.key:One->Nat
 | .read k=>k | .write k _=>k | .add k _=>k | .swap k _ _=>k
def Call.dat:Call->PyData
 | .one c=>c.dat
 | .span lo hi=>.tuple [.str "span",.int lo,.int hi]
 | .deal cs=>.tuple [.str "deal",.tuple (cs.map One.dat)]
def One.ok (c:One):Prop:=c.key < 8
noncomputable def Call.ok:Call->Prop
 | .one c=>c.ok
 | .span lo hi=>lo < hi/\hi<=8
 | .deal cs=>cs.length<=4/\1<=cs.length/\∀ c∈cs,c.ok
noncomputable def nums (st:List Int):List PyData:=st.map .int
noncomputable def got (v:Int):PyData:=.tuple [.str "got",.int v]
noncomputable def dn:PyData:=.tuple [.str "done"]
noncomputable def yes:PyData:=.tuple [.str "yes"]
def no:PyData:=.tuple [.str "no"]
mutual
noncomputable def fit:Nat->PyData->Bool
 | _,.none=>true
 | _,.bool _=>true
 | _,.int _=>true
 | _,.str x=>PyData.strOk x
 | 0,.list _=>false
 | 0,.tuple _=>false
 | n+1,.list xs=>fits n xs
 | n+1,.tuple xs=>fits n xs
 | _,.dict _=>false
noncomputable def fits:Nat->List PyData->Bool
 | _,[]=>true
 | n,x::xs=>fit n x&&fits n xs
end

end SJ

namespace SJ
open PySem
mutual
noncomputable def sok:PyData->Bool
 | .str x=>PyData.strOk x
 | .list xs=>decide (xs.length<=1000)&&soks xs
 | .tuple xs=>decide (xs.length<=1000)&&soks xs
 | _=>true
noncomputable def soks:List PyData->Bool
 | []=>true
 | x::r=>sok x&&soks r
end
def pD {x:PyData} {xs:List PyData}:soks (x::xs)=true ↔ sok x=true/\soks xs=true:=by rw [soks,Bool.and_eq_true]
noncomputable def gB:PyData->Bool
 | .int _=>true
 | _=>false
noncomputable def eM (x:PyData) (lo hi:Int):Bool:=match x with
 | .int i=>decide (lo<=i)&&decide (i<=hi)
 | _=>false
def jQ (x:PyData):Bool:=eM x 0 7
noncomputable def fE:PyData->Int->Bool
 | .tuple xs,n=>decide ((xs.length:Int)=n)
 | _,_=>false
noncomputable def fS:PyData->PyData
 | .tuple (.str s::_)=>.str s
 | _=>.none
noncomputable def aP (x:PyData) (s:Str) (n:Int):Bool:=match x with
 | .tuple (.str t::r)=>(t==s)&&decide ((r.length:Int)+1=n)
 | _=>false
def nb (s:Str):Option Int:=if s=Str.ofString "read" then some 0 else if s=Str.ofString "write" then some 1 else if s=Str.ofString "add" then some 1 else if s=Str.ofString "swap" then some 2 else none
def bH:PyData->Bool
 | .tuple (.str s::r)=>match nb s with
  | some n=>(decide ((r.length:Int)+1=2+n))&&(match r with
   | k::vs=>jQ k&&vs.all gB
   | []=>false)
  | none=>false
 | _=>false
noncomputable def fF:PyData->Bool
 | .tuple [.str s,.int a,.int b]=>(s==Str.ofString "span")&&decide (0<=a)&&decide (a < b)&&decide (b<=8)
 | _=>false
def fT:PyData->Bool
 | .tuple [.str s,.tuple ps]=>(s==Str.ofString "deal")&&decide (1<=ps.length)&&decide (ps.length<=4)&&ps.all bH
 | _=>false
def dK (x:PyData):Bool:=bH x||fF x||fT x
def jE:PyData->Bool
 | .tuple [.str s,c]=>(s==Str.ofString "look")&&dK c
 | _=>false
def dU:PyData->Bool
 | .tuple [k,v]=>jQ k&&gB v
 | _=>false
noncomputable def kM:PyData->Int
 | .int i=>i
 | _=>0
noncomputable def mY:PyData->PyData
 | .tuple (k::_)=>k
 | _=>.none
noncomputable def rise (ns:List Int):Bool:=(List.range (ns.length - 1)).all fun k=>decide (ns.getD k 0 < ns.getD (k+1) 0)
def lB:PyData->Bool
 | .tuple [.str s,.tuple ps]=>(s==Str.ofString "lay")&&!ps.isEmpty&&ps.all dU&&rise (ps.map fun p=>kM (mY p))
 | _=>false
def jF (x:PyData):Bool:=dK x||jE x||lB x
end SJ

namespace SJ
open PySem PySem.Spec PyProof.Rows L2 DL
def aY2:nb "read"=some 0:=by decide +kernel
def aN3:nb "write"=some 1:=by decide +kernel
def bO2:nb "add"=some 1:=by decide +kernel
def aY3:nb "swap"=some 2:=by decide +kernel
def aY4:nb "look"=none:=by decide +kernel
def aY5:PyData.strOk "read"=true:=by decide +kernel
def aN4:PyData.strOk "write"=true:=by decide +kernel
def bO3:PyData.strOk "add"=true:=by decide +kernel
def aY6:PyData.strOk "swap"=true:=by decide +kernel
end SJ

namespace SJ
open PySem PySem.Spec PyProof.Rows L2 DL
def aY7:PyData.strOk "span"=true:=by decide +kernel
def aY8:PyData.strOk "deal"=true:=by decide +kernel
def aY9:PyData.strOk "look"=true:=by decide +kernel
def aN5 {k:Nat} (h:k < 8):jQ (.int k)=true:=by
 simp [jQ,eM];omega
def mZ {o:One} (h:o.ok):bH o.dat=true/\sok o.dat=true:=by
 have h':o.key < 8:=h;cases o<;>simp [One.key] at h'<;>simp [One.dat,bH,aY2,aN3,bO2,aY3,aN5 h',gB,sok,soks,aY5,aN4,bO3,aY6]
theorem tA:∀ {cs:List One},(∀ c∈cs,c.ok)->(cs.map One.dat).all bH=true/\soks (cs.map One.dat)=true
 | [],_=>⟨rfl,rfl⟩
 | c::r,h=>by
  obtain ⟨h1,h2⟩:=mZ (h c List.mem_cons_self);obtain ⟨h3,h4⟩:=tA fun z hz=>h z (List.mem_cons_of_mem _ hz);rw [List.map_cons,List.all_cons,h1,h3,pD];exact ⟨rfl,h2,h4⟩
def eU {o:SJ.Call} (h:o.ok):dK o.dat=true/\jF o.dat=true/\sok o.dat=true:=by
 have hc:dK o.dat=true/\sok o.dat=true:=by
  cases o with
  | one c =>
   obtain ⟨h1,h2⟩:=mZ (o:=c) h;exact ⟨by simp [dK,Call.dat,h1],h2⟩
  | span lo hi =>
   obtain ⟨h1,h2⟩:=h;refine ⟨?_,by simp [Call.dat,sok,soks,aY7]⟩;have e1:(0:Int)<=lo:=by omega
   have e2:(lo:Int) < hi:=by omega
   have e3:(hi:Int)<=8:=by omega
   simp [dK,Call.dat,fF,e2,e3]
  | deal cs =>
   obtain ⟨h1,h2,h3⟩:=h;obtain ⟨h4,h5⟩:=tA h3;refine ⟨?_,by simp [Call.dat,sok,soks,aY8,h5];omega⟩;simp only [dK,Call.dat,fT,h4,List.length_map];simp [h1,h2]
 exact ⟨hc.1,by simp [jF,hc.1],hc.2⟩
def aB9 {o:SJ.Call} (h:o.ok):dK (.tuple [.str "look",o.dat])=false/\jF (.tuple [.str "look",o.dat])=true/\sok (.tuple [.str "look",o.dat])=true:=by
 obtain ⟨h1,h2,h3⟩:=eU h;have hs:fF (.tuple [.str "look",o.dat])=false:=by
  unfold fF;split
  ·simp_all
  ·rfl
 have hd:fT (.tuple [.str "look",o.dat])=false:=by
  unfold fT;split
  ·rename_i e;injection e with e
   injection e with e1 e2
   injection e1 with e1
   subst e1;simp
  ·rfl
 have hi:bH (.tuple [.str "look",o.dat])=false:=by simp [bH,aY4]
 have hc:dK (.tuple [.str "look",o.dat])=false:=by simp [dK,hs,hd,hi]
 refine ⟨hc,?_,by simp [sok,soks,aY9,h3]⟩;simp only [jF,hc,jE,h1];simp
noncomputable def prP (p:Nat×Int):PyData:=.tuple [.int p.1,.int p.2]
theorem pE:∀ {ps:List (Nat×Int)},(∀ p∈ps,p.1 < 8)->(ps.map prP).all dU=true/\soks (ps.map prP)=true/\((ps.map prP).map fun p=>kM (mY p))=ps.map fun p=>(p.1:Int)
 | [],_=>⟨rfl,rfl,rfl⟩
 | p::r,h=>by
  obtain ⟨h3,h4,h5⟩:=pE fun z hz=>h z (List.mem_cons_of_mem _ hz);have hk:=aN5 (h p List.mem_cons_self);rw [List.map_cons,List.all_cons,h3,pD,List.map_cons,h5];refine ⟨by simp [prP,dU,hk,gB],⟨by simp [prP,sok,soks],h4⟩,?_⟩;rfl
def aZ0 {ks:List Nat} (h:ks.Pairwise (· < ·)):rise (ks.map fun (k:Nat)=>(k:Int))=true:=by
 unfold rise;rw [List.all_eq_true];intro i hi;have hi':i+1 < ks.length:=by
  have:=List.mem_range.mp hi;simp at this;omega
 have:=List.pairwise_iff_getElem.mp h i (i+1) (by omega) hi' (by omega);simp [List.getD,hi',show i < ks.length by omega];omega
end SJ

namespace SJ
open PySem
set_option genInjectivity true in
inductive An1 where
 | got (v:Int) | dn | yes | no
def An1.dat:An1->PyData
 | .got v=>.tuple [.str "got",.int v]
 | .dn=>.tuple [.str "done"]
 | .yes=>.tuple [.str "yes"]
 | .no=>.tuple [.str "no"]
def An1.fits:One->An1->Prop
 | .read _,.got _=>True
 | .add _ _,.got _=>True
 | .write _ _,.dn=>True
 | .swap _ _ _,.yes=>True
 | .swap _ _ _,.no=>True
 | _,_=>False
set_option genInjectivity true in
inductive Ans where
 | one (a:An1) | all (ns:List Int) | each (as:List An1)
def Ans.dat:Ans->PyData
 | .one a=>a.dat
 | .all ns=>.tuple [.str "all",.tuple (ns.map .int)]
 | .each as=>.tuple [.str "each",.tuple (as.map An1.dat)]
set_option genInjectivity true in
inductive Fit2:List One->List An1->Prop
 | nil:Fit2 [] []
 | cons {o:One} {a:An1} {os:List One} {as:List An1} (h:An1.fits o a) (t:Fit2 os as):Fit2 (o::os) (a::as)
def Ans.fits:Call->Ans->Prop
 | .one o,.one a=>An1.fits o a
 | .span lo hi,.all ns=>ns.length=hi - lo
 | .deal cs,.each as=>Fit2 cs as
 | _,_=>False
def cW (o:One) (t:PyData):Bool:=match o with
 | .read _=>(match t with
  | .tuple [.str s,v]=>(s==Str.ofString "got")&&gB v
  | _=>false)
 | .add _ _=>(match t with
  | .tuple [.str s,v]=>(s==Str.ofString "got")&&gB v
  | _=>false)
 | .write _ _=>aP t "done" 1
 | .swap _ _ _=>aP t "yes" 1||aP t "no" 1
def fN:List One->List PyData->Bool
 | o::os,t::ts=>cW o t&&fN os ts
 | _,_=>true
def bL (c:Call) (t:PyData):Bool:=match c with
 | .one o=>cW o t
 | .span lo hi=>(match t with
  | .tuple [.str s,.tuple xs]=>(s==Str.ofString "all")&&decide ((xs.length:Int)=(hi:Int) - lo)&&xs.all gB
  | _=>false)
 | .deal cs=>(match t with
  | .tuple [.str s,.tuple xs]=>(s==Str.ofString "each")&&decide (xs.length=cs.length)&&fN cs xs
  | _=>false)
theorem Fit2.length:∀ {os:List One} {as:List An1},Fit2 os as->as.length=os.length
 | _,_,.nil=>rfl
 | _,_,.cons _ t=>by simp [t.length]
def tB {o:One} {a:An1} (h:An1.fits o a):cW o a.dat=true:=by
 cases o<;>cases a<;>first | exact False.elim h | rfl
theorem pF:∀ {os:List One} {as:List An1},Fit2 os as->fN os (as.map An1.dat)=true
 | _,_,.nil=>rfl
 | _,_,.cons h t=>by simp [fN,tB h,pF t]
def pG {c:Call} {a:Ans} (h:Ans.fits c a) (hc:c.ok):bL c a.dat=true:=by
 cases c<;>cases a<;>first | exact False.elim h | skip
 ·exact tB h
 ·rename_i lo hi ns;have:=hc.1
  replace h:ns.length=hi - lo:=h
  simp [bL,Ans.dat,h,gB];omega
 ·rename_i cs as
  replace h:Fit2 cs as:=h
  simp [bL,Ans.dat,pF h,h.length]
end SJ

noncomputable section
namespace K47
open PySem PySem.Spec PyProof.Rows L2 DL CI SJ
def body:List Stmt:=PySem.Challenge.pw_storejudge_k47_what_was_seen_and_laid.main.body.filter fun s=>!aM4 "_law_word" s
noncomputable def cv (x:Str):List Str:=if x="left_by" then ["left"] else if x="look_entries" then ["entries"] else if x="hand_entries" then ["entries"] else if x="key_entries" then ["entries"] else if x="pairs_where" then ["pairs"] else if x="triples_of" then ["triples"] else if x="_law_moved" then ["_law_rows[]"] else if x="_law_history" then ["_law_deeds","_law_rows","_law_stand","_law_rows[]"] else if x="_law_left" then ["_law_values"] else if x="_law_lot" then ["_law_couples","_law_items","_law_numbers","return"] else if x="_law_triples" then ["_law_found"] else if x="_law_dense" then ["_law_stand","_law_free_here"] else if x="problems_of" then ["return"] else if x="deeds_of" then ["return"] else []
noncomputable def wf (x:Str):Bool:=decide (x="problems_of")||decide (x="deeds_of")||decide (x="_law_moved")
noncomputable def qn (x:Str):Option (Str×Pos):=if x="taking_part" then some ("taking_part.<locals>.",⟨200,31,200,64⟩) else none
def T:Top:=(bE0 body (fun _=>[]) cv 100000 60 wf (qn:=qn)).fv ["really_ahead","ahead_by_hand"]
end K47

namespace K47
open PySem PySem.Spec PyProof.Rows L2 DL CI
noncomputable def YE:Fl×aA->Option (Fl×aA):=fun p=>match p.1 with
  | Fl.nx δ'=>some (Fl.nx δ',p.2)
  | f=>some (f,p.2)
theorem cO8 :YE=fun p=>match p.1 with
 | Fl.nx δ'=>some (Fl.nx δ',p.2)
 | f=>some (f,p.2):=rfl
def YN:W->XR (List W):=fun w=>xb (aC []) fun ws=>aC (w::ws)
@[simp] theorem cM :YN=fun w=>xb (aC []) fun ws=>aC (w::ws):=rfl
def YC (w:W):List W->XR (List W):=fun ws=>aC (w::ws)
@[simp] theorem cN (w:W):YC w=fun ws=>aC (w::ws):=rfl
def YF (d:Nat) (s:String):List W->XR W:=fun ws x h=>Option.bind (aD T d (Str.ofString s) ws h) fun p=>some (W.d p.1,p.2)
@[simp] theorem cH (d:Nat) (s:String):YF d s=fun ws x h=>Option.bind (aD T d (Str.ofString s) ws h) fun p=>some (W.d p.1,p.2):=rfl
def YI (n:Int):W->XR W:=fun x=>xb (aC (W.d (PyData.int n))) fun y x_1 h=>xIx x y h
@[simp] theorem cX (n:Int):YI n=fun x=>xb (aC (W.d (PyData.int n))) fun y x_1 h=>xIx x y h:=rfl
def YB (o:Operator) (n:Int):W->XR W:=fun u=>xb (aC (W.d (PyData.int n))) fun w x h=>hZ o u w h
@[simp] theorem cY (o:Operator) (n:Int):YB o n=fun u=>xb (aC (W.d (PyData.int n))) fun w x h=>hZ o u w h:=rfl
def YO (o:Operator) (u:W):W->XR W:=fun w x h=>hZ o u w h
@[simp] theorem cZ (o:Operator) (u:W):YO o u=fun w x h=>hZ o u w h:=rfl
def YT:List PyData->XR W:=fun xs=>aC (W.d (PyData.tuple xs))
@[simp] theorem cO :YT=fun xs=>aC (W.d (PyData.tuple xs)):=rfl
noncomputable def YW:W×aA->Option (Fl×aA):=fun p=>some (Fl.rt p.1,p.2)
@[simp] theorem cU5 :YW=fun p=>some (Fl.rt p.1,p.2):=rfl
def YS (s:String):XR W:=aC (W.d (PyData.str (Str.ofString s)))
@[simp] theorem dA (s:String):YS s=aC (W.d (PyData.str (Str.ofString s))):=rfl
def YJ (n:Int):XR W:=aC (W.d (PyData.int n))
@[simp] theorem cP (n:Int):YJ n=aC (W.d (PyData.int n)):=rfl
noncomputable def YK (f:List W->aA->Option (W×aA)):List W->XR W:=fun ws x h=>f ws h
@[simp] theorem aZ1 (f:List W->aA->Option (W×aA)):YK f=fun ws x h=>f ws h:=rfl
noncomputable def YQ (k:DSt->Fl×aA->Option (Fl×aA)):Fl×aA->Option (Fl×aA):=fun p=>match p.1 with
  | Fl.nx δ'=>k δ' p
  | f=>some (f,p.2)
noncomputable def YP {α β:Type} (x:Option α) (f:α->Option β):Option β:=Option.bind x f
@[simp] theorem cU6 {α β:Type} (x:Option α) (f:α->Option β):YP x f=Option.bind x f:=rfl
noncomputable def YG (i:Nat):XG:=fun w δ h=>some (List.set δ i (some w),h)
@[simp] theorem cE (i:Nat):YG i=fun w δ h=>some (List.set δ i (some w),h):=rfl
def YZ:XR W:=aC (W.d PyData.none)
@[simp] theorem cQ:YZ=aC (W.d PyData.none):=rfl
def YV (i:Nat) (n:Int):XR W:=xb (aB i) (YI n)
@[simp] theorem dB (i:Nat) (n:Int):YV i n=xb (aB i) (YI n):=rfl
def YA (e:XR (List W)):W->XR W:=fun w δ h=>if lG (Str.ofString "append") w h=true then Option.bind (e δ h) fun p=>uK w p.1 p.2 else none
@[simp] theorem cU7 (e:XR (List W)):YA e=fun w δ h=>if lG (Str.ofString "append") w h=true then Option.bind (e δ h) fun p=>uK w p.1 p.2 else none:=rfl
def YR :W->XR (List PyData×Cw):=fun w x h=>match w with
  | W.d (PyData.int j)=>if cU 0 j=true then some ((rng 0 (Int.toNat j),none),h) else none
  | x=>none
@[simp] theorem cU8 :YR =fun w x h=>match w with
  | W.d (PyData.int j)=>if cU 0 j=true then some ((rng 0 (Int.toNat j),none),h) else none
  | x=>none:=rfl
def YD :W->XR Bool:=fun w=>match w with
  | W.d (PyData.bool b)=>aC b
  | x=>xno
@[simp] theorem bZ9 :YD =fun w=>match w with
  | W.d (PyData.bool b)=>aC b
  | x=>xno:=rfl
def YU :W->XR (Option Int):=fun w=>match w with
  | W.d (PyData.int i)=>aC (some i)
  | x=>xno
@[simp] theorem cU9 :YU =fun w=>match w with
  | W.d (PyData.int i)=>aC (some i)
  | x=>xno:=rfl
def YX (x:W):W->XR W:=fun y _ h=>xIx x y h
@[simp] theorem cR (x:W):YX x=fun y _ h=>xIx x y h:=rfl
def YS3 (x:W) (l:Option Int):Option Int->XR W:=fun u _ h=>xSl x l u h
@[simp] theorem cR1 (x:W) (l:Option Int):YS3 x l=fun u _ h=>xSl x l u h:=rfl
def YT2 (b:Bool) (δ:DSt):Bool×aA->Option (Fl×aA):=fun p=>if p.1=true then YP (YP (aC (W.d (PyData.bool b)) δ p.2) YW) YE else some (Fl.nx δ,p.2)
@[simp] theorem cR2 (b:Bool) (δ:DSt):YT2 b δ=fun p=>if p.1=true then YP (YP (aC (W.d (PyData.bool b)) δ p.2) YW) YE else some (Fl.nx δ,p.2):=rfl
def YNg :W->XR W:=fun w=>match w with
  | W.d (PyData.int i)=>aC (W.d (PyData.int (-i)))
  | x=>xno
@[simp] theorem cR3 :YNg =fun w=>match w with
  | W.d (PyData.int i)=>aC (W.d (PyData.int (-i)))
  | x=>xno:=rfl
def Y1 (a:XR W):XR (List W):=xb a YN
@[simp] theorem cS (a:XR W):Y1 a=xb a YN:=rfl
def Y2 (a b:XR W):XR (List W):=xb a fun w=>xb (Y1 b) (YC w)
@[simp] theorem cT (a b:XR W):Y2 a b=xb a fun w=>xb (Y1 b) (YC w):=rfl
def Y3 (a b c:XR W):XR (List W):=xb a fun w=>xb (Y2 b c) (YC w)
@[simp] theorem dC (a b c:XR W):Y3 a b c=xb a fun w=>xb (Y2 b c) (YC w):=rfl
def Y4 (a b c e:XR W):XR (List W):=xb a fun w=>xb (Y3 b c e) (YC w)
@[simp] theorem dD (a b c e:XR W):Y4 a b c e=xb a fun w=>xb (Y3 b c e) (YC w):=rfl
def Y5 (a b c e f:XR W):XR (List W):=xb a fun w=>xb (Y4 b c e f) (YC w)
@[simp] theorem dE (a b c e f:XR W):Y5 a b c e f=xb a fun w=>xb (Y4 b c e f) (YC w):=rfl
def Y6 (a b c e f g:XR W):XR (List W):=xb a fun w=>xb (Y5 b c e f g) (YC w)
@[simp] theorem cV0 (a b c e f g:XR W):Y6 a b c e f g=xb a fun w=>xb (Y5 b c e f g) (YC w):=rfl
def Y7 (a b c e f g i:XR W):XR (List W):=xb a fun w=>xb (Y6 b c e f g i) (YC w)
@[simp] theorem cV1 (a b c e f g i:XR W):Y7 a b c e f g i=xb a fun w=>xb (Y6 b c e f g i) (YC w):=rfl
def YRt (x:Option (W×aA)):Option (Fl×aA):=YP (YP x YW) YE
@[simp] theorem cR4 (x:Option (W×aA)):YRt x=YP (YP x YW) YE:=rfl
def YNb :Bool->XR Bool:=fun b=>aC !b
@[simp] theorem cR5 :YNb =fun b=>aC !b:=rfl
def YNt (x:XR Bool):XR Bool:=xb x fun b=>aC !b
@[simp] theorem cR6 (x:XR Bool):YNt x=xb x fun b=>aC !b:=rfl
def YOb (x:XR Bool):Bool->XR Bool:=fun c=>if c=true then aC true else x
@[simp] theorem cR7 (x:XR Bool):YOb x=fun c=>if c=true then aC true else x:=rfl
def YAb (x:XR Bool):Bool->XR Bool:=fun c=>if c=true then x else aC false
@[simp] theorem cR8 (x:XR Bool):YAb x=fun c=>if c=true then x else aC false:=rfl
def YAn (b:XR W):W->XR W:=fun w=>match w with
  | W.d (PyData.bool true)=>b
  | W.d (PyData.bool false)=>aC (W.d (PyData.bool false))
  | x=>xno
@[simp] theorem cR9 (b:XR W):YAn b=fun w=>match w with
  | W.d (PyData.bool true)=>b
  | W.d (PyData.bool false)=>aC (W.d (PyData.bool false))
  | x=>xno:=rfl
def YOr (b:XR W):W->XR W:=fun w=>match w with
  | W.d (PyData.bool true)=>aC (W.d (PyData.bool true))
  | W.d (PyData.bool false)=>b
  | x=>xno
@[simp] theorem cS0 (b:XR W):YOr b=fun w=>match w with
  | W.d (PyData.bool true)=>aC (W.d (PyData.bool true))
  | W.d (PyData.bool false)=>b
  | x=>xno:=rfl
def YOx (o:Operator) (x:XR W):W->XR W:=fun u=>xb x (YO o u)
@[simp] theorem cS1 (o:Operator) (x:XR W):YOx o x=fun u=>xb x (YO o u):=rfl
def YXx (x:XR W):W->XR W:=fun u=>xb x (YX u)
@[simp] theorem cS2 (x:XR W):YXx x=fun u=>xb x (YX u):=rfl
def YSl (l r:XR (Option Int)):W->XR W:=fun x=>xb l fun u=>xb r (YS3 x u)
@[simp] theorem cS3 (l r:XR (Option Int)):YSl l r=fun x=>xb l fun u=>xb r (YS3 x u):=rfl
def YIs (s:String):W->XR W:=fun w x h=>YP (ref h w) fun d=>if noD d=true then some (W.d (PyData.bool (isi d s)),h) else none
@[simp] theorem cS4 (s:String):YIs s=fun w x h=>YP (ref h w) fun d=>if noD d=true then some (W.d (PyData.bool (isi d s)),h) else none:=rfl
noncomputable def YNx {α:Type} (D:DSt):α×aA->Option (Fl×aA):=fun p=>some (Fl.nx D,p.2)
@[simp] theorem cS5 {α:Type} (D:DSt):YNx (α:=α) D=(fun p=>some (Fl.nx D,p.2):α×aA->Option (Fl×aA)):=rfl
noncomputable def YIf (D:DSt) (a:Bool×aA->Option (Fl×aA)):Bool×aA->Option (Fl×aA):=fun p=>if p.1=true then a p else some (Fl.nx D,p.2)
@[simp] theorem cS6 (D:DSt) (a:Bool×aA->Option (Fl×aA)):YIf D a=fun p=>if p.1=true then a p else some (Fl.nx D,p.2):=rfl
def YIr (D:DSt) (e:XR W):Bool×aA->Option (Fl×aA):=fun p=>if p.1=true then YP (YP (e D p.2) YW) YE else some (Fl.nx D,p.2)
@[simp] theorem cS7 (D:DSt) (e:XR W):YIr D e=fun p=>if p.1=true then YP (YP (e D p.2) YW) YE else some (Fl.nx D,p.2):=rfl
def YCp (g:XG) (t:XR Bool) (e:XR W) (l:List (Option Nat)):List PyData×Cw->XR (List PyData):=fun p δ h=>aN g t e p.2 p.1 p.1 (bK l δ) h []
@[simp] theorem cS8 (g:XG) (t:XR Bool) (e:XR W) (l:List (Option Nat)):YCp g t e l=fun p δ h=>aN g t e p.2 p.1 p.1 (bK l δ) h []:=rfl
def YFr (g:XG) (b:XS) (D:DSt):(List PyData×Cw)×aA->Option (Fl×aA):=fun p=>bJ g b p.1.2 p.1.1 p.1.1 D p.2
@[simp] theorem cS9 (g:XG) (b:XS) (D:DSt):YFr g b D=fun p=>bJ g b p.1.2 p.1.1 p.1.1 D p.2:=rfl
def YPt (o k:XR W) (D:DSt):W×aA->Option (Fl×aA):=fun p=>YP (YP (o D p.2) fun p_1=>YP (k D p_1.2) fun q=>match p_1.1,q.1,p.1 with
  | W.c j,W.d y,W.d x=>kB j y x D q.2
  | W.c j,W.d y,W.c i=>rY j y i D q.2
  | x,x_2,x_3=>none) fun q=>some (Fl.nx q.1,q.2)
@[simp] theorem cT0 (o k:XR W) (D:DSt):YPt o k D=fun p=>YP (YP (o D p.2) fun p_1=>YP (k D p_1.2) fun q=>match p_1.1,q.1,p.1 with
  | W.c j,W.d y,W.d x=>kB j y x D q.2
  | W.c j,W.d y,W.c i=>rY j y i D q.2
  | x,x_2,x_3=>none) fun q=>some (Fl.nx q.1,q.2):=rfl
noncomputable def YKa {α:Type} (f:List W->aA->Option (α×aA)):List W->XR α:=fun ws x h=>f ws h
@[simp] theorem cT1 {α:Type} (f:List W->aA->Option (α×aA)):YKa (α:=α) f=(fun ws x h=>f ws h:List W->XR α):=rfl
def YWf (d:Nat) (s:String):List W->XR W:=fun ws x h=>callW T d (Str.ofString s) ws h
@[simp] theorem cT2 (d:Nat) (s:String):YWf d s=fun ws x h=>callW T d (Str.ofString s) ws h:=rfl
def YTp (l:XR (List W)):XR W:=xb (xPl l) YT
@[simp] theorem cT3 (l:XR (List W)):YTp l=xb (xPl l) YT:=rfl
def YF1 (d:Nat) (s:String) (a:XR W):XR W:=xb (Y1 a) (YF d s)
@[simp] theorem cT4 (d:Nat) (s:String) (a:XR W):YF1 d s a=xb (Y1 a) (YF d s):=rfl
def YF2 (d:Nat) (s:String) (a b:XR W):XR W:=xb (Y2 a b) (YF d s)
@[simp] theorem cT5 (d:Nat) (s:String) (a b:XR W):YF2 d s a b=xb (Y2 a b) (YF d s):=rfl
def YK1 (f:List W->aA->Option (W×aA)) (a:XR W):XR W:=xb (Y1 a) (YK f)
@[simp] theorem cT6 (f:List W->aA->Option (W×aA)) (a:XR W):YK1 f a=xb (Y1 a) (YK f):=rfl
def vN (d:Nat) (w0:W) (h:aA):aD T (d+1) "is_whole" [w0] h =
 YP (YRt (xb (xb (aB 0) (YIs "int")) (YAn (xb (xb (aB 0) (YIs "bool")) fun (w:W)=>match w with|W.d (PyData.bool b)=>aC (W.d (PyData.bool (!b)))|x=>xno)) [some w0] h)) (aJ h):=by kernel_rfl
def qZ (d:Nat) (w0 w1 w2:W) (h:aA):aD T (d+1) "is_between" [w0,w1,w2] h =
 YP (YRt (xb (YF1 d "is_whole" (aB 0)) (YAn (aX (xC2 CmpOp.LtE CmpOp.LtE (aB 1) (aB 0) (aB 2)))) [some w0,some w1,some w2] h)) (aJ h):=by kernel_rfl
def oD (d:Nat) (w0 w1:W) (h:aA):aD T (d+1) "is_tuple_of" [w0,w1] h =
 YP (YRt (xb (xb (aB 0) (YIs "tuple")) (YAn (aX (xC1 CmpOp.Eq (YK1 aY (aB 0)) (aB 1)))) [some w0,some w1] h)) (aJ h):=by kernel_rfl
def tC (d:Nat) (w0:W) (h:aA):aD T (d+1) "are_whole" [w0] h =
 YP (YRt (xb (Y1 (aK (xb (aM (aB 0)) (YCp (YG 0) (aC true) (YF1 d "is_whole" (aB 0)) [none])))) (YK hV) [some w0] h)) (aJ h):=by kernel_rfl
def rA (d:Nat) (w0:W) (h:aA):aD T (d+1) "are_rising" [w0] h =
 YP (YRt (xb (Y1 (aK (xb (xb (xb (YK1 aY (aB 0)) (YB .Sub 1)) YR) (YCp (YG 0) (aC true) (aX (xC1 CmpOp.Lt (xb (aB 1) (YXx (aB 0))) (xb (aB 1) (YXx (xb (aB 0) (YB .Add 1)))))) [none,some 0])))) (YK hV) [some w0] h)) (aJ h):=by kernel_rfl
def aN6 (d:Nat) (w0:W) (h:aA):aD T (d+1) "is_key" [w0] h =
 YP (YRt (xb (Y3 (aB 0) (YJ 0) (YJ 7)) (YF d "is_between") [some w0] h)) (aJ h):=by kernel_rfl
def iM (d:Nat) (w0:W) (h:aA):aD T (d+1) "word_of" [w0] h =
 YP (YP (YP (xb (xb (xb (aB 0) (YIs "tuple")) YD) (YAb (xb (xC1 CmpOp.Gt (YK1 aY (aB 0)) (YJ 0)) (YAb (xb (xb (YV 0 0) (YIs "str")) YD)))) [some w0] h) (YIr [some w0] (xb (aB 0) (YI 0)))) (YQ fun δ' p=>YRt (YZ δ' p.2))) (aJ h):=by kernel_rfl
def tF (d:Nat) (w0 w1 w2:W) (h:aA):aD T (d+1) "is_worded" [w0,w1,w2] h =
 YP (YRt (xb (aX (xC1 CmpOp.Eq (YF1 d "word_of" (aB 0)) (aB 1))) (YAn (aX (xC1 CmpOp.Eq (YK1 aY (aB 0)) (aB 2)))) [some w0,some w1,some w2] h)) (aJ h):=by kernel_rfl
def tG (d:Nat) (w0:W) (h:aA):aD T (d+1) "is_single" [w0] h =
 YP (YP (aR 1 (YF1 d "word_of" (aB 0)) [some w0,none] h) (YQ fun δ' p=>YP (YP (xb (kW (fun (z:Str)=>List.lookup z [(Str.ofString "read",PyData.int 0),(Str.ofString "write",PyData.int 1),(Str.ofString "add",PyData.int 1),(Str.ofString "swap",PyData.int 2)]) (aB 1)) (YOb (xC1 CmpOp.NotEq (YK1 aY (aB 0)) (xb (YJ 2) (YOx .Add (xb (aB 1) fun (w:W)=>match w with|W.d (PyData.str z)=>(match List.lookup z [(Str.ofString "read",PyData.int 0),(Str.ofString "write",PyData.int 1),(Str.ofString "add",PyData.int 1),(Str.ofString "swap",PyData.int 2)] with|some i=>aC (W.d i)|none=>xno)|x=>xno))))) δ' p.2) (YT2 false δ')) (YQ fun δ' p=>YRt (xb (YF1 d "is_key" (YV 0 1)) (YAn (YF1 d "are_whole" (xb (aB 0) (YSl (xb (YJ 2) YU) (aC none))))) δ' p.2)))) (aJ h):=by kernel_rfl
def aC0 (d:Nat) (w0:W) (h:aA):aD T (d+1) "is_span" [w0] h =
 YP (YP (YP (xb (YNt (xb (xb (Y3 (aB 0) (YS "span") (YJ 3)) (YF d "is_worded")) YD)) (YOb (YNt (xb (YF1 d "are_whole" (xb (aB 0) (YSl (xb (YJ 1) YU) (aC none)))) YD))) [some w0] h) (YT2 false [some w0])) (YQ fun δ' p=>YRt (aX (xC3 CmpOp.LtE CmpOp.Lt CmpOp.LtE (YJ 0) (YV 0 1) (YV 0 2) (xb (YJ 7) (YB .Add 1))) δ' p.2))) (aJ h):=by kernel_rfl
def aC1 (d:Nat) (w0:W) (h:aA):aD T (d+1) "is_deal" [w0] h =
 YP (YP (YP (xb (YNt (xb (xb (Y3 (aB 0) (YS "deal") (YJ 2)) (YF d "is_worded")) YD)) (YOb (YNt (xb (xb (YV 0 1) (YIs "tuple")) YD))) [some w0] h) (YT2 false [some w0])) (YQ fun δ' p=>YRt (xb (aX (xC2 CmpOp.LtE CmpOp.LtE (YJ 1) (YK1 aY (YV 0 1)) (YJ 4))) (YAn (YK1 hV (aK (xb (aM (YV 0 1)) (YCp (YG 0) (aC true) (YF1 d "is_single" (aB 0)) [none]))))) δ' p.2))) (aJ h):=by kernel_rfl
def aC2 (d:Nat) (w0:W) (h:aA):aD T (d+1) "is_call" [w0] h =
 YP (YRt (xb (YF1 d "is_single" (aB 0)) (YOr (xb (YF1 d "is_span" (aB 0)) (YOr (YF1 d "is_deal" (aB 0))))) [some w0] h)) (aJ h):=by kernel_rfl
def aC3 (d:Nat) (w0:W) (h:aA):aD T (d+1) "is_look" [w0] h =
 YP (YRt (xb (xb (Y3 (aB 0) (YS "look") (YJ 2)) (YF d "is_worded")) (YAn (YF1 d "is_call" (YV 0 1))) [some w0] h)) (aJ h):=by kernel_rfl
def lJ (d:Nat) (w0:W) (h:aA):aD T (d+1) "is_value_pair" [w0] h =
 YP (YRt (xb (YF2 d "is_tuple_of" (aB 0) (YJ 2)) (YAn (xb (YF1 d "is_key" (YV 0 0)) (YAn (YF1 d "is_whole" (YV 0 1))))) [some w0] h)) (aJ h):=by kernel_rfl
def aN7 (d:Nat) (w0:W) (h:aA):aD T (d+1) "is_lay" [w0] h =
 YP (YP (YP (xb (YNt (xb (xb (Y3 (aB 0) (YS "lay") (YJ 2)) (YF d "is_worded")) YD)) (YOb (xb (YNt (xb (xb (YV 0 1) (YIs "tuple")) YD)) (YOb (xC1 CmpOp.Eq (YK1 aY (YV 0 1)) (YJ 0))))) [some w0] h) (YT2 false [some w0])) (YQ fun δ' p=>YP (YP (xb (xb (YK1 hV (aK (xb (aM (YV 0 1)) (YCp (YG 0) (aC true) (YF1 d "is_value_pair" (aB 0)) [none])))) YD) YNb δ' p.2) (YT2 false δ')) (YQ fun δ' p=>YRt (xb (Y1 (aK (xb (aM (YV 0 1)) (YCp (YG 0) (aC true) (YV 0 0) [none])))) (YF d "are_rising") δ' p.2)))) (aJ h):=by kernel_rfl
def aC4 (d:Nat) (w0:W) (h:aA):aD T (d+1) "is_step" [w0] h =
 YP (YRt (xb (YF1 d "is_call" (aB 0)) (YOr (xb (YF1 d "is_look" (aB 0)) (YOr (YF1 d "is_lay" (aB 0))))) [some w0] h)) (aJ h):=by kernel_rfl
def iE (d:Nat) (w0 w1:W) (h:aA):aD T (d+1) "is_answer" [w0,w1] h =
 YP (YP (YP (xb (xb (YF1 d "is_step" (aB 0)) YD) YNb [some w0,some w1] h) (YT2 false [some w0,some w1])) (YQ fun δ' p=>YP (YP (xb (xb (Y3 (aB 1) (YS "refused") (YJ 1)) (YF d "is_worded")) YD δ' p.2) (YIr δ' (YF1 d "is_call" (aB 0)))) (YQ fun δ' p=>YRt (xb (Y2 (aB 0) (aB 1)) (YF d "is_own_answer") δ' p.2)))) (aJ h):=by kernel_rfl
def aU (d:Nat) (w0 w1:W) (h:aA):aD T (d+1) "is_own_answer" [w0,w1] h =
 YP (YP (aR 2 (YV 0 0) [some w0,some w1,none] h) (YQ fun δ' p=>YP (YP (xC1 CmpOp.In (aB 2) (YTp (Y2 (YS "read") (YS "add"))) δ' p.2) (YIr δ' (xb (xb (Y3 (aB 1) (YS "got") (YJ 2)) (YF d "is_worded")) (YAn (YF1 d "is_whole" (YV 1 1)))))) (YQ fun δ' p=>YP (YP (xC1 CmpOp.In (aB 2) (YTp (Y2 (YS "write") (YS "lay"))) δ' p.2) (YIr δ' (xb (Y3 (aB 1) (YS "done") (YJ 1)) (YF d "is_worded")))) (YQ fun δ' p=>YP (YP (xC1 CmpOp.Eq (aB 2) (YS "swap") δ' p.2) (YIr δ' (xb (xb (Y3 (aB 1) (YS "yes") (YJ 1)) (YF d "is_worded")) (YOr (xb (Y3 (aB 1) (YS "no") (YJ 1)) (YF d "is_worded")))))) (YQ fun δ' p=>YP (YP (xC1 CmpOp.Eq (aB 2) (YS "span") δ' p.2) (YIr δ' (xb (xb (Y3 (aB 1) (YS "all") (YJ 2)) (YF d "is_worded")) (YAn (xb (YF2 d "is_tuple_of" (YV 1 1) (xb (YV 0 2) (YOx .Sub (YV 0 1)))) (YAn (YF1 d "are_whole" (YV 1 1)))))))) (YQ fun δ' p=>YP (YP (xC1 CmpOp.Eq (aB 2) (YS "look") δ' p.2) (YIr δ' (YF2 d "is_own_answer" (YV 0 1) (aB 1)))) (YQ fun δ' p=>YP (YP (xb (YNt (xb (xb (Y3 (aB 1) (YS "each") (YJ 2)) (YF d "is_worded")) YD)) (YOb (YNt (xb (YF2 d "is_tuple_of" (YV 1 1) (YK1 aY (YV 0 1))) YD))) δ' p.2) (YT2 false δ')) (YQ fun δ' p=>YRt (xb (Y1 (aK (xb (xb (YV 0 1) fun (u:W)=>xb (YV 1 1) fun (w:W) (x:DSt) (h:aA)=>match iY u,iY w with|some xs,some ys=>some ((fV xs ys,none),h)|x,x_1=>none) (YCp (aO [YG 0,YG 1]) (aC true) (YF2 d "is_own_answer" (aB 0) (aB 1)) [none,none])))) (YK hV) δ' p.2))))))))) (aJ h):=by kernel_rfl
def gQ (d:Nat) (w0:W) (h:aA):aD T (d+1) "may_change" [w0] h =
 YP (YP (YP (xC1 CmpOp.Eq (YV 0 0) (YS "deal") [some w0] h) (YIr [some w0] (YK1 nX (aK (xb (aM (YV 0 1)) (YCp (YG 0) (aC true) (YF1 d "may_change" (aB 0)) [none])))))) (YQ fun δ' p=>YRt (aX (xC1 CmpOp.In (YV 0 0) (aC (W.d (PyData.tuple (List.reverse [PyData.str (Str.ofString "swap"),PyData.str (Str.ofString "add"),PyData.str (Str.ofString "write")]))))) δ' p.2))) (aJ h):=by kernel_rfl
def pH (d:Nat) (w0:W) (h:aA):aD T (d+1) "keys_of" [w0] h =
 YP (YP (YP (xC1 CmpOp.Eq (YV 0 0) (YS "span") [some w0] h) (YIr [some w0] (xb (Y2 (YV 0 1) (YV 0 2)) (YKa xTR)))) (YQ fun δ' p=>YRt (xb (Y1 (aK (xb (Y1 (aK (xb (aM (YF2 d "parts_of" (aB 0) YZ)) (YCp (aO [YG 0,YG 1]) (aC true) (YV 0 1) [none,none])))) (YKa xSS)))) (YK aT) δ' p.2))) (aJ h):=by kernel_rfl
def gR (d:Nat) (w0 w1:W) (h:aA):aD T (d+1) "parts_of" [w0,w1] h =
 YP (YP (YP (xC1 CmpOp.NotEq (YV 0 0) (YS "deal") [some w0,some w1] h) (YIr [some w0,some w1] (aK (xPl (Y1 (YTp (Y2 (aB 0) (aB 1)))))))) (YQ fun δ' p=>YP (YP (xC1 CmpOp.Is (aB 1) YZ δ' p.2) (YIr δ' (aK (xb (aM (YV 0 1)) (YCp (YG 0) (aC true) (YTp (Y2 (aB 0) YZ)) [none]))))) (YQ fun δ' p=>YRt (aK (xb (Y2 (YV 0 1) (YV 1 1)) (YKa xLZ)) δ' p.2)))) (aJ h):=by kernel_rfl
def jR (d:Nat) (w0 w1:W) (h:aA):aD T (d+1) "value_left" [w0,w1] h =
 YP (YP (YP (xC1 CmpOp.Eq (YV 0 0) (YS "write") [some w0,some w1] h) (YIr [some w0,some w1] (xb (aB 0) (YI 2)))) (YQ fun δ' p=>YP (YP (xC1 CmpOp.Eq (YV 0 0) (YS "add") δ' p.2) (YIr δ' (xb (aB 1) (YI 1)))) (YQ fun δ' p=>YP (YP (xb (xC1 CmpOp.Eq (YV 0 0) (YS "swap")) (YAb (xC1 CmpOp.Eq (aB 1) (YTp (Y1 (YS "yes"))))) δ' p.2) (YIr δ' (xb (aB 0) (YI 3)))) (YQ fun δ' p=>YRt (YZ δ' p.2))))) (aJ h):=by kernel_rfl
@[simp] def dF (d:Nat) (x:DSt) (x_1:aA):Option (Fl×aA) :=
 YP (aR 5 (YF2 d "value_left" (aB 3) (aB 4)) x x_1) (YQ fun δ' p=>YP (YP (xC1 CmpOp.IsNot (aB 5) YZ δ' p.2) (YIf δ' fun p=>YP (YP (aB 5 δ' p.2) (YPt (aB 2) (xb (aB 3) (YI 1)) δ')) YE)) YE)
def aC5 (d:Nat) (w0 w1:W) (h:aA):aD T (d+1) "left_by" [w0,w1] h =
 YP (YP (YP (xC1 CmpOp.Eq (aB 1) (aC (W.d (PyData.tuple (List.reverse [PyData.str (Str.ofString "refused")])))) [some w0,some w1,none,none,none,none] h) (YIr [some w0,some w1,none,none,none,none] (YTp (aC [])))) (YQ fun δ' p=>YP (aR 2 oQ δ' p.2) (YQ fun δ' p=>YP (YP (aM (YF2 d "parts_of" (aB 0) (aB 1)) δ' p.2) (YFr (aO [YG 3,YG 4]) (dF d) δ')) (YQ fun δ' p=>YRt (xb (Y1 (aK (xb (aB 2) fun (w:W) (x:DSt) (h:aA)=>xSI w h))) (YK aT) δ' p.2))))) (aJ h):=by kernel_rfl
def aC6 (d:Nat) (w0 w1 w2:W) (h:aA):aD T (d+1) "part_on" [w0,w1,w2] h =
 YP (YP (YP (xC1 CmpOp.NotIn (aB 2) (YF1 d "keys_of" (aB 0)) [some w0,some w1,some w2,none,none] h) (YIr [some w0,some w1,some w2,none,none] YZ)) (YQ fun δ' p=>YP (YP (xC1 CmpOp.Eq (YV 0 0) (YS "span") δ' p.2) (YIr δ' (YTp (Y2 (YTp (Y2 (YS "read") (aB 2))) (xb (xC1 CmpOp.Is (aB 1) YZ) fun (t:Bool)=>if t=true then YZ else YTp (Y2 (YS "got") (xb (YV 1 1) (YXx (xb (aB 2) (YOx .Sub (YV 0 1))))))))))) (YQ fun δ' p=>YP (aR 3 (aK (xb (aM (YF2 d "parts_of" (aB 0) (aB 1))) (YCp (YG 0) (xC1 CmpOp.Eq (xb (YV 0 0) (YI 1)) (aB 1)) (aB 0) [none,some 2]))) δ' p.2) (YQ fun δ' p=>YP (YP (xC1 CmpOp.Eq (YK1 aY (aB 3)) (YJ 1) δ' p.2) (YIr δ' (xb (aB 3) (YI 0)))) (YQ fun δ' p=>YP (aR 4 (YTp (Y2 (YS "deal") (YK1 aT (aK (xb (aM (aB 3)) (YCp (aO [YG 0,YG 1]) (aC true) (aB 0) [none,none])))))) δ' p.2) (YQ fun δ' p=>YRt (xb (xPl (Y2 (aB 4) (xb (xC1 CmpOp.Is (aB 1) YZ) fun (t:Bool)=>if t=true then YZ else YTp (Y2 (YS "each") (YK1 aT (aK (xb (aM (aB 3)) (YCp (aO [YG 0,YG 1]) (aC true) (aB 1) [none,none])))))))) YT δ' p.2))))))) (aJ h):=by kernel_rfl
def aC7 (d:Nat) (w0:W) (h:aA):aD T (d+1) "is_time" [w0] h =
 YP (YRt (xb (YF1 d "is_whole" (aB 0)) (YAn (aX (xC1 CmpOp.GtE (aB 0) (YJ 0)))) [some w0] h)) (aJ h):=by kernel_rfl
def pI (d:Nat) (w0:W) (h:aA):aD T (d+1) "is_deed" [w0] h =
 YP (YP (YP (xb (YNt (xb (YF2 d "is_tuple_of" (aB 0) (YJ 5)) YD)) (YOb (YNt (xb (xb (Y3 (YV 0 0) (YJ 0) (YJ 5)) (YF d "is_between")) YD))) [some w0] h) (YT2 false [some w0])) (YQ fun δ' p=>YP (YP (xb (YNt (xb (YF1 d "is_time" (YV 0 1)) YD)) (YOb (YNt (xb (YF1 d "is_call" (YV 0 3)) YD))) δ' p.2) (YT2 false δ')) (YQ fun δ' p=>YP (YP (xC1 CmpOp.Is (YV 0 2) YZ δ' p.2) (YIr δ' (aX (xC1 CmpOp.Is (YV 0 4) YZ)))) (YQ fun δ' p=>YRt (xb (YF1 d "is_time" (YV 0 2)) (YAn (xb (aX (xC1 CmpOp.Lt (YV 0 1) (YV 0 2))) (YAn (YF2 d "is_answer" (YV 0 3) (YV 0 4))))) δ' p.2))))) (aJ h):=by kernel_rfl
def vO (d:Nat) (w0:W) (h:aA):aD T (d+1) "times_of" [w0] h =
 YP (YRt (xb (xC1 CmpOp.Is (YV 0 2) YZ) (fun (t:Bool)=>if t=true then aK (xPl (Y1 (YV 0 1))) else aK (xPl (Y2 (YV 0 1) (YV 0 2)))) [some w0] h)) (aJ h):=by kernel_rfl
def oE (d:Nat) (w0 w1:W) (h:aA):aD T (d+1) "ended_below" [w0,w1] h =
 YP (YRt (xb (aX (xC1 CmpOp.IsNot (YV 0 2) YZ)) (YAn (aX (xC1 CmpOp.Lt (YV 0 2) (aB 1)))) [some w0,some w1] h)) (aJ h):=by kernel_rfl
def oG (d:Nat) (w0 w1:W) (h:aA):aD T (d+1) "go_together" [w0,w1] h =
 YP (YP (YP (xb (YK1 nX (aK (xb (aM (YF1 d "times_of" (aB 0))) (YCp (YG 0) (aC true) (aX (xC1 CmpOp.In (aB 0) (YF1 d "times_of" (aB 1)))) [none,some 1])))) YD [some w0,some w1] h) (YT2 false [some w0,some w1])) (YQ fun δ' p=>YRt (xb (aX (xC1 CmpOp.NotEq (YV 0 0) (YV 1 0))) (YOr (xb (YF2 d "ended_below" (aB 0) (YV 1 1)) (YOr (YF2 d "ended_below" (aB 1) (YV 0 1))))) δ' p.2))) (aJ h):=by kernel_rfl
@[simp] def gC (d:Nat) (x:DSt) (x_1:aA):Option (Fl×aA) :=
 YP (YP (xb (xb (YK1 hV (aK (xb (aM (xb (aB 0) (YSl (aC none) (xb (aB 1) YU)))) (YCp (YG 0) (aC true) (YF2 d "go_together" (aB 1) (aB 0)) [none,some 3])))) YD) YNb x x_1) (YIf x fun p=>YP none YE)) YE
@[simp] def gE (d:Nat) (x:DSt) (x_1:aA):Option (Fl×aA) :=
 YP (YP (xb (xb (YF1 d "is_deed" (aB 2)) YD) YNb x x_1) (YIf x fun p=>YP none YE)) YE
def tH (d:Nat) (w0:W) (h:aA):aD T (d+1) "look_over" [w0] h =
 YP (YP (YP (xb (YNt (xb (xb (aB 0) (YIs "tuple")) YD)) (YOb (xC1 CmpOp.Gt (YK1 aY (aB 0)) (YJ 60))) [some w0,none,none,none] h) (YIf [some w0,none,none,none] fun p=>YP none YE)) (YQ fun δ' p=>YP (YP (xb (aB 0) (fun (u:W) (x:DSt) (h:aA)=>lY u h) δ' p.2) (YFr (aO [YG 1,YG 2]) (gE d) δ')) (YQ fun δ' p=>YP (YP (xb (aB 0) (fun (u:W) (x:DSt) (h:aA)=>lY u h) δ' p.2) (YFr (aO [YG 1,YG 3]) (gC d) δ')) YE))) (aJ h):=by kernel_rfl
def vP (d:Nat) (w0:W) (h:aA):aD T (d+1) "is_stand" [w0] h =
 YP (YRt (xb (YF2 d "is_tuple_of" (aB 0) (YK1 aY (aC (W.d (PyData.tuple (List.reverse [PyData.int 0,PyData.int 0,PyData.int 0,PyData.int 0,PyData.int 0,PyData.int 0,PyData.int 0,PyData.int 0])))))) (YAn (YF1 d "are_whole" (aB 0))) [some w0] h)) (aJ h):=by kernel_rfl
def lK (d:Nat) (w0:W) (h:aA):aD T (d+1) "check_promise" [w0] h =
 YP (YP (YP (xb (YNt (xb (xb (aB 0) (YIs "str")) YD)) (YOb (xC1 CmpOp.NotIn (aB 0) (aC (W.d (PyData.tuple (List.reverse [PyData.str (Str.ofString "kept"),PyData.str (Str.ofString "thing"),PyData.str (Str.ofString "hand"),PyData.str (Str.ofString "stand"),PyData.str (Str.ofString "snap"),PyData.str (Str.ofString "any"),PyData.str (Str.ofString "row"),PyData.str (Str.ofString "real")])))))) [some w0] h) (YIf [some w0] fun p=>YP none YE)) YE) (aJ h):=by kernel_rfl
def tI (d:Nat) (w0 w1:W) (h:aA):aD T (d+1) "frames_of" [w0,w1] h =
 YP (YP (YP (xb (Y1 (aB 0)) (YF d "look_over") [some w0,some w1] h) (YNx [some w0,some w1])) (YQ fun δ' p=>YP (YP (xb (Y1 (aB 1)) (YF d "check_promise") δ' p.2) (YNx δ')) (YQ fun δ' p=>YRt (xb (Y2 (aB 0) (aB 1)) (YF d "framed") δ' p.2)))) (aJ h):=by kernel_rfl
def aN8 (d:Nat) (w0 w1:W) (h:aA):aD T (d+1) "framed" [w0,w1] h =
 YP (YP (YP (xC1 CmpOp.In (aB 1) (YTp (Y3 (YS "real") (YS "row") (YS "any"))) [some w0,some w1,none,none] h) (YIr [some w0,some w1,none,none] (aK (xPl (Y1 (xb (Y4 (aB 0) (aB 1) YZ (YF1 d "whole_entries" (aB 0))) (YF d "frame"))))))) (YQ fun δ' p=>YP (YP (xC1 CmpOp.In (aB 1) (YTp (Y2 (YS "snap") (YS "stand"))) δ' p.2) (YIr δ' (aK (xPl (Y1 (xb (Y4 (aB 0) (aB 1) YZ (YF1 d "look_entries" (aB 0))) (YF d "frame"))))))) (YQ fun δ' p=>YP (YP (xC1 CmpOp.Eq (aB 1) (YS "hand") δ' p.2) (YIf δ' fun p=>YP (aR 2 (aK (xb (Y1 (aK (xb (aM (YF1 d "taking_part" (aB 0))) (YCp (YG 0) (aC true) (xb (xb (aB 1) (YXx (aB 0))) (YI 0)) [none,some 0])))) (YKa xSS))) δ' p.2) (YQ fun δ' p=>YRt (aK (xb (aM (aB 2)) (YCp (YG 0) (aC true) (xb (Y4 (aB 1) (aB 2) (aB 0) (YF2 d "hand_entries" (aB 1) (aB 0))) (YF d "frame")) [none,some 0,some 1])) δ' p.2)))) (YQ fun δ' p=>YP (aR 3 (aK (xb (xb (xb (YJ 7) (YB .Add 1)) YR) (YCp (YG 0) (aC true) (YTp (Y2 (aB 0) (xb (Y3 (aB 1) (aB 2) (aB 0)) (YF d "key_entries")))) [none,some 0,some 1]))) δ' p.2) (YQ fun δ' p=>YRt (aK (xb (aM (aB 3)) (YCp (aO [YG 0,YG 1]) (xC1 CmpOp.Gt (YK1 aY (aB 1)) (YJ 0)) (xb (Y4 (aB 2) (aB 3) (aB 0) (aB 1)) (YF d "frame")) [none,none,some 0,some 1])) δ' p.2)))))) (aJ h):=by kernel_rfl
def aZ2 (d:Nat) (w0 w1 w2 w3:W) (h:aA):aD T (d+1) "frame" [w0,w1,w2,w3] h =
 YP (YP (aR 4 (YK1 aT (aK (xb (aM (aB 3)) (YCp (aO [YG 0,YG 1]) (aC true) (aB 0) [none,none])))) [some w0,some w1,some w2,some w3,none,none,none,none,none] h) (YQ fun δ' p=>YP (aR 5 (YK1 aT (aK (xb (aM (aB 3)) (YCp (aO [YG 0,YG 1]) (aC true) (aB 1) [none,none])))) δ' p.2) (YQ fun δ' p=>YP (aR 6 (YTp (aC [])) δ' p.2) (YQ fun δ' p=>YP (aR 7 (YTp (aC [])) δ' p.2) (YQ fun δ' p=>YP (YP (xC1 CmpOp.In (aB 1) (YTp (Y2 (YS "real") (YS "thing"))) δ' p.2) fun p=>if p.1=true then YP (aR 6 (xb (Y3 (aB 0) (aB 5) (aC (W.d (fkD (Str.ofString "really_ahead"))))) (YF d "pairs_where")) δ' p.2) YE else YP (YP (xC1 CmpOp.In (aB 1) (YTp (Y2 (YS "row") (YS "hand"))) δ' p.2) fun p=>if p.1=true then YP (aR 6 (xb (Y3 (aB 0) (aB 5) (aC (W.d (fkD (Str.ofString "ahead_by_hand"))))) (YF d "pairs_where")) δ' p.2) YE else YP (YP (xC1 CmpOp.Eq (aB 1) (YS "snap") δ' p.2) (YIf δ' fun p=>YP (aR 8 (YF1 d "looks_with_lays" (aB 5)) δ' p.2) (YQ fun δ' p=>YP (aR 6 (YK1 aT (aK (xb (aM (aB 8)) (YCp (YG 0) (aC true) (YTp (Y2 (aB 0) (xb (aB 0) (YB .Add 1)))) [none])))) δ' p.2) (YQ fun δ' p=>YP (aR 7 (YF2 d "triples_of" (aB 4) (aB 8)) δ' p.2) YE)))) YE) YE) (YQ fun δ' p=>YRt (xb (xPl (Y3 (aB 2) (YTp (Y4 (aC (W.d (PyData.tuple (List.reverse [PyData.int 0,PyData.int 0,PyData.int 0,PyData.int 0,PyData.int 0,PyData.int 0,PyData.int 0,PyData.int 0])))) (aB 4) (aB 6) (aB 7))) (aB 5))) YT δ' p.2))))))) (aJ h):=by kernel_rfl
def oH (d:Nat) (w0:W) (h:aA):aD T (d+1) "taking_part" [w0] h =
 YP (YP (aR 1 (aK (xb (xb (aB 0) fun (u:W) (x:DSt) (h:aA)=>lY u h) (YCp (aO [YG 0,YG 1]) (xC1 CmpOp.NotEq (YV 1 4) (aC (W.d (PyData.tuple (List.reverse [PyData.str (Str.ofString "refused")]))))) (aB 0) [none,none]))) [some w0,none] h) (YQ fun δ' p=>YRt (aK (xb (Y1 (aB 1)) fun (ws:List W)=>match ws with|[w]=>lZ false (xb (xb (aB 1) (YXx (aB 0))) (YI 1)) [none,some 0] 0 "taking_part.<locals>.<lambda>" ⟨200,31,200,64⟩ w|x=>xno) δ' p.2))) (aJ h):=by kernel_rfl
def aZ3 (d:Nat) (w0 w1 w2 w3:W) (h:aA):aD T (d+1) "entry" [w0,w1,w2,w3] h =
 YP (YP (aR 4 (xb (xC1 CmpOp.Is (xb (xb (aB 0) (YXx (aB 1))) (YI 2)) YZ) fun (t:Bool)=>if t=true then YS "may" else YS "must") [some w0,some w1,some w2,some w3,none] h) (YQ fun δ' p=>YRt (xb (xPl (Y2 (YTp (Y3 (aB 2) (aB 3) (aB 4))) (aB 1))) YT δ' p.2))) (aJ h):=by kernel_rfl
@[simp] def cB (d:Nat) (x:DSt) (x_1:aA):Option (Fl×aA) :=
 YP (aR 3 (xb (xb (aB 0) (YXx (aB 2))) (YI 3)) x x_1) (YQ fun δ' p=>YP (aR 4 (xb (xb (aB 0) (YXx (aB 2))) (YI 4)) δ' p.2) (YQ fun δ' p=>YP (YP (xC1 CmpOp.Is (aB 4) YZ δ' p.2) (YIf δ' fun p=>YP (YP (xb (aB 1) (YA (Y1 (xb (Y4 (aB 0) (aB 2) (aB 3) YZ) (YF d "entry")))) δ' p.2) (YNx δ')) (YQ fun δ' p=>YP (some (Fl.ct δ',p.2)) YE))) (YQ fun δ' p=>YP (YP (xb (xb (YF1 d "writes_alone" (aB 3)) YD) YNb δ' p.2) (YIf δ' fun p=>YP (YP (xb (aB 1) (YA (Y1 (xb (Y4 (aB 0) (aB 2) (YTp (Y2 (YS "look") (aB 3))) (aB 4)) (YF d "entry")))) δ' p.2) (YNx δ')) YE)) (YQ fun δ' p=>YP (aR 5 (YF2 d "left_by" (aB 3) (aB 4)) δ' p.2) (YQ fun δ' p=>YP (YP (xC1 CmpOp.Gt (YK1 aY (aB 5)) (YJ 0) δ' p.2) (YIf δ' fun p=>YP (YP (xb (aB 1) (YA (Y1 (xb (Y4 (aB 0) (aB 2) (YTp (Y2 (YS "lay") (aB 5))) (YTp (Y1 (YS "done")))) (YF d "entry")))) δ' p.2) (YNx δ')) YE)) YE)))))
def nB (d:Nat) (w0:W) (h:aA):aD T (d+1) "look_entries" [w0] h =
 YP (YP (aR 1 (bS (xPl (aC []))) [some w0,none,none,none,none,none] h) (YQ fun δ' p=>YP (YP (aM (YF1 d "taking_part" (aB 0)) δ' p.2) (YFr (YG 2) (cB d) δ')) (YQ fun δ' p=>YRt (aB 1 δ' p.2)))) (aJ h):=by kernel_rfl
def fG (d:Nat) (w0:W) (h:aA):aD T (d+1) "writes_alone" [w0] h =
 YP (YP (aR 1 (xb (xC1 CmpOp.Eq (YV 0 0) (YS "deal")) fun (t:Bool)=>if t=true then xb (aB 0) (YI 1) else YTp (Y1 (aB 0))) [some w0,none] h) (YQ fun δ' p=>YRt (xb (Y1 (aK (xb (aM (aB 1)) (YCp (YG 0) (aC true) (aX (xC1 CmpOp.Eq (YV 0 0) (YS "write"))) [none])))) (YK hV) δ' p.2))) (aJ h):=by kernel_rfl
@[simp] def vQ (d:Nat) (x:DSt) (x_1:aA):Option (Fl×aA) :=
 YP (YP (xb (aB 1) (fun (u:W) (x:DSt) (h:aA)=>lY u h) x x_1) (YFr (aO [YG 6,YG 7]) (fun (x:DSt) (x_2:aA)=>YP (YP (xb (xb (aB 2) fun (w:W)=>match w with|W.d (PyData.dict kvs)=>(match fP kvs with|some g=>(match fnT T (fun (y:Str)=>aD T d y) g with|some m=>xb (Y3 (aB 0) (aB 5) (aB 7)) fun (ws:List W) (x:DSt) (h:aA)=>YP (m ws h) fun p=>some (W.d p.1,p.2)|none=>xno)|none=>xno)|x=>xno) YD x x_2) (YIf x fun p=>YP (YP (xb (aB 3) (YA (Y1 (YTp (Y2 (aB 4) (aB 6))))) x p.2) (YNx x)) YE)) YE) x)) YE
def jS (d:Nat) (w0:W) (h:aA):aD T (d+1) "looks_with_lays" [w0] h =
 YP (YRt (aK (xb (xb (xb (YK1 aY (aB 0)) (YB .Sub 1)) YR) (YCp (YG 0) (xC1 CmpOp.Eq (xb (aB 1) (YXx (aB 0))) (xb (aB 1) (YXx (xb (aB 0) (YB .Add 1))))) (aB 0) [none,some 0])) [some w0] h)) (aJ h):=by kernel_rfl
@[simp] def dG (d:Nat) (x:DSt) (x_1:aA):Option (Fl×aA) :=
 YP (YP (xb (YK1 aY (aB 0)) YR x x_1) (YFr (YG 4) (fun (x:DSt) (x_2:aA)=>YP (YP (xb (xC1 CmpOp.NotEq (aB 4) (xb (aB 3) (YB .Add 1))) (YAb (xb (YF2 d "change_one_key" (xb (xb (aB 0) (YXx (xb (aB 3) (YB .Add 1)))) (YI 0)) (xb (xb (aB 0) (YXx (aB 4))) (YI 0))) YD)) x x_2) (YIf x fun p=>YP (YP (xb (aB 2) (YA (Y1 (YTp (Y3 (aB 3) (xb (aB 3) (YB .Add 1)) (aB 4))))) x p.2) (YNx x)) YE)) YE) x)) YE
def rB (d:Nat) (w0 w1:W) (h:aA):aD T (d+1) "triples_of" [w0,w1] h =
 YP (YP (aR 2 (bS (xPl (aC []))) [some w0,some w1,none,none,none] h) (YQ fun δ' p=>YP (YP (aM (aB 1) δ' p.2) (YFr (YG 3) (dG d) δ')) (YQ fun δ' p=>YRt (xb (Y1 (aB 2)) (YK aT) δ' p.2)))) (aJ h):=by kernel_rfl
def kN (d:Nat) (w0 w1:W) (h:aA):aD T (d+1) "change_one_key" [w0,w1] h =
 YP (YP (aR 2 (YF1 d "keys_changed" (aB 1)) [some w0,some w1,none] h) (YQ fun δ' p=>YRt (xb (Y1 (aK (xb (aM (YF1 d "keys_changed" (aB 0))) (YCp (YG 0) (aC true) (aX (xC1 CmpOp.In (aB 0) (aB 1))) [none,some 2])))) (YK nX) δ' p.2))) (aJ h):=by kernel_rfl
def nC (d:Nat) (w0:W) (h:aA):aD T (d+1) "keys_changed" [w0] h =
 YP (YP (YP (xC1 CmpOp.Eq (YV 0 0) (YS "lay") [some w0] h) (YIr [some w0] (aK (xb (aM (YV 0 1)) (YCp (aO [YG 0,YG 1]) (aC true) (aB 0) [none,none]))))) (YQ fun δ' p=>YP (YP (xC1 CmpOp.Eq (YV 0 0) (YS "look") δ' p.2) (YIr δ' (aK (xPl (aC []))))) (YQ fun δ' p=>YRt (aK (xb (aM (YF1 d "keys_of" (aB 0))) (YCp (YG 0) (xb (YF1 d "may_change" (xb (xb (Y3 (aB 1) YZ (aB 0)) (YF d "part_on")) (YI 0))) YD) (aB 0) [none,some 0])) δ' p.2)))) (aJ h):=by kernel_rfl
def nE (d:Nat) (w0 w1:W) (h:aA):callW T (d+1) "problems_of" [w0,w1] h =
 YP (YRt (bS (xb (aM (YF2 d "frames_of" (aB 0) (aB 1))) (YCp (aO [YG 0,YG 1,YG 2]) (aC true) (YTp (Y2 (aB 0) (aB 1))) [none,none,none])) [some w0,some w1] h)) iU:=by kernel_rfl
def tJ (d:Nat) (w0 w1:W) (h:aA):callW T (d+1) "deeds_of" [w0,w1] h =
 YP (YRt (bS (xb (aM (YF2 d "frames_of" (aB 0) (aB 1))) (YCp (aO [YG 0,YG 1,YG 2]) (aC true) (aB 2) [none,none,none])) [some w0,some w1] h)) iU:=by kernel_rfl
def kO (d:Nat) (w0:W) (h:aA):aD T (d+1) "is_item" [w0] h =
 YP (YP (YP (xb (YNt (xb (YF2 d "is_tuple_of" (aB 0) (YJ 3)) YD)) (YOb (YNt (xb (YF1 d "is_step" (YV 0 0)) YD))) [some w0] h) (YT2 false [some w0])) (YQ fun δ' p=>YP (YP (xb (xC1 CmpOp.IsNot (YV 0 1) YZ) (YAb (YNt (xb (YF2 d "is_answer" (YV 0 0) (YV 0 1)) YD))) δ' p.2) (YT2 false δ')) (YQ fun δ' p=>YRt (xb (xb (YV 0 2) (YIs "str")) (YAn (aX (xC1 CmpOp.In (YV 0 2) (aC (W.d (PyData.tuple (List.reverse [PyData.str (Str.ofString "out"),PyData.str (Str.ofString "may"),PyData.str (Str.ofString "must")]))))))) δ' p.2)))) (aJ h):=by kernel_rfl
def tK (d:Nat) (w0:W) (h:aA):aD T (d+1) "are_items" [w0] h =
 YP (YRt (xb (xb (aB 0) (YIs "tuple")) (YAn (xb (aX (xC1 CmpOp.LtE (YK1 aY (aB 0)) (YJ 120))) (YAn (YK1 hV (aK (xb (aM (aB 0)) (YCp (YG 0) (aC true) (YF1 d "is_item" (aB 0)) [none]))))))) [some w0] h)) (aJ h):=by kernel_rfl
def oI (d:Nat) (w0 w1:W) (h:aA):aD T (d+1) "are_numbers" [w0,w1] h =
 YP (YRt (xb (Y1 (aK (xb (aM (aB 0)) (YCp (YG 0) (aC true) (xb (Y3 (aB 0) (YJ 0) (xb (aB 1) (YB .Sub 1))) (YF d "is_between")) [none,some 1])))) (YK hV) [some w0,some w1] h)) (aJ h):=by kernel_rfl
def rC (d:Nat) (w0 w1 w2:W) (h:aA):aD T (d+1) "are_unlike" [w0,w1,w2] h =
 YP (YRt (xb (YF2 d "is_tuple_of" (aB 0) (aB 1)) (YAn (xb (YF2 d "are_numbers" (aB 0) (aB 2)) (YAn (aX (xC1 CmpOp.Eq (xb (Y1 (aB 0)) (YKa xLS)) (aB 1)))))) [some w0,some w1,some w2] h)) (aJ h):=by kernel_rfl
def tL (d:Nat) (w0 w1:W) (h:aA):aD T (d+1) "are_pairs" [w0,w1] h =
 YP (YP (YP (xb (YNt (xb (xb (aB 0) (YIs "tuple")) YD)) (YOb (xC1 CmpOp.Gt (YK1 aY (aB 0)) (YJ 4000))) [some w0,some w1] h) (YT2 false [some w0,some w1])) (YQ fun δ' p=>YRt (xb (Y1 (aK (xb (aM (aB 0)) (YCp (YG 0) (aC true) (xb (Y3 (aB 0) (YJ 2) (aB 1)) (YF d "are_unlike")) [none,some 1])))) (YK hV) δ' p.2))) (aJ h):=by kernel_rfl
def oJ (d:Nat) (w0 w1:W) (h:aA):aD T (d+1) "are_triples" [w0,w1] h =
 YP (YP (YP (xb (YNt (xb (xb (aB 0) (YIs "tuple")) YD)) (YOb (xC1 CmpOp.Gt (YK1 aY (aB 0)) (YJ 4000))) [some w0,some w1] h) (YT2 false [some w0,some w1])) (YQ fun δ' p=>YP (YP (xb (xb (YK1 hV (aK (xb (aM (aB 0)) (YCp (YG 0) (aC true) (xb (Y3 (aB 0) (YJ 3) (YK1 aY (aB 1))) (YF d "are_unlike")) [none,some 1])))) YD) YNb δ' p.2) (YT2 false δ')) (YQ fun δ' p=>YRt (xb (Y1 (aK (xb (aM (aB 0)) (YCp (aO [YG 0,YG 1,YG 2]) (aC true) (xb (aX (xC1 CmpOp.Eq (xb (xb (aB 3) (YXx (aB 0))) (YI 2)) (YS "must"))) (YAn (aX (xC1 CmpOp.Eq (xb (xb (aB 3) (YXx (aB 1))) (YI 2)) (YS "must"))))) [none,none,none,some 1])))) (YK hV) δ' p.2)))) (aJ h):=by kernel_rfl
def rD (d:Nat) (w0:W) (h:aA):aD T (d+1) "is_problem" [w0] h =
 YP (YP (YP (xb (YNt (xb (YF2 d "is_tuple_of" (aB 0) (YJ 4)) YD)) (YOb (xb (YNt (xb (YF1 d "is_stand" (YV 0 0)) YD)) (YOb (YNt (xb (YF1 d "are_items" (YV 0 1)) YD))))) [some w0] h) (YT2 false [some w0])) (YQ fun δ' p=>YRt (xb (YF2 d "are_pairs" (YV 0 2) (YK1 aY (YV 0 1))) (YAn (YF2 d "are_triples" (YV 0 3) (YV 0 1))) δ' p.2))) (aJ h):=by kernel_rfl
def iF (d:Nat) (w0 w1:W) (h:aA):aD T (d+1) "_law_cell_at" [w0,w1] h =
 YP (YP (YP (xC1 CmpOp.Lt (aB 1) (YK1 aY (aB 0)) [some w0,some w1] h) (YIr [some w0,some w1] (xb (aB 0) (YXx (aB 1))))) (YQ fun δ' p=>YRt (YJ 0 δ' p.2))) (aJ h):=by kernel_rfl
def gT (d:Nat) (w0 w1:W) (h:aA):aD T (d+1) "_law_drawn" [w0,w1] h =
 YP (YP (aR 2 (xb (aB 0) (YOx .RShift (xb (YJ 1) (YOx .Add (xb (YJ 24) (YOx .Mult (xb (aB 1) (YB .Mod 120)))))))) [some w0,some w1,none,none] h) (YQ fun δ' p=>YP (YP (xb (xC1 CmpOp.Eq (xb (aB 0) (YB .Mod 2)) (YJ 1)) (YAb (xC1 CmpOp.Gt (aB 2) (YJ 0))) δ' p.2) (YIr δ' (xb (aB 2) (YOx .Mod (xb (YJ 2) (YB .Pow 24)))))) (YQ fun δ' p=>YP (aR 3 (xb (xb (xb (xb (xb (xb (aB 0) (YB .FloorDiv 2)) (YB .Mod 2147483647)) (YOx .Add (xb (YJ 7919) (YOx .Mult (aB 1))))) (YB .Add 1)) (YB .Mult 48271)) (YB .Mod 2147483647)) δ' p.2) (YQ fun δ' p=>YP (aR 3 (xb (xb (aB 3) (YOx .Mult (xb (xb (aB 3) (YB .FloorDiv 1009)) (YB .Add 69621)))) (YB .Mod 2147483647)) δ' p.2) (YQ fun δ' p=>YRt (xb (xb (aB 3) (YOx .Mult (xb (xb (aB 3) (YB .FloorDiv 2003)) (YB .Add 40692)))) (YB .Mod 2147483399) δ' p.2)))))) (aJ h):=by kernel_rfl
def bQ (d:Nat) (w0:W) (h:aA):aD T (d+1) "_law_plain_call" [w0] h =
 YP (YP (aR 1 (xb (aK (xPl (Y5 (YJ 0) (YJ 0) (YJ 1) (YJ 2) (YJ 7)))) (YXx (xb (xb (aB 0) (YB .FloorDiv 8)) (YB .Mod 5)))) [some w0,none,none,none] h) (YQ fun δ' p=>YP (aR 2 (xb (aK (xPl (Y5 (YJ 0) (YJ 1) (YJ 2) (xb (YJ 1) YNg) (xb (YJ 10) (YB .Pow 30))))) (YXx (xb (xb (aB 0) (YB .FloorDiv 40)) (YB .Mod 5)))) δ' p.2) (YQ fun δ' p=>YP (aR 3 (xb (aB 0) (YB .Mod 8)) δ' p.2) (YQ fun δ' p=>YP (YP (xC1 CmpOp.Lt (aB 3) (YJ 3) δ' p.2) (YIr δ' (YTp (Y2 (YS "read") (aB 1))))) (YQ fun δ' p=>YP (YP (xC1 CmpOp.Lt (aB 3) (YJ 5) δ' p.2) (YIr δ' (YTp (Y3 (YS "write") (aB 1) (aB 2))))) (YQ fun δ' p=>YP (YP (xC1 CmpOp.Eq (aB 3) (YJ 5) δ' p.2) (YIr δ' (YTp (Y3 (YS "add") (aB 1) (aB 2))))) (YQ fun δ' p=>YRt (xb (xPl (Y4 (YS "swap") (aB 1) (xb (aK (xPl (Y3 (YJ 0) (YJ 1) (YJ 2)))) (YXx (xb (xb (aB 0) (YB .FloorDiv 200)) (YB .Mod 3)))) (aB 2))) YT δ' p.2)))))))) (aJ h):=by kernel_rfl
def iG (d:Nat) (w0 w1:W) (h:aA):aD T (d+1) "_law_call" [w0,w1] h =
 YP (YP (aR 2 (YF2 d "_law_drawn" (aB 0) (aB 1)) [some w0,some w1,none,none,none] h) (YQ fun δ' p=>YP (YP (xC1 CmpOp.Eq (xb (aB 2) (YB .Mod 7)) (YJ 0) δ' p.2) (YIf δ' fun p=>YP (aR 3 (xb (xb (aB 2) (YB .FloorDiv 7)) (YB .Mod 3)) δ' p.2) (YQ fun δ' p=>YRt (xb (xPl (Y3 (YS "span") (aB 3) (xb (xb (aB 3) (YB .Add 1)) (YOx .Add (xb (xb (aB 2) (YB .FloorDiv 21)) (YOx .Mod (xb (YJ 8) (YOx .Sub (aB 3))))))))) YT δ' p.2)))) (YQ fun δ' p=>YP (YP (xC1 CmpOp.Eq (xb (aB 2) (YB .Mod 7)) (YJ 1) δ' p.2) (YIf δ' fun p=>YP (aR 4 (aK (xb (xb (xb (YJ 1) (YOx .Add (xb (xb (aB 2) (YB .FloorDiv 7)) (YB .Mod 4)))) YR) (YCp (YG 0) (aC true) (YF1 d "_law_plain_call" (YF2 d "_law_drawn" (aB 1) (xb (xb (aB 2) (YB .Add 30)) (YOx .Add (aB 0))))) [none,some 0,some 1]))) δ' p.2) (YQ fun δ' p=>YRt (xb (xPl (Y2 (YS "deal") (YK1 aT (aB 4)))) YT δ' p.2)))) (YQ fun δ' p=>YRt (xb (Y1 (xb (aB 2) (YB .FloorDiv 7))) (YF d "_law_plain_call") δ' p.2))))) (aJ h):=by kernel_rfl
def bA (d:Nat) (w0 w1:W) (h:aA):aD T (d+1) "_law_done_plainly" [w0,w1] h =
 YP (YP (aR 2 (xb (aB 0) (YXx (YV 1 1))) [some w0,some w1,none] h) (YQ fun δ' p=>YP (YP (xC1 CmpOp.Eq (YV 1 0) (YS "read") δ' p.2) (YIr δ' (YTp (Y2 (YS "got") (aB 2))))) (YQ fun δ' p=>YP (YP (xC1 CmpOp.Eq (YV 1 0) (YS "write") δ' p.2) (YIf δ' fun p=>YP (YP (xb (aB 1) (YI 2) δ' p.2) (YPt (aB 0) (xb (aB 1) (YI 1)) δ')) (YQ fun δ' p=>YRt (xb (xPl (Y1 (YS "done"))) YT δ' p.2)))) (YQ fun δ' p=>YP (YP (xC1 CmpOp.Eq (YV 1 0) (YS "add") δ' p.2) (YIf δ' fun p=>YP (YP (xb (aB 2) (YOx .Add (YV 1 2)) δ' p.2) (YPt (aB 0) (xb (aB 1) (YI 1)) δ')) (YQ fun δ' p=>YRt (xb (xPl (Y2 (YS "got") (xb (aB 2) (YOx .Add (YV 1 2))))) YT δ' p.2)))) (YQ fun δ' p=>YP (YP (xC1 CmpOp.Eq (aB 2) (YV 1 2) δ' p.2) (YIf δ' fun p=>YP (YP (xb (aB 1) (YI 3) δ' p.2) (YPt (aB 0) (xb (aB 1) (YI 1)) δ')) (YQ fun δ' p=>YRt (xb (xPl (Y1 (YS "yes"))) YT δ' p.2)))) (YQ fun δ' p=>YRt (xb (xPl (Y1 (YS "no"))) YT δ' p.2))))))) (aJ h):=by kernel_rfl
def iH (d:Nat) (w0 w1:W) (h:aA):aD T (d+1) "_law_done" [w0,w1] h =
 YP (YP (YP (xC1 CmpOp.Eq (YV 1 0) (YS "span") [some w0,some w1] h) (YIr [some w0,some w1] (YTp (Y2 (YS "all") (YK1 aT (xb (aB 0) (YSl (xb (YV 1 1) YU) (xb (YV 1 2) YU)))))))) (YQ fun δ' p=>YP (YP (xC1 CmpOp.Eq (YV 1 0) (YS "deal") δ' p.2) (YIr δ' (YTp (Y2 (YS "each") (YK1 aT (aK (xb (aM (YV 1 1)) (YCp (YG 0) (aC true) (YF2 d "_law_done_plainly" (aB 1) (aB 0)) [none,some 0])))))))) (YQ fun δ' p=>YRt (xb (Y2 (aB 0) (aB 1)) (YF d "_law_done_plainly") δ' p.2)))) (aJ h):=by kernel_rfl
def cK (d:Nat) (w0 w1:W) (h:aA):aD T (d+1) "_law_bent" [w0,w1] h =
 YP (YP (YP (xC1 CmpOp.Eq (YV 0 0) (YS "got") [some w0,some w1,none] h) (YIr [some w0,some w1,none] (YTp (Y2 (YS "got") (xb (xb (YV 0 1) (YB .Add 1)) (YOx .Sub (xb (aB 1) (YB .Mod 3)))))))) (YQ fun δ' p=>YP (YP (xC1 CmpOp.In (YV 0 0) (aK (xPl (Y2 (YS "yes") (YS "no")))) δ' p.2) (YIr δ' (YTp (Y1 (xb (aK (xPl (Y2 (YS "yes") (YS "no")))) (YXx (xb (aB 1) (YB .Mod 2)))))))) (YQ fun δ' p=>YP (YP (xC1 CmpOp.Eq (YV 0 0) (YS "all") δ' p.2) (YIf δ' fun p=>YP (aR 2 (xb (xb (aB 1) (YB .FloorDiv 3)) (YOx .Mod (YK1 aY (YV 0 1)))) δ' p.2) (YQ fun δ' p=>YRt (xb (xPl (Y2 (YS "all") (xb (xb (xb (YV 0 1) (YSl (aC none) (xb (aB 2) YU))) (YOx .Add (YTp (Y1 (xb (xb (xb (YV 0 1) (YXx (aB 2))) (YB .Add 1)) (YOx .Sub (xb (aB 1) (YB .Mod 3)))))))) (YOx .Add (xb (YV 0 1) (YSl (xb (xb (aB 2) (YB .Add 1)) YU) (aC none))))))) YT δ' p.2)))) (YQ fun δ' p=>YP (YP (xC1 CmpOp.Eq (YV 0 0) (YS "each") δ' p.2) (YIf δ' fun p=>YP (aR 2 (xb (xb (aB 1) (YB .FloorDiv 3)) (YOx .Mod (YK1 aY (YV 0 1)))) δ' p.2) (YQ fun δ' p=>YRt (xb (xPl (Y2 (YS "each") (xb (xb (xb (YV 0 1) (YSl (aC none) (xb (aB 2) YU))) (YOx .Add (YTp (Y1 (YF2 d "_law_bent" (xb (YV 0 1) (YXx (aB 2))) (xb (aB 1) (YB .FloorDiv 12))))))) (YOx .Add (xb (YV 0 1) (YSl (xb (xb (aB 2) (YB .Add 1)) YU) (aC none))))))) YT δ' p.2)))) (YQ fun δ' p=>YRt (aB 0 δ' p.2)))))) (aJ h):=by kernel_rfl
@[simp] def bE (d:Nat) (x:DSt) (x_1:aA):Option (Fl×aA) :=
 YP (YP (xC1 CmpOp.IsNot (xb (aB 6) (YXx (aB 5))) YZ x x_1) (YIf x fun p=>YP (YP (xb (aB 7) (YA (Y1 (YTp (Y5 (aB 5) (xb (xb (aB 6) (YXx (aB 5))) (YI 0)) YZ (xb (xb (aB 6) (YXx (aB 5))) (YI 1)) YZ)))) x p.2) (YNx x)) YE)) YE
@[simp] def bF (d:Nat) (x:DSt) (x_1:aA):Option (Fl×aA) :=
 YP (aR 5 (xb (YF2 d "_law_drawn" (xb (aB 0) (YXx (aB 8))) (YJ 0)) (YOx .Mod (aB 3))) x x_1) (YQ fun δ' p=>YP (aR 9 (xb (YK1 aY (aB 7)) (YOx .Add (YK1 aY (xb (aB 6) fun (w:W) (δ:DSt) (h:aA)=>match w with|W.c j=>YP (wsC j h) fun (ws:List W)=>YP (eZ (YG 0) (xC1 CmpOp.IsNot (aB 0) YZ) (aB 0) (coW j ws) ws (bK [none] δ) h []) fun (q:List W×aA)=>some (W.c (List.length q.2),q.2++[Cell.r q.1])|x=>none)))) δ' p.2) (YQ fun δ' p=>YP (YP (xb (xC1 CmpOp.IsNot (xb (aB 6) (YXx (aB 5))) YZ) (YOb (xC1 CmpOp.Lt (aB 9) (aB 2))) δ' p.2) (YIf δ' fun p=>YP (aR 10 (xb (Y5 (aB 6) (aB 5) (aB 4) (xb (aB 0) (YXx (aB 8))) (aB 8)) (YWf d "_law_moved")) δ' p.2) (YQ fun δ' p=>YP (YP (xC1 CmpOp.IsNot (aB 10) YZ δ' p.2) (YIf δ' fun p=>YP (YP (xb (aB 7) (YA (Y1 (aB 10))) δ' p.2) (YNx δ')) YE)) YE))) YE))
def nF (d:Nat) (w0 w1 w2 w3:W) (h:aA):aD T (d+1) "_law_history" [w0,w1,w2,w3] h =
 YP (YP (aR 4 (bS (xPl (xb (YJ 0) fun w=>xb (Y7 (YJ 0) (YJ 0) (YJ 0) (YJ 0) (YJ 0) (YJ 0) (YJ 0)) (YC w)))) [some w0,some w1,some w2,some w3,none,none,none,none,none,none,none,none] h) (YQ fun δ' p=>YP (aR 6 (bS (xb (xb (aB 3) YR) (YCp (YG 0) (aC true) YZ [none]))) δ' p.2) (YQ fun δ' p=>YP (aR 7 (bS (xPl (aC []))) δ' p.2) (YQ fun δ' p=>YP (YP (xb (aB 1) (fun (u:W)=>xb (xb (Y2 (YK1 aY (aB 0)) (YJ 63)) (YKa xMn)) fun (w:W) (x:DSt) (h:aA)=>match u,w with|W.d (PyData.int i),W.d (PyData.int j)=>if cU i j=true then some ((rng i (Int.toNat (j-i)),none),h) else none|x,x_1=>none) δ' p.2) (YFr (YG 8) (bF d) δ')) (YQ fun δ' p=>YP (YP (xb (aB 3) YR δ' p.2) (YFr (YG 5) (bE d) δ')) (YQ fun δ' p=>YP (aR 11 (aK (xb (Y1 (aK (xb (xb (YK1 aY (aB 7)) YR) (YCp (YG 0) (aC true) (YTp (Y2 (YF2 d "_law_drawn" (YF2 d "_law_cell_at" (aB 1) (YJ 0)) (aB 0)) (aB 0))) [none,some 0])))) (YKa lF))) δ' p.2) (YQ fun δ' p=>YRt (xb (Y1 (aK (xb (aM (aB 11)) (YCp (aO [YG 0,YG 1]) (aC true) (xb (aB 2) (YXx (aB 1))) [none,none,some 7])))) (YK aT) δ' p.2)))))))) (aJ h):=by kernel_rfl
def gU (d:Nat) (w0:W) (h:aA):aD T (d+1) "_law_parts" [w0] h =
 YP (YP (YP (xC1 CmpOp.Eq (YV 0 0) (YS "deal") [some w0] h) (YIr [some w0] (aK (xb (Y1 (YV 0 1)) fun (ws:List W) (x:DSt) (h:aA)=>match ws with|[w]=>(match ref h w with|some (PyData.list xs)=>some (xs,h)|some (PyData.tuple xs)=>some (xs,h)|x=>none)|x=>none)))) (YQ fun δ' p=>YP (YP (xC1 CmpOp.Eq (YV 0 0) (YS "span") δ' p.2) (YIr δ' (aK (xb (xb (YV 0 1) fun (u:W)=>xb (YV 0 2) fun (w:W) (x:DSt) (h:aA)=>match u,w with|W.d (PyData.int i),W.d (PyData.int j)=>if cU i j=true then some ((rng i (Int.toNat (j-i)),none),h) else none|x,x_1=>none) (YCp (YG 0) (aC true) (YTp (Y2 (YS "read") (aB 0))) [none]))))) (YQ fun δ' p=>YRt (aK (xPl (Y1 (aB 0))) δ' p.2)))) (aJ h):=by kernel_rfl
def nG (d:Nat) (w0 w1:W) (h:aA):aD T (d+1) "_law_answers" [w0,w1] h =
 YP (YP (YP (xC1 CmpOp.Is (aB 1) YZ [some w0,some w1] h) (YIr [some w0,some w1] (aK (xb (aM (YF1 d "_law_parts" (aB 0))) (YCp (YG 0) (aC true) YZ [none]))))) (YQ fun δ' p=>YP (YP (xC1 CmpOp.Eq (YV 0 0) (YS "deal") δ' p.2) (YIr δ' (aK (xb (Y1 (YV 1 1)) fun (ws:List W) (x:DSt) (h:aA)=>match ws with|[w]=>(match ref h w with|some (PyData.list xs)=>some (xs,h)|some (PyData.tuple xs)=>some (xs,h)|x=>none)|x=>none)))) (YQ fun δ' p=>YP (YP (xC1 CmpOp.Eq (YV 0 0) (YS "span") δ' p.2) (YIr δ' (aK (xb (aM (YV 1 1)) (YCp (YG 0) (aC true) (YTp (Y2 (YS "got") (aB 0))) [none]))))) (YQ fun δ' p=>YRt (aK (xPl (Y1 (aB 1))) δ' p.2))))) (aJ h):=by kernel_rfl
def nH (d:Nat) (w0 w1:W) (h:aA):aD T (d+1) "_law_changes" [w0,w1] h =
 YP (YP (aR 2 (aK (xPl (Y3 (YS "write") (YS "add") (YS "swap")))) [some w0,some w1,none] h) (YQ fun δ' p=>YRt (aX (xC1 CmpOp.NotEq (aK (xb (aM (YF1 d "_law_parts" (aB 0))) (YCp (YG 0) (xb (xC1 CmpOp.In (YV 0 0) (aB 2)) (YAb (xb (xC1 CmpOp.Is (aB 1) YZ) (YOb (xC1 CmpOp.Eq (YV 0 1) (aB 1)))))) (aB 0) [none,some 1,some 2]))) (aK (xPl (aC [])))) δ' p.2))) (aJ h):=by kernel_rfl
def kP (d:Nat) (w0:W) (h:aA):aD T (d+1) "_law_by_begins" [w0] h =
 YP (YP (aR 1 (aK (xb (xb (YK1 aY (aB 0)) YR) (YCp (YG 0) (xC1 CmpOp.NotEq (xb (xb (aB 1) (YXx (aB 0))) (YI 4)) (YTp (Y1 (YS "refused")))) (aB 0) [none,some 0]))) [some w0,none] h) (YQ fun δ' p=>YRt (aK (xb (aM (aK (xb (Y1 (aK (xb (aM (aB 1)) (YCp (YG 0) (aC true) (YTp (Y2 (xb (xb (aB 1) (YXx (aB 0))) (YI 1)) (aB 0))) [none,some 0])))) (YKa lF)))) (YCp (aO [YG 0,YG 1]) (aC true) (aB 1) [none,none])) δ' p.2))) (aJ h):=by kernel_rfl
def oK (d:Nat) (w0 w1 w2 w3 w4:W) (h:aA):callW T (d+1) "_law_moved" [w0,w1,w2,w3,w4] h =
 YP (YP (aR 5 (xb (aB 0) (YXx (aB 1))) [some w0,some w1,some w2,some w3,some w4,none,none,none] h) (YQ fun δ' p=>YP (aR 6 (YF2 d "_law_drawn" (aB 3) (aB 4)) δ' p.2) (YQ fun δ' p=>YP (YP (xC1 CmpOp.Is (aB 5) YZ δ' p.2) (YIf δ' fun p=>YP (YP (bS (xPl (Y3 (aB 4) (YF2 d "_law_call" (aB 3) (xb (aB 4) (YB .Add 1))) YZ)) δ' p.2) (YPt (aB 0) (aB 1) δ')) (YQ fun δ' p=>YRt (YZ δ' p.2)))) (YQ fun δ' p=>YP (YP (xb (xC1 CmpOp.Is (YV 5 2) YZ) (YAb (xC1 CmpOp.Gt (xb (aB 6) (YB .Mod 9)) (YJ 0))) δ' p.2) (YIf δ' fun p=>YP (YP (xb (Y2 (aB 2) (YV 5 1)) (YF d "_law_done") δ' p.2) (YPt (aB 5) (YJ 2) δ')) (YQ fun δ' p=>YRt (YZ δ' p.2)))) (YQ fun δ' p=>YP (YP (YZ δ' p.2) (YPt (aB 0) (aB 1) δ')) (YQ fun δ' p=>YP (aR 7 (YV 5 2) δ' p.2) (YQ fun δ' p=>YP (YP (xC1 CmpOp.Is (aB 7) YZ δ' p.2) fun p=>if p.1=true then YP (aR 7 (YTp (Y1 (YS "refused"))) δ' p.2) YE else YP (YP (xC1 CmpOp.Eq (xb (aB 6) (YB .Mod 11)) (YJ 0) δ' p.2) (YIf δ' fun p=>YP (aR 7 (YF2 d "_law_bent" (aB 7) (xb (aB 6) (YB .FloorDiv 11))) δ' p.2) YE)) YE) (YQ fun δ' p=>YRt (xb (xPl (Y5 (aB 1) (YV 5 0) (aB 4) (YV 5 1) (aB 7))) YT δ' p.2))))))))) iU:=by kernel_rfl
@[simp] def dN (d:Nat) (x:DSt) (x_1:aA):Option (Fl×aA) :=
 YP (YP (xC1 CmpOp.Eq (xb (xb (aB 3) (YXx (aB 5))) (YI 0)) (YS "write") x x_1) (YIf x fun p=>YP (YP (xb (xb (aB 3) (YXx (aB 5))) (YI 2) x p.2) (YPt (aB 2) (xb (xb (aB 3) (YXx (aB 5))) (YI 1)) x)) YE)) (YQ fun δ' p=>YP (YP (xC1 CmpOp.Eq (xb (xb (aB 3) (YXx (aB 5))) (YI 0)) (YS "add") δ' p.2) (YIf δ' fun p=>YP (YP (xb (xb (aB 4) (YXx (aB 5))) (YI 1) δ' p.2) (YPt (aB 2) (xb (xb (aB 3) (YXx (aB 5))) (YI 1)) δ')) YE)) (YQ fun δ' p=>YP (YP (xb (xC1 CmpOp.Eq (xb (xb (aB 3) (YXx (aB 5))) (YI 0)) (YS "swap")) (YAb (xC1 CmpOp.Eq (xb (aB 4) (YXx (aB 5))) (YTp (Y1 (YS "yes"))))) δ' p.2) (YIf δ' fun p=>YP (YP (xb (xb (aB 3) (YXx (aB 5))) (YI 3) δ' p.2) (YPt (aB 2) (xb (xb (aB 3) (YXx (aB 5))) (YI 1)) δ')) YE)) YE))
def tM (d:Nat) (w0 w1:W) (h:aA):aD T (d+1) "_law_left" [w0,w1] h =
 YP (YP (aR 2 oQ [some w0,some w1,none,none,none,none] h) (YQ fun δ' p=>YP (aR 3 (YF1 d "_law_parts" (aB 0)) δ' p.2) (YQ fun δ' p=>YP (aR 4 (YF2 d "_law_answers" (aB 0) (aB 1)) δ' p.2) (YQ fun δ' p=>YP (YP (xb (YK1 aY (aB 3)) YR δ' p.2) (YFr (YG 5) (dN d) δ')) (YQ fun δ' p=>YRt (xb (Y1 (aK (xb (aM (aK (xb (Y1 (aB 2)) (YKa lF)))) (YCp (YG 0) (aC true) (YTp (Y2 (aB 0) (xb (aB 1) (YXx (aB 0))))) [none,some 2])))) (YK aT) δ' p.2)))))) (aJ h):=by kernel_rfl
@[simp] def dW (δ':DSt) (p:Fl×aA):Option (Fl×aA) :=
 YP (YP (xb (aB 10) YD δ' p.2) (YIf δ' fun p=>YP (YP (xb (aB 2) (YA (Y1 (YTp (Y3 (YTp (Y2 (YS "look") (aB 8))) (aB 9) (YS "must"))))) δ' p.2) (YNx δ')) (YQ fun δ' p=>YP (YP (xb (aB 1) (YA (Y1 (aB 4))) δ' p.2) (YNx δ')) YE))) (YQ fun δ' p=>YP (YP (xC1 CmpOp.NotEq (aB 11) (YTp (aC [])) δ' p.2) (YIf δ' fun p=>YP (YP (xb (aB 2) (YA (Y1 (YTp (Y3 (YTp (Y2 (YS "lay") (aB 11))) (YTp (Y1 (YS "done"))) (YS "must"))))) δ' p.2) (YNx δ')) (YQ fun δ' p=>YP (YP (xb (aB 1) (YA (Y1 (aB 4))) δ' p.2) (YNx δ')) YE))) (YQ fun δ' p=>YP (YP (xb (xb (aB 10) YD) (YAb (xC1 CmpOp.NotEq (aB 11) (YTp (aC [])))) δ' p.2) (YIf δ' fun p=>YP (YP (xb (aB 3) (YA (Y1 (YTp (Y2 (xb (YK1 aY (aB 2)) (YB .Sub 2)) (xb (YK1 aY (aB 2)) (YB .Sub 1)))))) δ' p.2) (YNx δ')) YE)) YE))
@[simp] def dX (d:Nat) (x:DSt) (x_1:aA):Option (Fl×aA) :=
 YP (YP (xb (aB 0) (YXx (aB 4)) x x_1) fun p=>YP (aO [YG 5,YG 6,YG 7,YG 8,YG 9] p.1 x p.2) fun (q:DSt×aA)=>some (Fl.nx q.1,q.2)) (YQ fun δ' p=>YP (YP (xC1 CmpOp.Is (aB 7) YZ δ' p.2) (YIf δ' fun p=>YP (YP (xb (aB 2) (YA (Y1 (YTp (Y3 (aB 8) YZ (YS "may"))))) δ' p.2) (YNx δ')) (YQ fun δ' p=>YP (YP (xb (aB 1) (YA (Y1 (aB 4))) δ' p.2) (YNx δ')) (YQ fun δ' p=>YP (some (Fl.ct δ',p.2)) YE)))) (YQ fun δ' p=>YP (aR 10 (xb (aX (xC1 CmpOp.Eq (YV 8 0) (YS "span"))) (YOr (aX (xC1 CmpOp.NotEq (aK (xb (aM (YF1 d "_law_parts" (aB 8))) (YCp (YG 0) (xC1 CmpOp.NotEq (YV 0 0) (YS "write")) (aB 0) [none]))) (aK (xPl (aC []))))))) δ' p.2) (YQ fun δ' p=>YP (aR 11 (YF2 d "_law_left" (aB 8) (aB 9)) δ' p.2) (YQ dW))))
def vR (d:Nat) (w0:W) (h:aA):aD T (d+1) "_law_lot" [w0] h =
 YP (YP (aR 1 (bS (xPl (aC []))) [some w0,none,none,none,none,none,none,none,none,none,none,none] h) (YQ fun δ' p=>YP (aR 2 (bS (xPl (aC []))) δ' p.2) (YQ fun δ' p=>YP (aR 3 (bS (xPl (aC []))) δ' p.2) (YQ fun δ' p=>YP (YP (aM (YF1 d "_law_by_begins" (aB 0)) δ' p.2) (YFr (YG 4) (dX d) δ')) (YQ fun δ' p=>YRt (xb (Y3 (aB 2) (aB 1) (aB 3)) (fun (ws:List W) (x:DSt) (h:aA)=>if (List.all ws isC&&decide (List.length ws<=60))=true then some (W.c (List.length h),h++[Cell.p ws]) else none) δ' p.2)))))) (aJ h):=by kernel_rfl
def nJ (d:Nat) (w0 w1:W) (h:aA):aD T (d+1) "_law_touched" [w0,w1] h =
 YP (YP (YP (xC1 CmpOp.Eq (YV 0 0) (YS "lay") [some w0,some w1] h) (YIr [some w0,some w1] (aX (xC1 CmpOp.NotEq (aK (xb (aM (YV 0 1)) (YCp (aO [YG 0,YG 1]) (xC1 CmpOp.In (aB 0) (aB 2)) (aB 0) [none,none,some 1]))) (aK (xPl (aC []))))))) (YQ fun δ' p=>YRt (xb (aX (xC1 CmpOp.NotEq (YV 0 0) (YS "look"))) (YAn (aX (xC1 CmpOp.NotEq (aK (xb (aM (aB 1)) (YCp (YG 0) (xb (YF2 d "_law_changes" (aB 1) (aB 0)) YD) (aB 0) [none,some 0]))) (aK (xPl (aC [])))))) δ' p.2))) (aJ h):=by kernel_rfl
@[simp] def cC (d:Nat) (x:DSt) (x_1:aA):Option (Fl×aA) :=
 YP (aR 6 (aK (xb (aM (xb (xb (xb (aB 0) (YXx (aB 5))) (YI 0)) (YI 1))) (YCp (aO [YG 0,YG 1]) (aC true) (aB 0) [none,none]))) x x_1) (YQ fun δ' p=>YP (YP (xb (YK1 aY (aB 0)) YR δ' p.2) (YFr (YG 7) (fun (x:DSt) (x_2:aA)=>YP (YP (xb (xC1 CmpOp.NotEq (xb (aB 1) (YXx (aB 7))) (xb (aB 1) (YXx (aB 4)))) (YAb (xb (YF2 d "_law_touched" (xb (xb (aB 0) (YXx (aB 7))) (YI 0)) (aB 6)) YD)) x x_2) (YIf x fun p=>YP (YP (xb (aB 3) (YA (Y1 (YTp (Y3 (aB 4) (aB 5) (aB 7))))) x p.2) (YNx x)) YE)) YE) δ')) YE)
def nK (d:Nat) (w0 w1 w2:W) (h:aA):aD T (d+1) "_law_triples" [w0,w1,w2] h =
 YP (YP (aR 3 (bS (xPl (aC []))) [some w0,some w1,some w2,none,none,none,none,none] h) (YQ fun δ' p=>YP (YP (aM (aB 2) δ' p.2) (YFr (aO [YG 4,YG 5]) (cC d) δ')) (YQ fun δ' p=>YRt (xb (Y1 (aB 3)) (YK aT) δ' p.2)))) (aJ h):=by kernel_rfl
def cA0 (d:Nat) (w0:W) (h:aA):aD T (d+1) "law" [w0] h =
 YP (YP (aR 1 (xb (aK (xPl (Y4 (YJ 4) (YJ 8) (YJ 20) (YJ 30)))) (YXx (xb (YF2 d "_law_cell_at" (aB 0) (YJ 1)) (YB .Mod 4)))) [some w0,none,none,none,none,none,none,none] h) (YQ fun δ' p=>YP (aR 2 (xb (Y4 (aB 0) (YJ 2) (aB 1) (xb (YJ 1) (YOx .Add (xb (xb (YF2 d "_law_cell_at" (aB 0) (YJ 1)) (YB .FloorDiv 4)) (YB .Mod 6))))) (YF d "_law_history")) δ' p.2) (YQ fun δ' p=>YP (YP (xb (Y1 (aB 2)) (YF d "_law_lot") δ' p.2) fun p=>YP (aO [YG 3,YG 4,YG 5] p.1 δ' p.2) fun (q:DSt×aA)=>some (Fl.nx q.1,q.2)) (YQ fun δ' p=>YP (aR 6 (YTp (xb (YJ 0) fun w=>xb (Y7 (YJ 0) (YJ 0) (YJ 0) (YJ 0) (YJ 0) (YJ 0) (YJ 0)) (YC w))) δ' p.2) (YQ fun δ' p=>YP (aR 7 (YTp (Y4 (aB 6) (YK1 aT (aB 3)) (YK1 aT (aB 5)) (xb (Y3 (aB 3) (aB 4) (aB 5)) (YF d "_law_triples")))) δ' p.2) (YQ fun δ' p=>YP (YP (xb (xC1 CmpOp.NotEq (xb (Y2 (aB 2) (YS "snap")) (YWf d "problems_of")) (aK (xPl (Y1 (YTp (Y2 YZ (aB 7))))))) (YOb (YNt (xb (YF1 d "is_problem" (aB 7)) YD))) δ' p.2) (YT2 false δ')) (YQ fun δ' p=>YP (YP (xb (xb (Y2 (aB 2) (YS "snap")) (YWf d "problems_of")) (fun (w:W) (x:DSt) (h:aA)=>aG0 w h) δ' p.2) (YNx δ')) (YQ fun δ' p=>YP (YP (xb (xb (Y2 (aB 2) (YS "snap")) (YWf d "deeds_of")) (YA (Y1 (YTp (aC [])))) δ' p.2) (YNx δ')) (YQ fun δ' p=>YP (YP (xC1 CmpOp.NotEq (xb (Y2 (aB 2) (YS "snap")) (YWf d "problems_of")) (aK (xPl (Y1 (YTp (Y2 YZ (aB 7)))))) δ' p.2) (YT2 false δ')) (YQ fun δ' p=>YP (YP (xC1 CmpOp.NotEq (xb (Y2 (aB 2) (YS "stand")) (YWf d "problems_of")) (aK (xPl (Y1 (YTp (Y2 YZ (YTp (Y4 (aB 6) (YK1 aT (aB 3)) (YTp (aC [])) (YTp (aC []))))))))) δ' p.2) (YT2 false δ')) (YQ fun δ' p=>YRt (aX (xC2 CmpOp.Eq CmpOp.Eq (xb (Y2 (aB 2) (YS "snap")) (YWf d "deeds_of")) (aK (xPl (Y1 (YK1 aT (aB 4))))) (xb (Y2 (aB 2) (YS "stand")) (YWf d "deeds_of"))) δ' p.2)))))))))))) (aJ h):=by kernel_rfl

end K47

namespace K47
open PySem PySem.Spec PyProof.Rows L2 DL CI SJ
abbrev Ow {α β:Type} (_:α->Option β):=Option α
noncomputable def bd {α β:Type} (f:α->Option β) (x:Ow f):Option β:=Option.bind x f
@[simp ↓ high] theorem bdi {α β:Type} (x:Option α) (f:α->Option β):x.bind f=bd f x:=rfl
@[simp high] theorem bds {α β:Type} (a:α) (f:α->Option β):bd f (some a)=f a:=id rfl
@[simp ↓ high] theorem bdy {α β:Type} (x:Option α) (f:α->Option β):YP x f=bd f x:=rfl
@[simp ↓ high] theorem ynx (k:DSt->Fl×aA->Option (Fl×aA)) (δ:DSt) (h:aA):YQ k (.nx δ,h)=k δ (.nx δ,h):=id rfl
@[simp ↓ high] theorem yrt (k:DSt->Fl×aA->Option (Fl×aA)) (w:W) (h:aA):YQ k (.rt w,h)=some (.rt w,h):=id rfl
@[simp ↓ high] theorem yct (k:DSt->Fl×aA->Option (Fl×aA)) (δ:DSt) (h:aA):YQ k (.ct δ,h)=some (.ct δ,h):=id rfl
@[simp ↓ high] theorem yE (f:Fl) (h:aA):YE (f,h)=some (f,h):=by cases f<;>rfl
@[simp ↓ high] theorem xba {α β:Type} (x:XR α) (f:α->XR β) (δ:DSt) (h:aA):xb x f δ h=bd (fun p=>f p.1 δ p.2) (x δ h):=rfl
@[simp ↓ high] theorem xsa (i:Nat) (x:XR W) (δ:DSt) (h:aA):aR i x δ h=bd (fun p=>some (.nx (δ.set i (some p.1)),p.2)) (x δ h):=rfl
mutual
noncomputable def nD:PyData->Bool
 | .none=>true
 | .bool _=>true
 | .int _=>true
 | .str _=>true
 | .list xs=>nDs xs
 | .tuple xs=>nDs xs
 | .dict _=>false
noncomputable def nDs:List PyData->Bool
 | []=>true
 | x::xs=>nD x&&nDs xs
end
theorem rE:∀ (xs:List PyData),nDs xs=xs.all nD
 | []=>rfl
 | x::xs=>by rw [nDs,rE xs];rfl
@[simp] theorem nDn:nD .none=true:=rfl
@[simp] theorem nDb (b:Bool):nD (.bool b)=true:=rfl
@[simp] theorem nDi (i:Int):nD (.int i)=true:=rfl
@[simp] theorem nDx (x:Str):nD (.str x)=true:=rfl
@[simp] theorem nDl (xs:List PyData):nD (.list xs)=xs.all nD:=rE xs
@[simp] theorem nDt (xs:List PyData):nD (.tuple xs)=xs.all nD:=rE xs
@[simp] theorem nDd (kvs:List (PyData×PyData)):nD (.dict kvs)=false:=rfl
def nD.nd {x:PyData} (h:nD x=true):noD x=true:=by cases x<;>first | rfl | cases h
@[simp] theorem cV2:noD .none=true:=rfl
@[simp] theorem cV3 (b:Bool):noD (.bool b)=true:=rfl
@[simp] theorem cV4 (i:Int):noD (.int i)=true:=rfl
@[simp] theorem cV5 (x:Str):noD (.str x)=true:=rfl
@[simp] theorem cV6 (xs:List PyData):noD (.list xs)=true:=rfl
@[simp] theorem cV7 (xs:List PyData):noD (.tuple xs)=true:=rfl
variable (d:Nat) (h:aA)
end K47

namespace K47
open PySem PySem.Spec PyProof.Rows L2 DL CI SJ
variable (d:Nat) (x:PyData) (h:aA)
@[simp] theorem fH (hx:nD x=true):aD T (d+1) "is_whole" [.d x] h=some (.bool (gB x),h):=by
 cases x<;>simp [vN,isi,gJ,gB]<;>cases hx
@[simp] theorem gV (lo hi:Int) (hx:nD x=true):aD T (d+2) "is_between" [.d x,.d (.int lo),.d (.int hi)] h=some (.bool (eM x lo hi),h):=by
 have hn:=nD.nd hx;cases x<;>simp [qZ,fH,eM,gB,hx]<;>try (cases hx;done)
 split<;>simp_all;omega
@[simp] theorem bB (n:Int) (hx:nD x=true):aD T (d+1) "is_tuple_of" [.d x,.d (.int n)] h=some (.bool (fE x n),h):=by
 cases x<;>simp [oD,isi,gJ,fE]<;>cases hx
@[simp] theorem dR (xs:List PyData) (hx:xs.all nD=true):aD T (d+2) "are_whole" [.d (.tuple xs)] h=some (.bool (xs.all gB),h):=by
 simp [tC];rw [eQ (fun x=>.bool (gB x)) 0 (fun _ _ _=>rfl)]
 ·simp [iL]
 ·intro y hy u;simp [fH,List.all_eq_true.mp hx y hy]
@[simp] theorem nM (hx:nD x=true):aD T (d+3) "is_key" [.d x] h=some (.bool (jQ x),h):=by
 simp [aN6,gV,jQ,hx]
def tp (a:PyData):(∃ ps,a=.tuple ps)\/((∀ n,fE a n=false)/\isi a "tuple"=false/\fS a=.none/\bH a=false/\dU a=false/\(∀ s,fT (.tuple [.str s,a])=false/\lB (.tuple [.str s,a])=false)/\∀ s,(∀ lo hi,bL (.span lo hi) (.tuple [.str s,a])=false)/\∀ cs,bL (.deal cs) (.tuple [.str s,a])=false):=by
 cases a<;>first | exact .inl ⟨_,rfl⟩ | exact .inr ⟨fun _=>rfl,rfl,rfl,rfl,rfl,fun _=>⟨rfl,rfl⟩,fun _=>⟨fun _ _=>rfl,fun _=>rfl⟩⟩
@[simp] theorem pJ (hx:nD x=true):aD T (d+1) "word_of" [.d x] h=some (fS x,h):=by
 rcases tp x with ⟨xs,rfl⟩ | hn
 ·cases xs with
  | nil=>simp [iM,isi,gJ,fS]
  | cons y r =>
   cases hs:isi y "str"
   ·have:fS (.tuple (y::r))=.none:=by cases y<;>first | rfl | cases hs
    have hq:noD y=true:=nD.nd (by simp at hx;exact hx.1);simp [iM,show ∀ xs,isi (.tuple xs) "tuple"=true from fun _=>rfl,hs,this,hq]
   ·obtain ⟨s,rfl⟩:∃ s,y=.str s:=by cases y<;>first | exact ⟨_,rfl⟩ | cases hs
    simp [iM,isi,gJ,fS]
 ·simp [iM,hn,nD.nd hx]
end K47

namespace K47
open PySem PySem.Spec PyProof.Rows L2 DL CI SJ
variable (d:Nat) (x:PyData) (h:aA)
@[simp] theorem dS (s:Str) (n:Int) (hx:nD x=true):aD T (d+2) "is_worded" [.d x,.d (.str s),.d (.int n)] h=some (.bool (aP x s n),h):=by
 simp [tF,pJ,hx];cases x<;>simp [fS,aP];rename_i xs;cases xs with
 | nil=>simp [fS,aP]
 | cons y r=>cases y<;>simp [fS,aP];rename_i t;cases e:(t==s)<;>simp
def lk (s:Str):List.lookup s [(Str.ofString "read",PyData.int 0),(Str.ofString "write",.int 1),(Str.ofString "add",.int 1),(Str.ofString "swap",.int 2)]=(nb s).map .int:=by
 unfold nb;simp only [List.lookup]
 repeat' split
 all_goals simp_all
def cO9 (a b:PyData) (r:List PyData):cut (a::b::r) (some 2) none=r:=by
 have e1:HT.sIx (a::b::r).length 0 (some 2)=2:=by simp [HT.sIx]
 have e2:HT.sIx (a::b::r).length (a::b::r).length none=r.length+2:=by simp [HT.sIx]
 rw [cut,e1,e2];simp
def cP0 (a:PyData) (r:List PyData):cut (a::r) (some 1) none=r:=by
 have e1:HT.sIx (a::r).length 0 (some 1)=1:=by simp [HT.sIx]
 have e2:HT.sIx (a::r).length (a::r).length none=r.length+1:=by simp [HT.sIx]
 rw [cut,e1,e2];simp
@[simp] theorem lC (hx:nD x=true):aD T (d+4) "is_single" [.d x] h=some (.bool (bH x),h):=by
 simp [tG,pJ,nM,dR,lk,hx];rcases tp x with ⟨xs,rfl⟩ | hn
 rotate_left
 ·simp [hn]
 cases xs with
 | nil=>simp [fS,bH]
 | cons y r =>
  cases y<;>simp [fS,bH];rename_i t;cases e:nb t with
  | none=>simp
  | some n =>
   have hn:0<=n:=by
    unfold nb at e
    repeat' split at e
    all_goals simp at e
    all_goals omega
   by_cases hl:(r.length:Int)+1=2+n
   ·cases r with
    | nil=>simp at hl;omega
    | cons k vs =>
     have hk:nD k=true:=by simp at hx;exact hx.1
     have hv:vs.all nD=true:=by simp at hx ⊢;exact hx.2
     cases ek:jQ k<;>simp_all [nM,cO9,dR,lk]
   ·simp [hl,e,lk]
def gX {x:PyData} {s:Str} (e:aP x s 2=true):∃ a,x=.tuple [.str s,a]:=by
 unfold aP at e;split at e
 ·rename_i t r;simp at e;obtain ⟨rfl,e⟩:=e
  match r,e with
  | [a],_=>exact ⟨a,rfl⟩
  | [],e=>simp at e
  | _::_::_,e=>simp at e;omega
 ·cases e
def aZ4 {x:PyData} {s:Str} (e:aP x s 3=true):∃ a b,x=.tuple [.str s,a,b]:=by
 unfold aP at e;split at e
 ·rename_i t r;simp at e;obtain ⟨rfl,e⟩:=e
  match r,e with
  | [a,b],_=>exact ⟨a,b,rfl⟩
  | [],e=>simp at e
  | [_],e=>simp at e
  | _::_::_::_,e=>simp at e;omega
 ·cases e
def aZ5 {x:PyData} (e:aP x "span" 3=false):fF x=false:=by
 unfold fF;split
 ·simp [aP] at e;simp [e]
 ·rfl
def aZ6 {x:PyData} (e:aP x "deal" 2=false):fT x=false:=by
 unfold fT;split
 ·simp [aP] at e;simp [e]
 ·rfl
def aZ7 {x:PyData} (e:aP x "look" 2=false):jE x=false:=by
 unfold jE;split
 ·simp [aP] at e;simp [e]
 ·rfl
def bO4 {x:PyData} (e:aP x "lay" 2=false):lB x=false:=by
 unfold lB;split
 ·simp [aP] at e;simp [e]
 ·rfl
@[simp] theorem aC8 (hx:nD x=true):aD T (d+3) "is_span" [.d x] h=some (.bool (fF x),h):=by
 simp [aC0,dS,dR,hx];cases e:aP x (Str.ofString "span") 3
 ·simp [aZ5 e]
 ·obtain ⟨a,b,rfl⟩:=aZ4 e;have hab:nD a=true/\nD b=true:=by simpa using hx
  simp [cP0,dR,hab.1,hab.2];have wn:∀ {x},gB x=true->∃ i,x=.int i:=fun {x} h=>by cases x<;>first | exact ⟨_,rfl⟩ | cases h
  cases ha:gB a
  ·have:fF (.tuple [.str (Str.ofString "span"),a,b])=false:=by cases a<;>first | rfl | cases ha
   simp [this]
  obtain ⟨i,rfl⟩:=wn ha;cases hb:gB b
  ·have:fF (.tuple [.str (Str.ofString "span"),.int i,b])=false:=by cases b<;>first | rfl | cases hb
   simp [gB,this]
  obtain ⟨j,rfl⟩:=wn hb;simp [gB,fF]
  by_cases h1:0<=i<;>by_cases h2:i < j<;>simp [h1,h2]
@[simp] theorem aC9 (hx:nD x=true):aD T (d+5) "is_deal" [.d x] h=some (.bool (fT x),h):=by
 simp [aC1,dS,hx];cases e:aP x (Str.ofString "deal") 2
 ·simp [aZ6 e]
 ·obtain ⟨a,rfl⟩:=gX e;have ha:nD a=true:=by simpa using hx
  rcases tp a with ⟨ps,rfl⟩ | hn
  rotate_left
  ·simp [hn,nD.nd ha]
  have hps:∀ y∈ps,nD y=true:=by simpa using ha
  simp [isi,gJ,fT]
  by_cases h1:(1:Int)<=ps.length
  ·by_cases h2:(ps.length:Int)<=4
   ·simp [h1,h2];rw [eQ (fun x=>.bool (bH x)) 0 (fun _ _ _=>rfl)]
    ·have h3:1<=ps.length:=by omega
     have h4:ps.length<=4:=by omega
     simp [iL,h3,h4]
    ·intro y hy u;simp [lC,hps y hy]
   ·have h4:¬ ps.length<=4:=by omega
    simp [h1,h2,h4]
  ·have h4:¬ 1<=ps.length:=by omega
   simp [h1,h4]
@[simp] theorem pK (hx:nD x=true):aD T (d+6) "is_call" [.d x] h=some (.bool (dK x),h):=by
 simp [aC2,lC,aC8,aC9,dK,hx];cases e1:bH x<;>cases e2:fF x<;>cases e3:fT x<;>simp [e1,e2,e3,hx]
@[simp] theorem bT4 (hx:nD x=true):aD T (d+7) "is_look" [.d x] h=some (.bool (jE x),h):=by
 simp [aC3,dS,hx];cases e:aP x (Str.ofString "look") 2
 ·simp [aZ7 e]
 ·obtain ⟨a,rfl⟩:=gX e;have ha:nD a=true:=by simpa using hx
  simp [pK,jE,ha]
@[simp] theorem aE8 (hx:nD x=true):aD T (d+4) "is_value_pair" [.d x] h=some (.bool (dU x),h):=by
 simp [lJ,bB,hx];rcases tp x with ⟨xs,rfl⟩ | hn
 rotate_left
 ·simp [hn]
 simp [fE]
 match xs with
 | []=>simp [dU]
 | [a]=>simp [dU]
 | [a,b] =>
  have hab:nD a=true/\nD b=true:=by simpa using hx
  simp [nM,fH,dU,hab.1,hab.2];cases jQ a<;>simp [fH,hab.2]
 | a::b::c::r =>
  have:¬ ((r.length:Int)+1+1+1=2):=by omega
  simp [dU,this]
def bN {n:Int} (h0:-5<=n) (h1:n<=100000):cU 0 n=true:=by
 unfold cU;simp;omega
def jT {ns:List Int} {i:Nat} (hi:i < ns.length):atI (ns.map PyData.int) (i:Int)=some (.int (ns.getD i 0)):=by
 unfold atI;rw [ix_nat (by simpa using hi)];simp [List.getD,hi]
def aZ8 (n:Nat):rng 0 n=(List.range n).map fun (i:Nat)=>PyData.int (i:Int):=by
 unfold rng;simp
def bO5 {w:W} {ns:List Int} (hl:ns.length<=1000) (l1:∀ h,aY [w] h=some (.d (.int ns.length),h)) (ix:∀ (i:Int) h,xIx w (.d (.int i)) h=(atI (ns.map .int) i).map fun v=>(.d v,h)):aD T (d+1) "are_rising" [w] h=some (.bool (rise ns),h):=by
 simp [rA,l1];rw [if_pos (bN (by omega) (by omega))];simp only [bds];rw [eQ (fun x=>.bool (decide (ns.getD (kM x).toNat 0 < ns.getD ((kM x).toNat+1) 0))) 0 (fun _ _ _=>rfl)]
 ·simp only [List.nil_append,bds,yE,all_map];rw [aZ8,List.all_map,aX7];rfl
 ·intro y hy u;rw [aZ8] at hy;obtain ⟨k,hk,rfl⟩:=List.mem_map.mp hy;have hk:=List.mem_range.mp hk;have e2:((k:Int)+1)=((k+1:Nat):Int):=rfl;simp [ix,jT (show k < ns.length by omega),kM];rw [e2,jT (by omega)];simp
noncomputable def small:PyData->Bool
 | .tuple [_,.tuple ps]=>decide (ps.length<=1000)
 | _=>true
def aN9 (hs:small x=true) (hx:nD x=true):aD T (d+5) "is_lay" [.d x] h=some (.bool (lB x),h):=by
 simp [aN7,hx];cases e:aP x (Str.ofString "lay") 2
 ·simp [bO4 e]
 ·obtain ⟨a,rfl⟩:=gX e;have ha:nD a=true:=by simpa using hx
  rcases tp a with ⟨ps,rfl⟩ | hn
  rotate_left
  ·simp [hn,nD.nd ha]
  have hps:∀ y∈ps,nD y=true:=by simpa using ha
  simp [isi,gJ,lB]
  replace hs:ps.length<=1000:=of_decide_eq_true hs
  by_cases hp:ps=[]
  ·subst hp;simp
  ·have hn:¬ ((ps.length:Int)=0):=by
    have:ps.length≠0:=fun z=>hp (List.length_eq_zero_iff.mp z);omega
   simp [hp];rw [eQ (fun x=>.bool (dU x)) 0 (fun _ _ _=>rfl)]
   ·simp only [List.nil_append,bds,yE,all_map];generalize ea:ps.all dU=b;cases b
    ·simp
    ·simp;rw [eQ (fun x=>.int (kM (mY x))) 0 (fun _ _ _=>rfl)]
     ·have e3:(ps.map fun x=>PyData.int (kM (mY x)))=(ps.map fun p=>kM (mY p)).map PyData.int:=by simp
      simp only [List.nil_append,bds,e3];rw [bO5 _ _ (ns:=ps.map fun p=>kM (mY p)) (by simpa using hs) (fun _=>by simp) fun _ _=>rfl];simp [hp]
     ·intro y hy u;have:=List.all_eq_true.mp ea y hy;unfold dU at this;split at this
      ·rename_i k v;simp [jQ,eM] at this;cases k<;>simp at this;simp [mY,kM]
      ·cases this
   ·intro y hy u;simp [hps y hy]
@[simp] theorem iN (hs:small x=true) (hx:nD x=true):aD T (d+8) "is_step" [.d x] h=some (.bool (jF x),h):=by
 simp [aC4,jF,hx];cases e1:dK x<;>cases e2:jE x<;>simp [e1,e2,hx,aN9 _ _ _ hs hx]
end K47

namespace K47
open PySem PySem.Spec PyProof.Rows L2 DL CI SJ
variable (d:Nat) (t:PyData) (h:aA)
def aO0 {t:PyData} (e:aP t "got" 2=false):cW (.read 0) t=false:=by
 unfold cW;split
 ·split
  ·rename_i s v;cases es:(s==Str.ofString "got")
   ·simp
   ·simp at es;subst es;simp [aP] at e
  ·rfl
 all_goals rename_i e';cases e'
@[simp] theorem bO6 (o:One):nD o.dat=true:=by cases o<;>rfl
def pL (o:One) (ht:nD t=true):aD T (d+3) "is_own_answer" [.d o.dat,.d t] h=some (.bool (cW o t),h):=by
 cases o
 ·simp [aU,One.dat,PyData.eqv,cW,szl,ht];cases e:aP t (Str.ofString "got") 2
  ·simp;exact aO0 e
  ·obtain ⟨v,rfl⟩:=gX e;have hv:nD v=true:=by simpa using ht
   simp [hv]
 ·simp [aU,One.dat,PyData.eqv,cW,szl,ht]
 ·simp [aU,One.dat,PyData.eqv,cW,szl,ht];cases e:aP t (Str.ofString "got") 2
  ·simp;exact aO0 e
  ·obtain ⟨v,rfl⟩:=gX e;have hv:nD v=true:=by simpa using ht
   simp [hv]
 ·simp [aU,One.dat,PyData.eqv,cW,szl,ht];cases e:aP t (Str.ofString "yes") 1<;>simp [ht]
end K47

namespace K47
open PySem PySem.Spec PyProof.Rows L2 DL CI SJ
variable (d:Nat) (t:PyData) (h:aA)
def bO7 {t:PyData} {lo hi:Nat} (e:aP t "all" 2=false):bL (.span lo hi) t=false:=by
 unfold bL;split
 ·rename_i e';cases e'
 ·split
  ·rename_i s xs;cases es:(s==Str.ofString "all")
   ·simp
   ·simp at es;subst es;simp [aP] at e
  ·rfl
 ·rename_i e';cases e'
def aZ9 {t:PyData} {cs:List One} (e:aP t "each" 2=false):bL (.deal cs) t=false:=by
 unfold bL;split
 ·rename_i e';cases e'
 ·rename_i e';cases e'
 ·split
  ·rename_i s xs;cases es:(s==Str.ofString "each")
   ·simp
   ·simp at es;subst es;simp [aP] at e
  ·rfl
def zps (cs:List One) (xs:List PyData):List (PyData×PyData):=(cs.zip xs).map fun p=>(.tuple [p.1.dat,p.2],.bool (cW p.1 p.2))
theorem bE2:∀ (cs:List One) (xs:List PyData),fV (cs.map One.dat) xs=(zps cs xs).map (·.1)
 | [],_=>by simp [fV,zps]
 | _::_,[]=>by simp [fV,zps]
 | c::cs,x::xs=>by
  have:=bE2 cs xs;unfold fV zps at this ⊢;simp at this ⊢;exact this
def cA1:∀ (cs:List One) (xs:List PyData),(zps cs xs).map (·.2)=((cs.zip xs).map fun p=>cW p.1 p.2).map PyData.bool:=fun cs xs=>by simp [zps]
theorem yC:∀ (cs:List One) (xs:List PyData),((cs.zip xs).map fun p=>cW p.1 p.2).all id=fN cs xs
 | [],_=>by simp [fN]
 | _::_,[]=>by simp [fN]
 | c::cs,x::xs=>by
  have:=yC cs xs;simp [fN] at this ⊢;rw [this]
theorem yD:∀ bs:List Bool,cI (bs.map PyData.bool)=some bs
 | []=>rfl
 | b::r=>by simp [cI,yD r]
@[simp] theorem rF (c:SJ.Call):nD c.dat=true:=by
 cases c with
 | one o=>exact bO6 o
 | span lo hi=>rfl
 | deal cs=>simp [Call.dat]
def vS (lo hi:Nat) (ht:nD t=true):aD T (d+4) "is_own_answer" [.d (Call.span lo hi).dat,.d t] h=some (.bool (bL (.span lo hi) t),h):=by
 simp [aU,Call.dat,PyData.eqv,szl,ht];cases e:aP t (Str.ofString "all") 2
 ·simp;exact bO7 e
 ·obtain ⟨v,rfl⟩:=gX e;have hv:nD v=true:=by simpa using ht
  rcases tp v with ⟨xs,rfl⟩ | hn
  rotate_left
  ·simp [hn,hv]
  have hxs:∀ y∈xs,nD y=true:=by simpa using hv
  have hxa:xs.all nD=true:=by simpa using hv
  simp [fE,bL,hv,hxs,hxa]
  by_cases hl:(xs.length:Int)=(hi:Int) - lo<;>simp [hl,hxs,hxa]
def vT (cs:List One) (ht:nD t=true):aD T (d+4) "is_own_answer" [.d (Call.deal cs).dat,.d t] h=some (.bool (bL (.deal cs) t),h):=by
 simp [aU,Call.dat,PyData.eqv,szl,ht];cases e:aP t (Str.ofString "each") 2
 ·simp;exact aZ9 e
 ·obtain ⟨v,rfl⟩:=gX e;have hv:nD v=true:=by simpa using ht
  rcases tp v with ⟨xs,rfl⟩ | hn
  rotate_left
  ·simp [hn,hv]
  have hxs:∀ y∈xs,nD y=true:=by simpa using hv
  have hxa:xs.all nD=true:=by simpa using hv
  simp [fE,bL,hv,hxs,hxa]
  by_cases hl:(xs.length:Int)=cs.length
  ·have hl':xs.length=cs.length:=by omega
   simp [hl,hl'];rw [bE2,mV (fun δ=>∃ a b,δ=[a,b]) _ _ _ ⟨_,_,rfl⟩]
   ·have hz:=yC cs xs;rw [cA1];generalize ((cs.zip xs).map fun p=>cW p.1 p.2)=L at hz ⊢;simp [yD,hz]
   ·intro p hp δ ⟨a,b,e⟩;subst e;obtain ⟨⟨o,x⟩,hm,rfl⟩:=List.mem_map.mp hp;have hx:nD x=true:=hxs x (List.of_mem_zip hm).2;refine ⟨[some (.d o.dat),some (.d x)],by simp [aO,cD],⟨_,_,rfl⟩,?_⟩;simp [pL,hx]
  ·have hl':¬ xs.length=cs.length:=by omega
   simp [hl,hl']
def nN (c:SJ.Call) (ht:nD t=true):aD T (d+4) "is_own_answer" [.d c.dat,.d t] h=some (.bool (bL c t),h):=by
 cases c with
 | one o=>exact pL (d+1) t h o ht
 | span lo hi=>exact vS d t h lo hi ht
 | deal cs=>exact vT d t h cs ht
end K47

namespace K47
open PySem PySem.Spec PyProof.Rows L2 DL CI SJ
variable (d:Nat) (t:PyData) (h:aA)
def nO {c:SJ.Call} (hc:c.ok):small c.dat=true:=by
 cases c with
 | one o=>cases o<;>simp [Call.dat,One.dat,small]
 | span lo hi=>simp [Call.dat,small]
 | deal cs =>
  have:=hc.1;simp [Call.dat,small];omega
def vU {c:SJ.Call} (hc:c.ok) (ht:nD t=true):aD T (d+9) "is_answer" [.d c.dat,.d t] h=some (.bool (aP t "refused" 1||bL c t),h):=by
 simp [iE,iN (d) c.dat h (nO hc) (rF c),ht,(eU hc).2.1,(eU hc).1];cases e:aP t (Str.ofString "refused") 1
 ·simp [nN (d+4),ht]
 ·simp [(eU hc).1]
def vV {ps:List (Nat×Int)} (hn:ps≠[]) (hl:ps.length<=1000) (hk:∀ p∈ps,p.1 < 8) (hr:(ps.map (·.1)).Pairwise (· < ·)):aD T (d+8) "is_step" [.d (.tuple [.str "lay",.tuple (ps.map prP)])] h=some (.bool true,h):=by
 rw [iN _ _ _ (by simpa [small] using hl) (by simp [prP])];obtain ⟨q1,q2,q3⟩:=pE hk;have e:=aZ0 hr;rw [List.map_map] at e;have e1:lB (.tuple [.str "lay",.tuple (ps.map prP)])=true:=by
  unfold lB;simp only [q1,q3,List.isEmpty_map];have:ps.isEmpty=false:=by simpa using hn
  rw [this]
  simpa [Function.comp_def] using e
 simp [jF,e1]
end K47

namespace K47
open PySem PySem.Spec PyProof.Rows L2 DL CI SJ
structure Dd where
 hand:Nat
 beg:Nat
 call:SJ.Call
 fin:Option (Nat×Option SJ.Ans)
noncomputable def bA0:PyData:=.tuple [.str "refused"]
def anD:Option SJ.Ans->PyData
 | some a=>a.dat
 | none=>bA0
noncomputable def Dd.endD (x:Dd):PyData:=match x.fin with
 | some p=>.int p.1
 | none=>.none
def Dd.ansD (x:Dd):PyData:=match x.fin with
 | some p=>anD p.2
 | none=>.none
def Dd.dat (x:Dd):PyData:=.tuple [.int x.hand,.int x.beg,x.endD,x.call.dat,x.ansD]
structure Dd.ok (x:Dd):Prop where
 hand:x.hand<=5
 call:x.call.ok
 fin:∀ p,x.fin=some p->x.beg < p.1/\∀ a,p.2=some a->Ans.fits x.call a
noncomputable def Dd.tms (x:Dd):List Int:=(x.beg:Int)::(match x.fin with | some p=>[(p.1:Int)] | none=>[])
noncomputable def Dd.below (x:Dd) (n:Nat):Bool:=match x.fin with | some p=>decide (p.1 < n) | none=>false
variable (d:Nat) (h:aA)
def bA1 {c:SJ.Call} (hc:c.ok):aD T (d+6) "is_call" [.d c.dat] h=some (.bool true,h):=by
 rw [pK _ _ _ (rF c)];rw [(eU hc).1]
@[simp] theorem pM (n:Nat):aD T (d+2) "is_time" [.d (.int n)] h=some (.bool true,h):=by
 have e:=fH d (.int n) h rfl;simp [aC7,e,gB]
def vW (a:SJ.Ans):nD a.dat=true:=by
 cases a with
 | one a=>cases a<;>rfl
 | all ns=>simp [Ans.dat]
 | each as =>
  simp [Ans.dat];intro a _;cases a<;>rfl
def bE3 (a:Option SJ.Ans):nD (anD a)=true:=by
 cases a with
 | none=>rfl
 | some a=>exact vW a
def cA2 (x:Dd):nD x.dat=true:=by
 obtain ⟨hand,beg,call,fin⟩:=x;cases fin with
 | none=>simp [Dd.dat,Dd.endD,Dd.ansD]
 | some p=>simp [Dd.dat,Dd.endD,Dd.ansD,bE3]
def cA3 {c:SJ.Call} (hc:c.ok) {a:Option SJ.Ans} (hf:∀ b,a=some b->Ans.fits c b):aD T (d+9) "is_answer" [.d c.dat,.d (anD a)] h=some (.bool true,h):=by
 rw [vU d (anD a) h hc (bE3 a)];cases a with
 | none=>simp [anD,bA0,aP]
 | some a=>simp [anD,pG (hf a rfl) hc]
def aD0 (x:Dd) (hx:x.ok):aD T (d+10) "is_deed" [.d x.dat] h=some (.bool true,h):=by
 have hc:=bA1 (d+3) h hx.call;have hh:=hx.hand;have hn:=cA2 x;have e1:=bB (d+8) x.dat h 5 hn;have e2:=gV (d+7) (.int x.hand) h 0 5 rfl;have e3:=pM (d+7) h x.beg;obtain ⟨hand,beg,call,fin⟩:=x;dsimp only at hh hc e2 e3;have hh':¬ (5:Int) < (hand:Int):=by omega
 cases fin with
 | none =>
  dsimp only [Dd.dat,Dd.endD,Dd.ansD] at e1 ⊢;simp [pI,e1,e2,e3,fE,eM,hc,hh,hh']
 | some p =>
  obtain ⟨h1,h3⟩:=hx.fin p rfl;have ha:=cA3 d h hx.call h3;have e4:=pM (d+7) h p.1;have isn:xIs (.d (.int (p.1:Int))) (.d .none)=some false:=rfl;obtain ⟨t,ht⟩:∃ t,t=anD p.2:=⟨_,rfl⟩;dsimp only [Dd.dat,Dd.endD,Dd.ansD] at e1 ha h1 ⊢;rw [<- ht] at ha e1 ⊢;simp [pI,e1,e2,e3,e4,fE,eM,hc,ha,hh,hh',h1]
def vX (x:Dd):aD T (d+1) "times_of" [.d x.dat] h=some (.list (x.tms.map .int),h):=by
 obtain ⟨hand,beg,call,fin⟩:=x;cases fin<;>simp [vO,Dd.dat,Dd.endD,Dd.ansD,Dd.tms,szl]
def iW (x:Dd) (n:Nat):aD T (d+1) "ended_below" [.d x.dat,.d (.int n)] h=some (.bool (x.below n),h):=by
 obtain ⟨hand,beg,call,fin⟩:=x;cases fin<;>simp [oE,Dd.dat,Dd.endD,Dd.ansD,Dd.below]
end K47

namespace K47
open PySem PySem.Spec PyProof.Rows L2 DL CI SJ
variable (d:Nat) (h:aA)
structure Tog (x y:Dd):Prop where
 ne:∀ t,t∈x.tms->t∈y.tms->False
 hd:x.hand≠y.hand\/x.below y.beg=true\/y.below x.beg=true
theorem Tog.symm {x y:Dd} (t:Tog x y):Tog y x:=⟨fun z a b=>t.ne z b a,by
 rcases t.hd with h | h | h
 ·exact .inl fun e=>h e.symm
 ·exact .inr (.inr h)
 ·exact .inr (.inl h)⟩
theorem cmT {α:Type} {g:XG} {tt:XR Bool} {te:XR W} {all:List PyData} {h:aA} (F:α->PyData) (p:α->Bool) (f:α->PyData) (I:DSt->Prop):∀ (qs:List α) (δ:DSt) (ac:List PyData),I δ ->
  (∀ q∈qs,∀ δ,I δ->∃ δ',g (.d (F q)) δ h=some (δ',h)/\I δ'/\tt δ' h=some (p q,h)/\(p q=true->te δ' h=some (.d (f q),h)))->aN g tt te none all (qs.map F) δ h ac=some (ac++(qs.filter p).map f,h)
 | [],δ,ac,_,_=>by simp [aN]
 | q::r,δ,ac,i,hx=>by
  obtain ⟨δ',e1,i',e2,e3⟩:=hx q List.mem_cons_self δ i;have ih:=fun ac=>cmT (all:=all) F p f I r δ' ac i' fun y hy=>hx y (List.mem_cons_of_mem _ hy);rw [List.map_cons,aN,cJ,if_pos rfl,e1];simp only [CI.bs,e2];cases hp:p q with
  | true=>rw [if_pos rfl,e3 hp];simp only [CI.bs];rw [ih];simp [hp]
  | false=>rw [if_neg (by simp)];rw [ih];simp [hp]
def cmM {α:Type} {g:XG} {te:XR W} {all:List PyData} {h:aA} (F:α->PyData) (f:α->PyData) (I:DSt->Prop) (qs:List α) (δ:DSt) (i:I δ)
  (hx:∀ q∈qs,∀ δ,I δ->∃ δ',g (.d (F q)) δ h=some (δ',h)/\I δ'/\te δ' h=some (.d (f q),h)):aN g (aC true) te none all (qs.map F) δ h []=some (qs.map f,h):=by
 rw [cmT F (fun _=>true) f I qs δ [] i fun q m δ i=>?_]
 ·rw [List.filter_eq_self.mpr (fun _ _=>rfl),List.nil_append]
 ·obtain ⟨δ',a,b,c⟩:=hx q m δ i;exact ⟨δ',a,b,rfl,fun _=>c⟩
theorem gY {α:Type} (b:Bool):∀ xs:List α,cI (xs.map fun _=>PyData.bool b)=some (xs.map fun _=>b)
 | []=>rfl
 | x::r=>by rw [List.map_cons,cI,gY b r];rfl
def cA4 {α:Type} (xs:List α) (h:aA):nX [.d (.list (xs.map fun _=>PyData.bool false))] h=some (.d (.bool false),h):=by
 have:nX [.d (.list (xs.map fun _=>PyData.bool false))] h=(cI (xs.map fun _=>PyData.bool false)).map fun bs=>(.d (.bool (bs.any id)),h):=rfl;rw [this,gY];simp
theorem gZ:∀ (ns:List Int) (n:Nat),plainsB n (ns.map .int)=true
 | [],n=>by simp
 | a::r,n=>by simp [gZ r]
def yF (ns:List Int) (n:Int) (h:aA):xIn (.d (.int n)) (.d (.list (ns.map .int))) h=some (decide (n∈ns)):=by
 have:xIn (.d (.int n)) (.d (.list (ns.map .int))) h=if (aG 64 (.list (ns.map .int))&&aG 64 (.int n))=true then some ((ns.map PyData.int).any fun z=>PyData.eqv z (.int n)) else none:=rfl
 rw [this];simp only [xZ,gZ,bN9,Bool.and_self,if_true]
 congr 1
 clear this;induction ns with
 | nil=>rfl
 | cons a r ih =>
  rw [List.map_cons,List.any_cons,ih];simp [PyData.eqv]
  by_cases e:a=n
  ·simp [e]
  ·simp [e,Ne.symm e]
def oM {x y:Dd} (t:Tog x y):aD T (d+3) "go_together" [.d x.dat,.d y.dat] h=some (.bool true,h):=by
 have t1:=fun x=>vX (d+1) h x;have b1:=fun n=>iW (d+1) h x n;have b2:=fun n=>iW (d+1) h y n;have y0:∀ k,xIx (.d y.dat) (.d (.int 0)) k=some (.d (.int y.hand),k):=fun k=>by simp [Dd.dat]
 have x0:∀ k,xIx (.d x.dat) (.d (.int 0)) k=some (.d (.int x.hand),k):=fun k=>by simp [Dd.dat]
 have y1:∀ k,xIx (.d y.dat) (.d (.int 1)) k=some (.d (.int y.beg),k):=fun k=>by simp [Dd.dat]
 have x1:∀ k,xIx (.d x.dat) (.d (.int 1)) k=some (.d (.int x.beg),k):=fun k=>by simp [Dd.dat]
 obtain ⟨dx,hdx⟩:∃ v,v=x.dat:=⟨_,rfl⟩;obtain ⟨dy,hdy⟩:∃ v,v=y.dat:=⟨_,rfl⟩;have tx:=t1 x;have ty:=t1 y;rw [<- hdx] at x0 x1 b1 tx ⊢;rw [<- hdy] at y0 y1 b2 ty ⊢;simp [oG,tx];rw [cmM PyData.int (fun _=>.bool false) (fun δ=>∃ u,δ=[u,some (.d dy)]) _ _ ⟨_,rfl⟩ fun t' hm δ hδ=>?_]
 ·simp only [bds,cA4];have hh:=t.hd
  by_cases e:x.hand=y.hand
  ·cases e1:x.below y.beg
   ·have e2:y.below x.beg=true:=by
     rcases hh with h | h | h
     ·exact absurd e h
     ·rw [e1] at h;cases h
     ·exact h
    simp [x0,y0,x1,y1,e,b1,b2,e1,e2]
   ·simp [x0,y0,x1,y1,e,b1,b2,e1]
  ·have e':¬ ((x.hand:Int)=y.hand):=by omega
   simp [x0,y0,e']
 ·obtain ⟨u,rfl⟩:=hδ;refine ⟨_,rfl,⟨_,rfl⟩,?_⟩;have:t'∉y.tms:=fun z=>t.ne t' hm z;simp [ty,yF,this]
end K47

namespace K47
open PySem PySem.Spec PyProof.Rows L2 DL CI SJ
noncomputable def clS (S:List Int) (k:Nat):Int:=S.getD k 0
def aO1 (d:Nat) (h:aA) (S:List Int) (k:Nat):aD T (d+1) "_law_cell_at" [.d (.list (S.map .int)),.d (.int k)] h=some (.int (clS S k),h):=by
 by_cases c:k < S.length
 ·have e:=jT c;simp [iF,c,e,clS]
 ·simp [iF,c,clS]
noncomputable def dwF (a k:Int):Int :=
 let g:=a / 2^(1+24*(k%120)).toNat
 if a%2=1/\0 < g then g%16777216 else
 let x:=(a / 2%2147483647+7919*k+1)*48271%2147483647
 let y:=x*(x / 1009+69621)%2147483647
 y*(y / 2003+40692)%2147483399
def lQ (d:Nat) (h:aA) (a k:Int):aD T (d+1) "_law_drawn" [.d (.int a),.d (.int k)] h=some (.int (dwF a k),h):=by
 have e1:dP 1009=true:=by decide
 have e2:dP 2003=true:=by decide
 have e3:dP 2=true:=by decide
 have e4:rU 2 24=true:=by decide
 have h0:=lP (i:=7919) (by decide) (by decide) k;have h9:=lP (i:=24) (by decide) (by decide) (k%120);have h1:=aX9 (j:=48271) (by decide) (by decide) (a / 2%2147483647+7919*k+1);obtain ⟨x,hx⟩:∃ x,x=(a / 2%2147483647+7919*k+1)*48271%2147483647:=⟨_,rfl⟩;have h2:iT x (x / 1009+69621)=true:=lP (by omega) (by omega) _;obtain ⟨y,hy⟩:∃ y,y=x*(x / 1009+69621)%2147483647:=⟨_,rfl⟩;have h3:iT y (y / 2003+40692)=true:=lP (by rw [hy];have:=Int.emod_nonneg (x*(x / 1009+69621)) (b:=2147483647) (by decide);omega) (by rw [hy];have:=Int.emod_lt_of_pos (x*(x / 1009+69621)) (b:=2147483647) (by decide);omega) _;obtain ⟨g,hg⟩:∃ g,g=a / 2^(1+24*(k%120)).toNat:=⟨_,rfl⟩;have sh:∀ H,hZ .RShift (.d (.int a)) (.d (.int (1+24*(k%120)))) H=some (.d (.int g),H):=fun H=>by
  have p0:(0:Int)<=1+24*(k%120):=by have:=Int.emod_nonneg k (b:=120) (by decide);omega
  rw [hg];exact (if_pos p0:(if (0:Int)<=(1+24*(k%120)) then some (W.d (.int (a / 2^(1+24*(k%120)).toNat)),H) else none)=_)
 have e:dwF a k=if a%2=1/\0 < g then g%16777216 else y*(y / 2003+40692)%2147483399:=by rw [hy,hx,hg];rfl
 rw [e]
 by_cases c1:a%2=1
 ·by_cases c2:0 < g
  ·simp [gT,e3,e4,h9,sh,c1,c2]
  ·simp [gT,e1,e2,e3,e4,h0,h9,h1,<- hx,h2,<- hy,h3,sh,c1,c2]
 ·simp [gT,e1,e2,e3,e4,h0,h9,h1,<- hx,h2,<- hy,h3,sh,c1]
noncomputable def kyF (n:Int):Nat:=[0,0,1,2,7].getD (n / 8%5).toNat 0
noncomputable def vlF (n:Int):Int:=[0,1,2,-1,1000000000000000000000000000000].getD (n / 40%5).toNat 0
noncomputable def v3F (n:Int):Int:=[0,1,2].getD (n / 200%3).toNat 0
def plF (n:Int):One:=if n%8 < 3 then .read (kyF n) else if n%8 < 5 then .write (kyF n) (vlF n) else if n%8=5 then .add (kyF n) (vlF n) else .swap (kyF n) (v3F n) (vlF n)
def aO2 (n:Int):kyF n < 8:=by
 unfold kyF;have:(n / 8%5).toNat=0\/(n / 8%5).toNat=1\/(n / 8%5).toNat=2\/(n / 8%5).toNat=3\/(n / 8%5).toNat=4:=by omega
 rcases this with z | z | z | z | z<;>rw [z]<;>decide
def bE4 (n:Int):(plF n).ok:=by
 unfold plF;split
 ·exact aO2 n
 split
 ·exact aO2 n
 split<;>exact aO2 n
def cA5 (n:Int):atI [PyData.int 0,.int 0,.int 1,.int 2,.int 7] (n / 8%5)=some (.int (kyF n)):=by
 unfold kyF;have:n / 8%5=0\/n / 8%5=1\/n / 8%5=2\/n / 8%5=3\/n / 8%5=4:=by omega
 rcases this with z | z | z | z | z<;>rw [z]<;>simp
def cA6 (n:Int):atI [PyData.int 0,.int 1,.int 2,.int (-1),.int 1000000000000000000000000000000] (n / 40%5)=some (.int (vlF n)):=by
 unfold vlF;have:n / 40%5=0\/n / 40%5=1\/n / 40%5=2\/n / 40%5=3\/n / 40%5=4:=by omega
 rcases this with z | z | z | z | z<;>rw [z]<;>simp
def cA7 (n:Int):atI [PyData.int 0,.int 1,.int 2] (n / 200%3)=some (.int (v3F n)):=by
 unfold v3F;have:n / 200%3=0\/n / 200%3=1\/n / 200%3=2:=by omega
 rcases this with z | z | z<;>rw [z]<;>simp
def bA2 (d:Nat) (h:aA) (n:Int):aD T (d+1) "_law_plain_call" [.d (.int n)] h=some ((plF n).dat,h):=by
 have e1:dP 8=true:=by decide
 have e2:dP 40=true:=by decide
 have e3:dP 200=true:=by decide
 have e4:rU 10 30=true:=by decide
 have k1:=cA5 n;have k2:=cA6 n;have k3:=cA7 n;unfold plF
 by_cases c1:n%8 < 3
 ·simp [bQ,e1,e2,e3,e4,aK,k1,k2,k3,c1,One.dat,szl]
 by_cases c2:n%8 < 5
 ·simp [bQ,e1,e2,e3,e4,aK,k1,k2,k3,c1,c2,One.dat,szl]
 by_cases c3:n%8=5
 ·simp [bQ,e1,e2,e3,e4,aK,k1,k2,k3,c1,c2,c3,One.dat,szl]
 ·simp [bQ,e1,e2,e3,e4,aK,k1,k2,k3,c1,c2,c3,One.dat,szl]
def clF (a k:Int):SJ.Call:=let n:=dwF a k
 if n%7=0 then .span (n / 7%3).toNat (n / 7%3+1+n / 21%(8 - n / 7%3)).toNat
 else if n%7=1 then .deal ((List.range (1+n / 7%4).toNat).map fun (j:Nat)=>plF (dwF a (k+30+j)))
 else .one (plF (n / 7))
def cA8 (a k:Int):(clF a k).ok:=by
 unfold clF;dsimp only;generalize dwF a k=n;split
 ·have h1:=Int.emod_nonneg (n / 21) (b:=8 - n / 7%3) (by omega);have h2:=Int.emod_lt_of_pos (n / 21) (b:=8 - n / 7%3) (by omega);exact ⟨by omega,by omega⟩
 split
 ·refine ⟨by simp;omega,by simp;omega,fun o ho=>?_⟩;obtain ⟨j,_,rfl⟩:=List.mem_map.mp ho;exact bE4 _
 ·exact bE4 _
def bO8 (d:Nat) (h:aA) (a k:Int):aD T (d+2) "_law_call" [.d (.int a),.d (.int k)] h=some ((clF a k).dat,h):=by
 have e1:dP 7=true:=by decide
 have e2:dP 21=true:=by decide
 have dw:=fun k=>lQ d h a k;have pl:=fun n=>bA2 d h n;rw [show d+2=(d+1)+1 from rfl];unfold clF;obtain ⟨n,hn⟩:∃ n,n=dwF a k:=⟨_,rfl⟩;rw [<- hn];have dw0:=dw k;rw [<- hn] at dw0;dsimp only
 by_cases c1:n%7=0
 ·have h0:n / 7%3 < 8:=by omega
  have h1:=Int.emod_nonneg (n / 21) (b:=8 - n / 7%3) (by omega);have n1:((n / 7%3).toNat:Int)=n / 7%3:=by omega
  have n2:((n / 7%3+1+n / 21%(8 - n / 7%3)).toNat:Int)=n / 7%3+1+n / 21%(8 - n / 7%3):=by omega
  simp only [c1,if_true,Call.dat,n1,n2];simp [iG,dw0,e1,e2,c1,h0,szl]
 by_cases c2:n%7=1
 ·have er:cU 0 (1+n / 7%4)=true:=bN (by omega) (by omega);simp [iG,dw0,e1,c1,c2,er];rw [mW (fun x=>(plF (dwF a (k+30+kM x))).dat) (fun δ=>∃ u,δ=[u,some (.d (.int a)),some (.d (.int k))]) _ _ ⟨_,rfl⟩ ?_]
  ·have e:(rng 0 (1+n / 7%4).toNat).map (fun x=>(plF (dwF a (k+30+kM x))).dat)=((List.range (1+n / 7%4).toNat).map fun (j:Nat)=>plF (dwF a (k+30+j))).map One.dat:=by
    rw [aZ8,List.map_map,List.map_map];rfl
   simp [e,Call.dat,szl]
  ·rintro x hx δ ⟨u,rfl⟩;obtain ⟨j,hj,rfl⟩:=aY1 hx;refine ⟨_,rfl,⟨_,rfl⟩,?_⟩;simp [dw,pl,kM]
 ·simp [iG,dw0,e1,c1,c2,pl,Call.dat]
end K47

namespace K47
open PySem PySem.Spec PyProof.Rows L2 DL CI SJ
def sd (st:List Int):One->An1×List Int
 | .read k=>(.got (st.getD k 0),st)
 | .write k v=>(.dn,st.set k v)
 | .add k v=>(.got (st.getD k 0+v),st.set k (st.getD k 0+v))
 | .swap k x y=>if st.getD k 0=x then (.yes,st.set k y) else (.no,st)
def vY (st:List Int) (o:One):(sd st o).2.length=st.length:=by
 cases o<;>simp only [sd]<;>first | rfl | exact List.length_set | (split<;>first | rfl | exact List.length_set)
def yG (st:List Int) (o:One):An1.fits o (sd st o).1:=by
 cases o<;>simp only [sd]<;>first | trivial | (split<;>trivial)
def bE5 {st:List Int} {k:Nat} (hk:k < st.length):atI (st.map PyData.int) (k:Int)=some (.int (st.getD k 0)):=bO (by simp [hk])
theorem gF {H:aA} {j:Nat} {c:Cell} (e:H[j]?=some c):H.set j c=H:=by
 apply List.ext_getElem?;intro i
 by_cases h:j=i
 ·subst h;rw [List.getElem?_set_self (List.getElem?_eq_some_iff.mp e).1,e]
 ·rw [List.getElem?_set_ne h]
def tN {H:aA} {j:Nat} {xs:List PyData} {z:PyData}:aJ H (.rt (.d z),H.set j (.l xs))=some (z,H.set j (.l xs)):=by
 rw [qY,if_pos (aM7 j xs (dO H)),List.take_of_length_le (by simp)]
def cP1 {H:aA} {j:Nat} {xs:List PyData} (e:H[j]?=some (.l xs)) {k:Nat} (hk:k < xs.length) (x:PyData) (δ:DSt):kB j (.int k) x δ H=some (δ,H.set j (.l (xs.set k x))):=by
 unfold kB;simp only [e];unfold ixN;rw [if_pos (by omega),if_pos (by omega)];rfl
def lE {H:aA} {j:Nat} {xs:List PyData} (e:H[j]?=some (.l xs)) (k:Int):xIx (.c j) (.d (.int k)) H=(atI xs k).map fun v=>(.d v,H):=by
 simp [xIx,ref,e]
def yH (d:Nat) {H:aA} {j:Nat} {st:List Int} (e:H[j]?=some (.l (st.map .int))) (hl:st.length=8) {o:One} (ho:o.ok):aD T (d+1) "_law_done_plainly" [.c j,.d o.dat] H=some ((sd st o).1.dat,H.set j (.l ((sd st o).2.map .int))):=by
 have ho:o.key < 8:=ho;have ix:∀ k:Nat,k < 8->xIx (.c j) (.d (.int k)) H=some (.d (.int (st.getD k 0)),H):=fun k hk=>by rw [lE e,bE5 (by omega)];rfl
 have ik:∀ k:Nat,k < 8->ixN 8 (k:Int)=some k:=fun k hk=>by unfold ixN;rw [if_pos (by omega),if_pos (by omega)];rfl
 have es:=fun (z:PyData) xs=>tN (H:=H) (j:=j) (xs:=xs) (z:=z);have eS:=fun (z:PyData)=>by have:=es z (st.map .int);rw [gF e] at this;exact this
 cases o with
 | read k =>
  have i1:=ix k ho;generalize ev:st.getD k 0=w at i1;simp only [sd,ev,An1.dat];simp [bA,One.dat,i1,szl,eS,gF e]
 | write k v =>
  have i1:=ix k ho;generalize ev:st.getD k 0=w at i1;simp only [sd,ev,An1.dat,List.map_set];simp [bA,One.dat,i1,szl,es,e,hl,ik k ho]
 | add k v =>
  have i1:=ix k ho;generalize ev:st.getD k 0=w at i1;simp only [sd,ev,An1.dat,List.map_set];simp [bA,One.dat,i1,szl,es,e,hl,ik k ho]
 | swap k x y =>
  have i1:=ix k ho;generalize ev:st.getD k 0=w at i1
  by_cases c:w=x
  ·simp only [sd,ev,c,if_true,An1.dat,List.map_set];simp [bA,One.dat,i1,szl,es,e,hl,ik k ho,c]
  ·simp only [sd,ev,c,if_false,An1.dat];simp [bA,One.dat,i1,szl,eS,gF e,c]
theorem cmS {α σ:Type} {g:XG} {te:XR W} {all:List PyData} (F:α->PyData) (out:σ->α->PyData) (nx:σ->α->σ) (R:σ->DSt->aA->Prop):∀ (qs:List α) (s:σ) (δ:DSt) (h:aA) (ac:List PyData),R s δ h ->
  (∀ q∈qs,∀ s δ h,R s δ h->∃ δ1 h1,g (.d (F q)) δ h=some (δ1,h1)/\∃ h2,te δ1 h1=some (.d (out s q),h2)/\R (nx s q) δ1 h2) ->
  ∃ δ' h',aN g (aC true) te none all (qs.map F) δ h ac=some (ac++(qs.foldl (fun p q=>(p.1++[out p.2 q],nx p.2 q)) ([],s)).1,h')/\R (qs.foldl nx s) δ' h'
 | [],s,δ,h,ac,i,_=>⟨δ,h,by simp [aN],i⟩
 | q::r,s,δ,h,ac,i,hx=>by
  obtain ⟨δ1,h1,e1,h2,e2,i2⟩:=hx q List.mem_cons_self s δ h i;obtain ⟨δ',h',e3,i3⟩:=cmS (all:=all) F out nx R r (nx s q) δ1 h2 (ac++[out s q]) i2 fun y hy=>hx y (List.mem_cons_of_mem _ hy);refine ⟨δ',h',?_,i3⟩;rw [List.map_cons,aN,cJ,if_pos rfl,e1];simp only [CI.bs,sY,if_true,e2,e3,List.foldl_cons,List.nil_append]
  congr 2
  have gen:∀ (r:List α) (l:List PyData) (s:σ),(r.foldl (fun p q=>(p.1++[out p.2 q],nx p.2 q)) (l,s)).1=l++(r.foldl (fun p q=>(p.1++[out p.2 q],nx p.2 q)) ([],s)).1:=by
   intro r;induction r with
   | nil=>intro l s;simp
   | cons a r ih=>intro l s;rw [List.foldl_cons,ih,List.foldl_cons,ih ([]++_)];simp
  rw [gen r [out s q],List.append_assoc]
def dr (st:List Int):List One->List An1×List Int
 | []=>([],st)
 | o::r=>((sd st o).1::(dr (sd st o).2 r).1,(dr (sd st o).2 r).2)
theorem aO3:∀ (cs:List One) (st:List Int),(dr st cs).2.length=st.length
 | [],st=>rfl
 | o::r,st=>by rw [dr,aO3 r,vY]
theorem aO4:∀ (cs:List One) (st:List Int),Fit2 cs (dr st cs).1
 | [],st=>.nil
 | o::r,st=>.cons (yG st o) (aO4 r _)
theorem yI:∀ (cs:List One) (st:List Int),cs.foldl (fun s o=>(sd s o).2) st=(dr st cs).2
 | [],st=>rfl
 | o::r,st=>by rw [List.foldl_cons,yI r];rfl
theorem aO5:∀ (cs:List One) (st:List Int) (l:List PyData),(cs.foldl (fun p o=>(p.1++[(sd p.2 o).1.dat],(sd p.2 o).2)) (l,st)).1=l++(dr st cs).1.map An1.dat
 | [],st,l=>by simp [dr]
 | o::r,st,l=>by rw [List.foldl_cons,aO5 r];simp [dr]
def bO9 (xs:List PyData) {i j:Nat} (hi:i<=j) (hj:j<=xs.length):cut xs (some (i:Int)) (some (j:Int))=(xs.drop i).take (j - i):=by
 have e1:HT.sIx xs.length 0 (some (i:Int))=i:=by
  unfold HT.sIx;simp only [];rw [if_neg (by omega)];omega
 have e2:HT.sIx xs.length xs.length (some (j:Int))=j:=by
  unfold HT.sIx;simp only [];rw [if_neg (by omega)];omega
 rw [cut,e1,e2]
def dnC (st:List Int):SJ.Call->SJ.Ans×List Int
 | .one o=>(.one (sd st o).1,(sd st o).2)
 | .span lo hi=>(.all ((st.drop lo).take (hi - lo)),st)
 | .deal cs=>(.each (dr st cs).1,(dr st cs).2)
def bA3 {c:SJ.Call} {st:List Int} (hl:st.length=8):(dnC st c).2.length=8:=by
 cases c with
 | one o=>rw [<- hl];exact vY st o
 | span lo hi=>exact hl
 | deal cs=>rw [<- hl];exact aO3 cs st
def aO6 {c:SJ.Call} (hc:c.ok) {st:List Int} (hl:st.length=8):Ans.fits c (dnC st c).1:=by
 cases c with
 | one o=>exact yG st o
 | span lo hi =>
  have h1:=hc.1;have h2:=hc.2;show ((st.drop lo).take (hi - lo)).length=hi - lo;simp;omega
 | deal cs=>exact aO4 cs st
def bP0 (d:Nat) {H:aA} {j:Nat} {st:List Int} (e:H[j]?=some (.l (st.map .int))) (hl:st.length=8) {c:SJ.Call} (hc:c.ok):aD T (d+2) "_law_done" [.c j,.d c.dat] H=some ((dnC st c).1.dat,H.set j (.l ((dnC st c).2.map .int))):=by
 have es:=fun (z:PyData) xs=>tN (H:=H) (j:=j) (xs:=xs) (z:=z);have eS:=fun (z:PyData)=>by have:=es z (st.map .int);rw [gF e] at this;exact this
 have hj:j < H.length:=(List.getElem?_eq_some_iff.mp e).1;rw [show d+2=(d+1)+1 from rfl];cases c with
 | one o =>
  have e1:=yH d e hl (o:=o) hc;simp only [dnC,Ans.dat];generalize (sd st o).1.dat=z at *;generalize ((sd st o).2.map PyData.int)=w at *;cases o<;>simp only [Call.dat,One.dat] at e1 ⊢<;>simp [iH,e1,es]
 | span lo hi =>
  have h1:=hc.1;have h2:=hc.2;have cn:=bO9 (st.map PyData.int) (i:=lo) (j:=hi) (Nat.le_of_lt h1) (by simp;omega);rw [<- List.map_drop,<- List.map_take] at cn;simp only [dnC,Ans.dat];simp [iH,Call.dat,szl,xSl,ref,e,cn,aT,eS,gF e]
 | deal cs =>
  obtain ⟨δ',h',e1,hR⟩:=cmS (g:=YG 0) (te:=xb (Y2 (aB 1) (aB 0)) (YF (d+1) "_law_done_plainly")) (all:=cs.map One.dat) One.dat (fun s o=>(sd s o).1.dat) (fun s o=>(sd s o).2)
   (fun s δ h'=>s.length=8/\h'=H.set j (.l (s.map .int))/\∃ u,δ=[u,some (.c j)]) cs st [none,some (.c j)] H [] ⟨hl,by rw [gF e],_,rfl⟩ (by
    rintro o ho s δ h' ⟨hs,rfl,u,rfl⟩;have e2:(H.set j (.l (s.map PyData.int)))[j]?=some (.l (s.map .int)):=List.getElem?_set_self hj;have e3:=yH d e2 hs (hc.2.2 o ho);rw [List.set_set] at e3;refine ⟨_,_,rfl,_,?_,by rw [vY];exact hs,rfl,_,rfl⟩;simp [e3])
  obtain ⟨_,rfl,_⟩:=hR;rw [aO5,yI] at e1;simp only [List.nil_append,cE] at e1;simp only [dnC,Ans.dat];simp only [cH,cO8] at e1;have hn:=hc.1;simp at e1;simp [iH,Call.dat,szl,e1,es]
end K47

namespace K47
open PySem PySem.Spec PyProof.Rows L2 DL CI SJ
def bn1 (r:Int):An1->An1
 | .got v=>.got (v+1 - r%3)
 | .yes=>if r%2=0 then .yes else .no
 | .no=>if r%2=0 then .yes else .no
 | .dn=>.dn
def tO {r:Int} {o:One} {a:An1} (hf:An1.fits o a):An1.fits o (bn1 r a):=by
 cases o<;>cases a<;>simp [An1.fits] at hf<;>simp only [bn1]<;>first | trivial | (split<;>trivial)
def yJ (d:Nat) (h:aA) (a:An1) (r:Int):aD T (d+1) "_law_bent" [.d a.dat,.d (.int r)] h=some ((bn1 r a).dat,h):=by
 have e2:dP 2=true:=by decide
 have yn:atI [PyData.str (Str.ofString "yes"),.str (Str.ofString "no")] (r%2)=some (.str (Str.ofString (if r%2=0 then "yes" else "no"))):=by
  have:r%2=0\/r%2=1:=by omega
  rcases this with z | z<;>rw [z]<;>simp
 cases a with
 | got v=>simp [cK,An1.dat,bn1,szl]
 | dn=>simp [cK,An1.dat,bn1,szl,aK,xIn,ref,PyData.eqv]
 | yes=>by_cases c:r%2=0<;>simp [c] at yn<;>simp [cK,An1.dat,bn1,szl,aK,xIn,ref,PyData.eqv,yn,c]
 | no=>by_cases c:r%2=0<;>simp [c] at yn<;>simp [cK,An1.dat,bn1,szl,aK,xIn,ref,PyData.eqv,yn,c]
def vZ (xs:List PyData) {m:Nat} (hm:m<=xs.length):cut xs none (some (m:Int))=xs.take m:=by
 have e1:HT.sIx xs.length 0 none=0:=by simp [HT.sIx]
 have e2:HT.sIx xs.length xs.length (some (m:Int))=m:=by
  unfold HT.sIx;simp only [];rw [if_neg (by omega)];omega
 rw [cut,e1,e2];simp
def aO7 (xs:List PyData) {m:Nat} (hm:m<=xs.length):cut xs (some (m:Int)) none=xs.drop m:=by
 have e1:HT.sIx xs.length 0 (some (m:Int))=m:=by
  unfold HT.sIx;simp only [];rw [if_neg (by omega)];omega
 have e2:HT.sIx xs.length xs.length none=xs.length:=by simp [HT.sIx]
 rw [cut,e1,e2];rw [List.take_of_length_le];simp
theorem yK:∀ {os:List One} {as:List An1},Fit2 os as->∀ {k:Nat} (r:Int),k < as.length->∀ {a:An1},as[k]?=some a->Fit2 os (as.take k++bn1 r a::as.drop (k+1))
 | _,_,.cons f t,0,r,_,a,e=>by
  simp at e;subst e;exact .cons (tO f) t
 | _,_,.cons f t,k+1,r,hk,a,e=>by
  simp at e hk;exact .cons f (yK t r hk e)
def bP1 (d:Nat) (h:aA) {c:SJ.Call} (hc:c.ok) {a:SJ.Ans} (hf:Ans.fits c a) (r:Int):∃ b,Ans.fits c b/\aD T (d+2) "_law_bent" [.d a.dat,.d (.int r)] h=some (b.dat,h):=by
 have e3:dP 3=true:=by decide
 have e12:dP 12=true:=by decide
 cases a with
 | one a =>
  refine ⟨.one (bn1 r a),?_,yJ (d+1) h a r⟩;cases c<;>first | exact tO hf | exact hf
 | all ns =>
  cases c with
  | one o=>exact hf.elim
  | deal cs=>exact hf.elim
  | span lo hi =>
  have hn:ns.length=hi - lo:=hf;have h1:=hc.1;have h2:=hc.2;obtain ⟨k,hk,ek⟩:∃ k:Nat,k < ns.length/\r / 3%(ns.length:Int)=k:=by
   have a1:=Int.emod_nonneg (r / 3) (b:=(ns.length:Int)) (by omega);have a2:=Int.emod_lt_of_pos (r / 3) (b:=(ns.length:Int)) (by omega);exact ⟨(r / 3%(ns.length:Int)).toNat,by omega,by omega⟩
  have p0:0 < ns.length:=by omega
  have c1:=vZ (ns.map PyData.int) (m:=k) (by simp;omega);have c2:=aO7 (ns.map PyData.int) (m:=k+1) (by simp;omega);have c2':cut (ns.map PyData.int) (some ((k:Int)+1)) none=(ns.map PyData.int).drop (k+1):=c2;have at1:=bE5 hk;have l1:k+1<=16777216:=by omega
  have l2:k+1+(ns.length - (k+1))<=16777216:=by omega
  refine ⟨.all (ns.take k++(ns.getD k 0+1 - r%3)::ns.drop (k+1)),?_,?_⟩
  ·show (ns.take k++(ns.getD k 0+1 - r%3)::ns.drop (k+1)).length=hi - lo;simp;omega
  ·generalize ns.getD k 0=v at *;have mk:min k ns.length=k:=by omega
   have l3:k<=16777215:=by omega
   simp [cK,Ans.dat,szl,aK,xIn,ref,PyData.eqv,e3,p0,ek,c1,c2',at1,mk,l1,l2,l3]
 | each as =>
  cases c with
  | one o=>exact hf.elim
  | span lo hi=>exact hf.elim
  | deal cs =>
  have hf':Fit2 cs as:=hf;have hn:=hf'.length;have h1:=hc.1;have h2:=hc.2.1;obtain ⟨k,hk,ek⟩:∃ k:Nat,k < as.length/\r / 3%(as.length:Int)=k:=by
   have a1:=Int.emod_nonneg (r / 3) (b:=(as.length:Int)) (by omega);have a2:=Int.emod_lt_of_pos (r / 3) (b:=(as.length:Int)) (by omega);exact ⟨(r / 3%(as.length:Int)).toNat,by omega,by omega⟩
  have p0:0 < as.length:=by omega
  have c1:=vZ (as.map An1.dat) (m:=k) (by simp;omega);have c2:=aO7 (as.map An1.dat) (m:=k+1) (by simp;omega);have c2':cut (as.map An1.dat) (some ((k:Int)+1)) none=(as.map An1.dat).drop (k+1):=c2;obtain ⟨a,ea⟩:∃ a,as[k]?=some a:=⟨as[k],by simp [hk]⟩;have at1:atI (as.map An1.dat) (k:Int)=some a.dat:=bO (by simp [ea]);have l1:k+1<=16777216:=by omega
  have l2:k+1+(as.length - (k+1))<=16777216:=by omega
  have bt:=fun r=>yJ d h a r;refine ⟨.each (as.take k++bn1 (r / 12) a::as.drop (k+1)),yK hf' _ hk ea,?_⟩;rw [show d+2=(d+1)+1 from rfl];have mk:min k as.length=k:=by omega
  have l3:k<=16777215:=by omega
  simp [cK,Ans.dat,szl,aK,xIn,ref,PyData.eqv,e3,e12,p0,ek,c1,c2',at1,mk,l1,l2,l3,bt]
end K47

namespace K47
open PySem PySem.Spec PyProof.Rows L2 DL CI SJ
section
variable {x:Option (Fl×aA)} {k:DSt->Fl×aA->Option (Fl×aA)} (δ:DSt) (h:aA) (e:x=some (.nx δ,h))
include e
def sy {R:Option (Fl×aA)} (kk:k δ (.nx δ,h)=R):YP x (YQ k)=R:=by
 rw [e];exact kk
def sys {P:DSt->aA->Prop} (kk:∃ δ2 h2,k δ (.nx δ,h)=some (.nx δ2,h2)/\P δ2 h2):∃ δ2 h2,YP x (YQ k)=some (.nx δ2,h2)/\P δ2 h2:=by
 rw [e];exact kk
def syP {Q:Option (Fl×aA)->Prop} (kk:Q (k δ (.nx δ,h))):Q (YP x (YQ k)):=by
 rw [e];exact kk
end
theorem sq {α β:Type} {x:Option α} {f:α->Option β} {R:Option β} (a:α) (e:x=some a) (k:f a=R):x.bind f=R:=by
 rw [e];exact k
theorem aO8 {α:Type} {x:Option α} {f:α->Option (Fl×aA)} {P:DSt->aA->Prop} (a:α) (e:x=some a) (k:∃ δ2 h2,f a=some (.nx δ2,h2)/\P δ2 h2):∃ δ2 h2,x.bind f=some (.nx δ2,h2)/\P δ2 h2:=by
 rw [e];exact k
def syE {Q:Option (Fl×aA)->Prop} {x:Option (Fl×aA)} {k:DSt->Fl×aA->Option (Fl×aA)} (J:DSt->aA->Prop) (e:∃ δ h,x=some (.nx δ,h)/\J δ h) (kk:∀ δ h,J δ h->Q (k δ (.nx δ,h))):Q (YP x (YQ k)):=by
 obtain ⟨δ,h,e,j⟩:=e;rw [e];exact kk δ h j
def syR {Q:Option (Fl×aA)->Prop} {x:Option (Fl×aA)} {k:DSt->Fl×aA->Option (Fl×aA)} (w:W) (h:aA) (e:x=some (.rt w,h)) (kk:Q (some (.rt w,h))):Q (YP x (YQ k)):=by
 rw [e];exact kk
def aO9 {H:aA} {j:Nat} {rs:List W} (e:wsC j H=some rs) {q:Nat} {w:W} (hq:rs[q]?=some w):xIx (.c j) (.d (.int q)) H=some (w,H):=by
 have hl:q < rs.length:=(List.getElem?_eq_some_iff.mp hq).1;unfold wsC at e;split at e
 ·rename_i xs ej;injection e with e
  subst e;rw [List.getElem?_map] at hq;cases ex:xs[q]? with
  | none=>rw [ex] at hq;cases hq
  | some y =>
   rw [ex] at hq;injection hq with hq
   subst hq;rw [lE ej,bO ex];rfl
 ·rename_i ws ej;injection e with e
  subst e;have:ref H (.c j)=none:=by simp [ref,ej]
  simp only [xIx,this,xIr,ej,bO hq,Option.map_some]
 ·cases e
def bA4 {H:aA} {j:Nat} {rs:List W} (e:wsC j H=some rs) {q:Nat} (hq:q < rs.length) (x:PyData) (δ:DSt):∃ c,kB j (.int q) x δ H=some (δ,H.set j c)/\∀ G:aA,G[j]?=some c->wsC j G=some (rs.set q (.d x)):=by
 unfold wsC at e;have ik:∀ n,q < n->ixN n (q:Int)=some q:=fun n h=>by unfold ixN;rw [if_pos (by omega),if_pos (by omega)];rfl
 split at e
 ·rename_i xs ej;injection e with e
  subst e;refine ⟨.l (xs.set q x),?_,fun G eG=>?_⟩
  ·simp only [kB,ej,ik _ (by simpa using hq),Option.map_some]
  ·simp only [wsC,eG,List.map_set]
 ·rename_i ws ej;injection e with e
  subst e;refine ⟨.r (ws.set q (.d x)),?_,fun G eG=>?_⟩
  ·simp only [kB,ej,ik _ hq,Option.map_some]
  ·simp only [wsC,eG]
 ·cases e
def bA5 {H:aA} {j:Nat} {rs:List W} (e:wsC j H=some rs) {q:Nat} (hq:q < rs.length) (i:Nat) (δ:DSt):∃ c,rY j (.int q) i δ H=some (δ,H.set j c)/\∀ G:aA,G[j]?=some c->wsC j G=some (rs.set q (.c i)):=by
 unfold wsC at e;have ik:∀ n,q < n->ixN n (q:Int)=some q:=fun n h=>by unfold ixN;rw [if_pos (by omega),if_pos (by omega)];rfl
 split at e
 ·rename_i xs ej;injection e with e
  subst e;refine ⟨.r ((xs.map .d).set q (.c i)),?_,fun G eG=>?_⟩
  ·simp only [rY,ej,ik _ (by simpa using hq),Option.map_some]
  ·simp only [wsC,eG]
 ·rename_i ws ej;injection e with e
  subst e;refine ⟨.r (ws.set q (.c i)),?_,fun G eG=>?_⟩
  ·simp only [rY,ej,ik _ hq,Option.map_some]
  ·simp only [wsC,eG]
 ·cases e
structure Rw where
 b:Nat
 c:SJ.Call
 t:Option SJ.Ans
def tD:Option SJ.Ans->PyData
 | some a=>a.dat
 | none=>.none
def Rw.dat (w:Rw):List PyData:=[.int w.b,w.c.dat,tD w.t]
noncomputable def rwW:Option (Nat×Rw)->W
 | none=>.d .none
 | some p=>.c p.1
structure Hs (n:Nat) (st:List Int) (rs:List (Option (Nat×Rw))) (ds:List Dd) (H:aA):Prop where
 sl:st.length=8
 s:H[n]?=some (.l (st.map .int))
 r:wsC (n+1) H=some (rs.map rwW)
 d:H[n+2]?=some (.l (ds.map Dd.dat))
 own:∀ (q i:Nat) (w:Rw),rs[q]?=some (some (i,w))->n+3<=i/\H[i]?=some (.l w.dat)
 inj:∀ (q q' i:Nat) (w w':Rw),rs[q]?=some (some (i,w))->rs[q']?=some (some (i,w'))->q=q'
def tP {H:aA} {j:Nat} {rs:List W} (e:wsC j H=some rs):j < H.length:=by
 unfold wsC at e;split at e
 ·rename_i xs ej;exact (List.getElem?_eq_some_iff.mp ej).1
 ·rename_i xs ej;exact (List.getElem?_eq_some_iff.mp ej).1
 ·cases e
def yL {H G:aA} {j:Nat} {rs:List W} (e:wsC j H=some rs) (k:G[j]?=H[j]?):wsC j G=some rs:=by
 rw [<- e];unfold wsC;rw [k]
variable {n:Nat} {st:List Int} {rs:List (Option (Nat×Rw))} {ds:List Dd} {H:aA}
def Hs.go (S:Hs n st rs ds H) {G:aA} (k:∀ i c,n<=i->H[i]?=some c->G[i]?=some c):Hs n st rs ds G:=by
 obtain ⟨h1,h2,h3,h4,h5,h6⟩:=S;refine ⟨h1,k _ _ (by omega) h2,yL h3 ?_,k _ _ (by omega) h4,fun q i w e=>⟨(h5 q i w e).1,k _ _ (by have:=(h5 q i w e).1;omega) (h5 q i w e).2⟩,h6⟩;have:=tP h3;rw [k (n+1) H[n+1] (by omega) (by simp [this])];simp [this]
def Hs.opn (S:Hs n st rs ds H) {q:Nat} (hq:q < rs.length) (w:Rw) {c:Cell} (hc:∀ G:aA,G[n+1]?=some c->wsC (n+1) G=some ((rs.map rwW).set q (.c H.length))):Hs n st (rs.set q (some (H.length,w))) ds ((H++[Cell.l w.dat]).set (n+1) c):=by
 obtain ⟨h1,h2,h3,h4,h5,h6⟩:=S;have hl:=tP h3;have hd:=(List.getElem?_eq_some_iff.mp h4).1;have oth:∀ i c',i≠n+1->H[i]?=some c'->((H++[Cell.l w.dat]).set (n+1) c)[i]?=some c':=fun i c' hi e=>by
  rw [List.getElem?_set_ne (fun z=>hi z.symm),List.getElem?_append_left (List.getElem?_eq_some_iff.mp e).1,e]
 refine ⟨h1,oth _ _ (by omega) h2,?_,oth _ _ (by omega) h4,fun q' i w' e=>?_,fun q1 q2 i w1 w2 e1 e2=>?_⟩
 ·rw [hc _ (by rw [List.getElem?_set_self (by simp;omega)]),List.map_set];rfl
 ·by_cases c1:q=q'
  ·subst c1;rw [List.getElem?_set_self hq] at e;injection e with e
   injection e with e
   injection e with e1 e2
   subst e1 e2;refine ⟨by omega,?_⟩;rw [List.getElem?_set_ne (by omega)];simp
  ·rw [List.getElem?_set_ne c1] at e;exact ⟨(h5 q' i w' e).1,oth _ _ (by have:=(h5 q' i w' e).1;omega) (h5 q' i w' e).2⟩
 ·have ol:∀ q' w',rs[q']?=some (some (H.length,w'))->False:=fun q' w' z=>by
   have:=(List.getElem?_eq_some_iff.mp (h5 _ _ _ z).2).1;omega
  by_cases c1:q=q1
  ·subst c1;rw [List.getElem?_set_self hq] at e1;injection e1 with e1
   injection e1 with e1
   injection e1 with e1 e1'
   subst e1
   by_cases c2:q=q2
   ·exact c2
   ·rw [List.getElem?_set_ne c2] at e2;exact (ol _ _ e2).elim
  ·rw [List.getElem?_set_ne c1] at e1
   by_cases c2:q=q2
   ·subst c2;rw [List.getElem?_set_self hq] at e2;injection e2 with e2
    injection e2 with e2
    injection e2 with e2 e2'
    subst e2;exact (ol _ _ e1).elim
   ·rw [List.getElem?_set_ne c2] at e2;exact h6 q1 q2 i w1 w2 e1 e2
def Hs.ans (S:Hs n st rs ds H) {q i:Nat} {w:Rw} (e:rs[q]?=some (some (i,w))) (t:Option SJ.Ans) {st':List Int} (hl:st'.length=8):Hs n st' (rs.set q (some (i,{ w with t:=t }))) ds ((H.set n (.l (st'.map .int))).set i (.l ({ w with t:=t }:Rw).dat)):=by
 obtain ⟨h1,h2,h3,h4,h5,h6⟩:=S;have hq:=(List.getElem?_eq_some_iff.mp e).1;have hn:=(List.getElem?_eq_some_iff.mp h2).1;obtain ⟨hi,hi'⟩:=h5 q i w e;have hil:=(List.getElem?_eq_some_iff.mp hi').1;have oth:∀ j c',j≠n->j≠i->H[j]?=some c'->((H.set n (.l (st'.map .int))).set i (.l ({ w with t:=t }:Rw).dat))[j]?=some c':=fun j c' z1 z2 e=>by
  rw [List.getElem?_set_ne (fun z=>z2 z.symm),List.getElem?_set_ne (fun z=>z1 z.symm),e]
 refine ⟨hl,?_,?_,oth _ _ (by omega) (by omega) h4,fun q' j w' e'=>?_,fun q1 q2 j w1 w2 e1 e2=>?_⟩
 ·rw [List.getElem?_set_ne (by omega),List.getElem?_set_self hn]
 ·rw [yL h3 (by rw [List.getElem?_set_ne (by omega),List.getElem?_set_ne (by omega)])]
  congr 1
  apply List.ext_getElem?;intro k;rw [List.getElem?_map,List.getElem?_map,List.getElem?_set];split
  ·rename_i z;subst z;simp [hq,rwW];have:=(List.getElem?_eq_some_iff.mp e).2;rw [this]
  ·rfl
 ·by_cases c1:q=q'
  ·subst c1;rw [List.getElem?_set_self hq] at e';injection e' with e'
   injection e' with e'
   injection e' with e1 e2
   subst e1 e2;exact ⟨hi,List.getElem?_set_self (by simpa using hil)⟩
  ·rw [List.getElem?_set_ne c1] at e';have ne:j≠i:=fun z=>by
    subst z;exact c1 (h6 q q' _ _ _ e e')
   exact ⟨(h5 q' j w' e').1,oth _ _ (by have:=(h5 q' j w' e').1;omega) ne (h5 q' j w' e').2⟩
 ·by_cases c1:q=q1
  ·subst c1;rw [List.getElem?_set_self hq] at e1;injection e1 with e1
   injection e1 with e1
   injection e1 with e1 e1'
   subst e1
   by_cases c2:q=q2
   ·exact c2
   ·rw [List.getElem?_set_ne c2] at e2;exact (h6 q q2 _ _ _ e e2)
  ·rw [List.getElem?_set_ne c1] at e1
   by_cases c2:q=q2
   ·subst c2;rw [List.getElem?_set_self hq] at e2;injection e2 with e2
    injection e2 with e2
    injection e2 with e2 e2'
    subst e2;exact (h6 q1 q _ _ _ e1 e)
   ·rw [List.getElem?_set_ne c2] at e2;exact h6 q1 q2 j w1 w2 e1 e2
def Hs.cls (S:Hs n st rs ds H) {q:Nat} {c:Cell} (hc:∀ G:aA,G[n+1]?=some c->wsC (n+1) G=some ((rs.map rwW).set q (.d .none))):Hs n st (rs.set q none) ds (H.set (n+1) c):=by
 obtain ⟨h1,h2,h3,h4,h5,h6⟩:=S;have hl:=tP h3;have oth:∀ i c',i≠n+1->H[i]?=some c'->(H.set (n+1) c)[i]?=some c':=fun i c' hi e=>by
  rw [List.getElem?_set_ne (fun z=>hi z.symm),e]
 have un:∀ q' i w,(rs.set q none)[q']?=some (some (i,w))->rs[q']?=some (some (i,w)):=fun q' i w z=>by
  rw [List.getElem?_set] at z;split at z
  ·split at z<;>cases z
  ·exact z
 refine ⟨h1,oth _ _ (by omega) h2,?_,oth _ _ (by omega) h4,fun q' i w' e=>?_,fun q1 q2 i w1 w2 e1 e2=>h6 q1 q2 i w1 w2 (un _ _ _ e1) (un _ _ _ e2)⟩
 ·rw [hc _ (by rw [List.getElem?_set_self (by omega)]),List.map_set];rfl
 ·have e:=un _ _ _ e;exact ⟨(h5 q' i w' e).1,oth _ _ (by have:=(h5 q' i w' e).1;omega) (h5 q' i w' e).2⟩
end K47

namespace K47
open PySem PySem.Spec PyProof.Rows L2 DL CI SJ
variable {n:Nat} {st:List Int} {rs:List (Option (Nat×Rw))} {ds:List Dd} {H:aA}
set_option genInjectivity true in
inductive Mvd (q k:Nat) (rs:List (Option (Nat×Rw))):PyData->List (Option (Nat×Rw))->Prop where
 | opn (i:Nat) (c:SJ.Call) (h:rs[q]?=some none) (hc:c.ok):Mvd q k rs .none (rs.set q (some (i,⟨k,c,none⟩)))
 | ans (i:Nat) (w:Rw) (a:SJ.Ans) (h:rs[q]?=some (some (i,w))) (ha:Ans.fits w.c a):Mvd q k rs .none (rs.set q (some (i,{ w with t:=some a })))
 | cls (i:Nat) (w:Rw) (a:Option SJ.Ans) (h:rs[q]?=some (some (i,w))) (ha:∀ b,a=some b->Ans.fits w.c b):Mvd q k rs (Dd.mk q w.b w.c (some (k,a))).dat (rs.set q none)
def cA9 (rs:List (Option (Nat×Rw))):Prop:=∀ (q i:Nat) (w:Rw),rs[q]?=some (some (i,w))->w.c.ok/\∀ a,w.t=some a->Ans.fits w.c a
def MQ (q k n:Nat) (ds:List Dd) (rs:List (Option (Nat×Rw))) (H:aA) (x:Option (Fl×aA)):Prop:=∃ v H' st' rs',x.bind iU=some (.d v,H')/\Hs n st' rs' ds H'/\Mvd q k rs v rs'/\(∀ i,i < n->H'[i]?=H[i]?)/\rs'.length=rs.length
noncomputable def dM (n q:Nat) (c:Int) (k:Nat) (x5 x6 x7:Option W):DSt:=[some (.c (n+1)),some (.d (.int q)),some (.c n),some (.d (.int c)),some (.d (.int k)),x5,x6,x7]
@[simp] theorem cT7 (i:Nat):xIs (.c i) (.d .none)=some false:=rfl
@[simp] theorem yM (a:SJ.Ans):xIs (.d a.dat) (.d .none)=some false:=by
 cases a with
 | one a=>cases a<;>rfl
 | all ns=>rfl
 | each as=>rfl
def bA6 (d:Nat) (S:Hs n st rs ds H) (ro:cA9 rs) {q:Nat} (hq:q < rs.length) (c:Int) (k:Nat):∃ v H' st' rs',callW T (d+4) "_law_moved" [.c (n+1),.d (.int q),.c n,.d (.int c),.d (.int k)] H=some (.d v,H')/\Hs n st' rs' ds H'/\Mvd q k rs v rs'/\(∀ i,i < n->H'[i]?=H[i]?)/\rs'.length=rs.length:=by
 obtain ⟨o,ho⟩:∃ o,rs[q]?=some o:=⟨rs[q],by simp [hq]⟩;have hx:(rs.map rwW)[q]?=some (rwW o):=by rw [List.getElem?_map,ho];rfl
 have hqm:q < (rs.map rwW).length:=by simpa using hq
 have ix:=aO9 S.r hx;have hn1:=tP S.r;have dw:=lQ (d+2) H c k;obtain ⟨m,hm⟩:∃ m,m=dwF c k:=⟨_,rfl⟩;rw [<- hm] at dw;have e11:dP 11=true:=by decide
 rw [show d+4=(d+3)+1 from rfl,oK];show MQ q k n ds rs H _;refine syP (dM n q c k (some (rwW o)) none none) H (by simp [dM,ix]) ?_;refine syP (dM n q c k (some (rwW o)) (some (.d (.int m))) none) H (by simp [dM,dw]) ?_;cases o with
 | none =>
  have cl:=bO8 (d+1) H c (k+1);obtain ⟨cc,hcc⟩:∃ cc,cc=clF c (k+1):=⟨_,rfl⟩;have hco:cc.ok:=by rw [hcc];exact cA8 _ _
  rw [<- hcc] at cl;have r':wsC (n+1) (H++[Cell.l (Rw.dat ⟨k,cc,none⟩)])=some (rs.map rwW):=yL S.r (by rw [List.getElem?_append_left hn1]);obtain ⟨cel,e1,e2⟩:=bA5 r' hqm H.length (dM n q c k (some (.d .none)) (some (.d (.int m))) none);simp only [Rw.dat,tD,dM] at e1;refine syR (.d .none) ((H++[Cell.l (Rw.dat ⟨k,cc,none⟩)]).set (n+1) cel) (by simp [dM,rwW,cl,szl,e1,Rw.dat,tD]) ?_;refine ⟨.none,_,st,_,rfl,S.opn hq _ e2,.opn _ _ ho hco,fun i hi=>?_,by simp⟩;rw [List.getElem?_set_ne (by omega),List.getElem?_append_left (by omega)]
 | some p =>
  obtain ⟨i,w⟩:=p;obtain ⟨hi,hi'⟩:=S.own q i w ho;obtain ⟨wc,wt⟩:=ro q i w ho;have hil:=(List.getElem?_eq_some_iff.mp hi').1;have i0:∀ G:aA,G[i]?=some (.l w.dat)->xIx (.c i) (.d (.int 0)) G=some (.d (.int w.b),G):=fun G e=>by rw [lE e];simp [Rw.dat]
  have i1:∀ G:aA,G[i]?=some (.l w.dat)->xIx (.c i) (.d (.int 1)) G=some (.d w.c.dat,G):=fun G e=>by rw [lE e];simp [Rw.dat]
  have i2:∀ G:aA,G[i]?=some (.l w.dat)->xIx (.c i) (.d (.int 2)) G=some (.d (tD w.t),G):=fun G e=>by rw [lE e];simp [Rw.dat]
  have go:w.t.isNone=true/\0 < m%9\/¬ (w.t.isNone=true/\0 < m%9):=Classical.em _;rcases go with ⟨g1,g2⟩ | g
  ·obtain ⟨wb,wcc,wt'⟩:=w;cases wt' with
   | some a=>cases g1
   | none =>
   have dn:=bP0 (d+1) S.s S.sl wc;have hdn:(H.set n (.l ((dnC st wcc).2.map .int)))[i]?=some (.l (Rw.dat ⟨wb,wcc,none⟩)):=by rw [List.getElem?_set_ne (by omega)];exact hi'
   have hp:kB i (.int 2) (dnC st wcc).1.dat (dM n q c k (some (.c i)) (some (.d (.int m))) none) (H.set n (.l ((dnC st wcc).2.map .int)))=some (dM n q c k (some (.c i)) (some (.d (.int m))) none,(H.set n (.l ((dnC st wcc).2.map .int))).set i (.l (Rw.dat ⟨wb,wcc,some (dnC st wcc).1⟩))):=cP1 hdn (k:=2) (by simp [Rw.dat]) _ _;simp only [dM] at hp;dsimp only at i0 i1 i2 wc;obtain ⟨an,han⟩:∃ an,an=(dnC st wcc).1:=⟨_,rfl⟩;have i2':=i2 H hi';have i1':=i1 H hi';refine syP (dM n q c k (some (.c i)) (some (.d (.int m))) none) H (by simp [dM,rwW]) ?_;refine syR (.d .none) _ (by simp [dM,i2',i1',tD,g2,dn,hp,-gP];rfl) ?_;refine ⟨.none,_,_,_,rfl,S.ans ho (some (dnC st wcc).1) (bA3 S.sl),.ans i _ _ ho (aO6 wc S.sl),fun j hj=>?_,by simp⟩;rw [List.getElem?_set_ne (by omega),List.getElem?_set_ne (by omega)]
  ·obtain ⟨cel,e1,e2⟩:=bA4 S.r hqm .none (dM n q c k (some (.c i)) (some (.d (.int m))) none);simp only [dM] at e1;have i2':=i2 H hi';have hG:(H.set (n+1) cel)[i]?=some (.l w.dat):=by rw [List.getElem?_set_ne (by omega)];exact hi'
   have j0:=i0 _ hG;have j1:=i1 _ hG;have j2:=i2 _ hG;refine syP (dM n q c k (some (.c i)) (some (.d (.int m))) none) H (by simp [dM,rwW]) ?_;refine syP (dM n q c k (some (.c i)) (some (.d (.int m))) none) H ?_ ?_
   ·cases z:w.t with
    | some a=>rw [z] at i2';simp [dM,i2',tD]
    | none =>
     rw [z] at i2' g;have:¬ 0 < m%9:=fun z=>g ⟨rfl,z⟩;simp [dM,i2',tD,this]
   refine syP (dM n q c k (some (.c i)) (some (.d (.int m))) none) (H.set (n+1) cel) (by simp [dM,e1,-gP]) ?_;refine syP (dM n q c k (some (.c i)) (some (.d (.int m))) (some (.d (tD w.t)))) (H.set (n+1) cel) (by simp [dM,j2]) ?_;obtain ⟨a,ha,ea⟩:∃ a:Option SJ.Ans,(∀ b,a=some b->Ans.fits w.c b)/\∀ δ,δ=dM n q c k (some (.c i)) (some (.d (.int m))) (some (.d (tD w.t)))->YP (xC1 CmpOp.Is (aB 7) (YZ) δ (H.set (n+1) cel)) (fun p =>
        if p.1=true then
        YP (aR 7 (xb (xPl (Y1 (YS "refused"))) YT) δ p.2) YE
        else
        YP
         (YP (xC1 CmpOp.Eq (xb (aB 6) (YB .Mod 11)) (YJ 0) δ p.2) fun p =>
         if p.1=true then
          YP (aR 7 (xb (Y2 (aB 7) (xb (aB 6) (YB .FloorDiv 11))) (YF (d+3) "_law_bent")) δ p.2) YE
         else some (Fl.nx δ,p.2))
         YE)=some (.nx (dM n q c k (some (.c i)) (some (.d (.int m))) (some (.d (anD a)))),H.set (n+1) cel):=by
    cases z:w.t with
    | none=>exact ⟨none,(fun _ z=>nomatch z),fun δ hδ=>by subst hδ;simp [dM,tD,anD,bA0,szl]⟩
    | some b =>
     obtain ⟨b',f1,f2⟩:=bP1 (d+1) (H.set (n+1) cel) wc (wt b z) (m / 11);have f2:aD T (d+3) (Str.ofString "_law_bent") [.d b.dat,.d (.int (m / 11))] (H.set (n+1) cel)=some (b'.dat,H.set (n+1) cel):=f2
     by_cases y:m%11=0
     ·exact ⟨some b',fun _ e=>by injection e with e;subst e;exact f1,fun δ hδ=>by subst hδ;simp [dM,tD,anD,y,e11,f2]⟩
     ·exact ⟨some b,fun _ e=>by injection e with e;subst e;exact wt b z,fun δ hδ=>by subst hδ;simp [dM,tD,anD,y]⟩
   refine syP _ _ (ea _ rfl) ?_;have eR:(Dd.mk q w.b w.c (some (k,a))).dat=.tuple [.int q,.int w.b,.int k,w.c.dat,anD a]:=rfl;refine ⟨(Dd.mk q w.b w.c (some (k,a))).dat,H.set (n+1) cel,st,_,?_,S.cls e2,.cls i w a ho ha,fun j hj=>List.getElem?_set_ne (by omega),by simp⟩;rw [eR];simp [dM,j0,j1,szl]
end K47

namespace K47
open PySem PySem.Spec PyProof.Rows L2 DL CI SJ
structure Tm (k:Nat) (rs:List (Option (Nat×Rw))) (ds:List Dd):Prop where
 ok:∀ x∈ds,x.ok
 pw:ds.Pairwise Tog
 lt:∀ x∈ds,∃ p,x.fin=some p/\x.beg < k/\p.1 < k
 ro:cA9 rs
 rb:∀ (q i:Nat) (w:Rw),rs[q]?=some (some (i,w))->w.b < k/\∀ x∈ds,(w.b:Int)∉x.tms/\(x.hand=q->x.below w.b=true)
 rd:∀ (q q' i i':Nat) (w w':Rw),rs[q]?=some (some (i,w))->rs[q']?=some (some (i',w'))->q≠q'->w.b≠w'.b
variable {k:Nat} {rs:List (Option (Nat×Rw))} {ds:List Dd}
def Tm.tl (t:Tm k rs ds) {x:Dd} (hx:x∈ds):∀ z∈x.tms,z < (k:Int):=by
 obtain ⟨p,h1,h2,h3⟩:=t.lt x hx;intro z hz;simp only [Dd.tms,h1,List.mem_cons,List.not_mem_nil,or_false] at hz;omega
def Tm.keep (t:Tm k rs ds):Tm (k+1) rs ds:=⟨t.ok,t.pw,fun x hx=>by
 obtain ⟨p,h1,h2,h3⟩:=t.lt x hx;exact ⟨p,h1,by omega,by omega⟩,t.ro,fun q i w e=>⟨by have:=(t.rb q i w e).1;omega,(t.rb q i w e).2⟩,t.rd⟩
def set_some {q q':Nat} {o:Option (Nat×Rw)} {v:Option (Nat×Rw)} (e:(rs.set q o)[q']?=some v):(q=q'/\v=o)\/(q≠q'/\rs[q']?=some v):=by
 rw [List.getElem?_set] at e;split at e
 ·rename_i z;split at e
  ·injection e with e
   exact .inl ⟨z,e.symm⟩
  ·cases e
 ·rename_i z;exact .inr ⟨z,e⟩
def Tm.opn (t:Tm k rs ds) {q:Nat} (i:Nat) {c:SJ.Call} (hc:c.ok):Tm (k+1) (rs.set q (some (i,⟨k,c,none⟩))) ds:=by
 have t1:=t.keep;refine ⟨t.ok,t.pw,t1.lt,fun q' i' w e=>?_,fun q' i' w e=>?_,fun q1 q2 i1 i2 w1 w2 e1 e2 hn=>?_⟩
 ·rcases set_some e with ⟨_,e⟩ | ⟨_,e⟩
  ·injection e with e
   injection e with e1 e2
   subst e2;exact ⟨hc,fun _ z=>nomatch z⟩
  ·exact t.ro q' i' w e
 ·rcases set_some e with ⟨_,e⟩ | ⟨_,e⟩
  ·injection e with e
   injection e with e1 e2
   subst e2;refine ⟨Nat.lt_succ_self k,fun x hx=>⟨fun z=>?_,fun _=>?_⟩⟩
   ·have:=t.tl hx _ z;dsimp only at this;omega
   ·obtain ⟨p,h1,h2,h3⟩:=t.lt x hx;simp [Dd.below,h1,h3]
  ·exact t1.rb q' i' w e
 ·rcases set_some e1 with ⟨f1,e1⟩ | ⟨f1,e1⟩
  ·injection e1 with e1
   injection e1 with e1 e1'
   subst e1';rcases set_some e2 with ⟨f2,e2⟩ | ⟨f2,e2⟩
   ·omega
   ·have:=(t.rb _ _ _ e2).1;dsimp only;omega
  ·rcases set_some e2 with ⟨f2,e2⟩ | ⟨f2,e2⟩
   ·injection e2 with e2
    injection e2 with e2 e2'
    subst e2';have:=(t.rb _ _ _ e1).1;dsimp only;omega
   ·exact t.rd _ _ _ _ _ _ e1 e2 hn
def Tm.ans (t:Tm k rs ds) {q i:Nat} {w:Rw} (e:rs[q]?=some (some (i,w))) {a:SJ.Ans} (ha:Ans.fits w.c a):Tm (k+1) (rs.set q (some (i,{ w with t:=some a }))) ds:=by
 have t1:=t.keep;refine ⟨t.ok,t.pw,t1.lt,fun q' i' w' e'=>?_,fun q' i' w' e'=>?_,fun q1 q2 i1 i2 w1 w2 e1 e2 hn=>?_⟩
 ·rcases set_some e' with ⟨_,e'⟩ | ⟨_,e'⟩
  ·injection e' with e'
   injection e' with e1 e2
   subst e2;exact ⟨(t.ro q i w e).1,fun b z=>by injection z with z;subst z;exact ha⟩
  ·exact t.ro q' i' w' e'
 ·rcases set_some e' with ⟨f,e'⟩ | ⟨_,e'⟩
  ·injection e' with e'
   injection e' with e1 e2
   subst e2;subst f;exact t1.rb q i w e
  ·exact t1.rb q' i' w' e'
 ·rcases set_some e1 with ⟨f1,e1⟩ | ⟨f1,e1⟩
  ·injection e1 with e1
   injection e1 with e1 e1'
   subst e1';subst f1;rcases set_some e2 with ⟨f2,e2⟩ | ⟨f2,e2⟩
   ·omega
   ·have z:=t.rd _ _ _ _ _ _ e e2 hn;exact z
  ·rcases set_some e2 with ⟨f2,e2⟩ | ⟨f2,e2⟩
   ·injection e2 with e2
    injection e2 with e2 e2'
    subst e2';subst f2;have z:=t.rd _ _ _ _ _ _ e1 e hn;exact z
   ·exact t.rd _ _ _ _ _ _ e1 e2 hn
theorem yN {ds:List Dd} (h:ds.Pairwise Tog) {y:Dd} (hy:∀ x∈ds,Tog x y):(ds++[y]).Pairwise Tog:=by
 rw [List.pairwise_append];exact ⟨h,List.pairwise_singleton _ _,fun x hx z hz=>by rw [List.mem_singleton.mp hz];exact hy x hx⟩
def Tm.cls (t:Tm k rs ds) {q i:Nat} (hq:q<=5) {w:Rw} (e:rs[q]?=some (some (i,w))) {a:Option SJ.Ans} (ha:∀ b,a=some b->Ans.fits w.c b):Tm (k+1) (rs.set q none) (ds++[Dd.mk q w.b w.c (some (k,a))]):=by
 have t1:=t.keep;obtain ⟨b1,b2⟩:=t.rb q i w e;have un:∀ q' i' w',(rs.set q none)[q']?=some (some (i',w'))->q≠q'/\rs[q']?=some (some (i',w')):=fun q' i' w' z=>by
  rcases set_some z with ⟨_,z⟩ | z
  ·cases z
  ·exact z
 refine ⟨fun x hx=>?_,yN t.pw fun x hx=>⟨fun z z1 z2=>?_,?_⟩,fun x hx=>?_,fun q' i' w' e'=>t.ro q' i' w' (un _ _ _ e').2,fun q' i' w' e'=>?_,fun q1 q2 i1 i2 w1 w2 e1 e2 hn=>t.rd _ _ _ _ _ _ (un _ _ _ e1).2 (un _ _ _ e2).2 hn⟩
 ·rcases List.mem_append.mp hx with hx | hx
  ·exact t.ok x hx
  ·rw [List.mem_singleton.mp hx];exact ⟨hq,(t.ro q i w e).1,fun p z=>by injection z with z;subst z;exact ⟨b1,ha⟩⟩
 ·have:=t.tl hx z z1;simp only [Dd.tms,List.mem_cons,List.not_mem_nil,or_false] at z2;rcases z2 with z2 | z2
  ·subst z2;exact (b2 x hx).1 z1
  ·omega
 ·by_cases c:x.hand=q
  ·exact .inr (.inl ((b2 x hx).2 c))
  ·exact .inl c
 ·rcases List.mem_append.mp hx with hx | hx
  ·exact t1.lt x hx
  ·rw [List.mem_singleton.mp hx];exact ⟨_,rfl,Nat.lt_succ_of_lt b1,Nat.lt_succ_self k⟩
 ·obtain ⟨u1,u2⟩:=un _ _ _ e';obtain ⟨c1,c2⟩:=t1.rb q' i' w' u2;refine ⟨c1,fun x hx=>?_⟩;rcases List.mem_append.mp hx with hx | hx
  ·exact c2 x hx
  ·rw [List.mem_singleton.mp hx];refine ⟨fun z=>?_,fun z=>absurd z u1⟩;simp only [Dd.tms,List.mem_cons,List.not_mem_nil,or_false] at z;have n1:=t.rd _ _ _ _ _ _ e u2 u1;have n2:=(t.rb _ _ _ u2).1;omega
noncomputable def cnt (rs:List (Option (Nat×Rw))):Nat:=rs.countP Option.isSome
def rG {q:Nat} {o:Option (Nat×Rw)} (e:rs[q]?=some o) (v:Option (Nat×Rw)):cnt (rs.set q v)+(if o.isSome=true then 1 else 0)=cnt rs+(if v.isSome=true then 1 else 0):=by
 have hq:=(List.getElem?_eq_some_iff.mp e).1;have ev:=(List.getElem?_eq_some_iff.mp e).2;unfold cnt;rw [List.countP_set hq,ev];have:(if o.isSome=true then 1 else 0)<=rs.countP Option.isSome:=by
  split
  ·rename_i z;exact List.countP_pos_iff.mpr ⟨o,by rw [<- ev];exact List.getElem_mem hq,z⟩
  ·exact Nat.zero_le _
 omega
def Tm.step (t:Tm k rs ds) {q:Nat} (hq:q<=5) {v:PyData} {rs':List (Option (Nat×Rw))} (m:Mvd q k rs v rs') {most:Nat} (hc:ds.length+cnt rs<=most) (hb:(∃ p,rs[q]?=some (some p))\/ds.length+cnt rs < most) :
  (v=.none/\Tm (k+1) rs' ds/\ds.length+cnt rs'<=most)\/∃ x:Dd,v=x.dat/\Tm (k+1) rs' (ds++[x])/\(ds++[x]).length+cnt rs'<=most:=by
 cases m with
 | opn i c h hc' =>
  refine .inl ⟨rfl,t.opn i hc',?_⟩;have:=rG h (some (i,⟨k,c,none⟩));simp at this;rcases hb with ⟨p,hb⟩ | hb
  ·rw [h] at hb;cases hb
  ·omega
 | ans i w a h ha =>
  refine .inl ⟨rfl,t.ans h ha,?_⟩;have:=rG h (some (i,{ w with t:=some a }));simp at this;omega
 | cls i w a h ha =>
  refine .inr ⟨_,rfl,t.cls hq h ha,?_⟩;have:=rG h none;simp at this;simp;omega
end K47

namespace K47
open PySem PySem.Spec PyProof.Rows L2 DL CI SJ
def tQ (o:Option (Nat×Rw)):weq (rwW o) (rwW o)=true:=by
 cases o with
 | none=>rfl
 | some p=>simp [rwW,weq]
theorem yO:∀ rs:List (Option (Nat×Rw)),zT (rs.map rwW) (rs.map rwW)=true
 | []=>rfl
 | o::r=>by rw [List.map_cons,zT,tQ,yO r];rfl
theorem pO {α:Type} {g:XG} {tt:XR Bool} {te:XR W} {co:aA->Bool} {h:aA} (F:α->W) (p:α->Bool) (I:DSt->Prop) (hc:co h=true):∀ (qs:List α) (δ:DSt) (ac:List W),I δ ->
  (∀ q∈qs,∀ δ,I δ->∃ δ',g (F q) δ h=some (δ',h)/\I δ'/\tt δ' h=some (p q,h)/\te δ' h=some (F q,h))->eZ g tt te co (qs.map F) δ h ac=some (ac++(qs.filter p).map F,h)
 | [],δ,ac,_,_=>by simp [eZ,hc]
 | q::r,δ,ac,i,hx=>by
  obtain ⟨δ',e1,i',e2,e3⟩:=hx q List.mem_cons_self δ i;have ih:=fun ac=>pO F p I hc r δ' ac i' fun y hy=>hx y (List.mem_cons_of_mem _ hy);rw [List.map_cons,eZ,if_pos hc,e1];simp only [CI.bs,e2];cases hp:p q with
  | true=>rw [if_pos rfl,e3];simp only [CI.bs];rw [ih];simp [hp]
  | false=>rw [if_neg (by simp)];rw [ih];simp [hp]
noncomputable def dL (S:List Int) (f most hands n:Nat) (x5 x8 x9 x10 x11:Option W):DSt:=[some (.d (.list (S.map .int))),some (.d (.int f)),some (.d (.int most)),some (.d (.int hands)),some (.c n),x5,some (.c (n+1)),some (.c (n+2)),x8,x9,x10,x11]
def IL (S:List Int) (f most hands:Nat) (h:aA) (k:Nat) (δ:DSt) (H:aA):Prop:=∃ st rs ds,Hs h.length st rs ds H/\Tm k rs ds/\rs.length=hands/\ds.length+cnt rs<=most/\(∀ i,i < h.length->H[i]?=h[i]?)/\∃ x5 x8 x9 x10 x11,δ=dL S f most hands h.length x5 x8 x9 x10 x11
def Hs.app {n:Nat} {st:List Int} {rs:List (Option (Nat×Rw))} {ds:List Dd} {H:aA} (S:Hs n st rs ds H) (x:Dd):Hs n st rs (ds++[x]) (H.set (n+2) (.l ((ds++[x]).map Dd.dat))):=by
 obtain ⟨h1,h2,h3,h4,h5,h6⟩:=S;have hd:=(List.getElem?_eq_some_iff.mp h4).1;have oth:∀ i c',i≠n+2->H[i]?=some c'->(H.set (n+2) (.l ((ds++[x]).map Dd.dat)))[i]?=some c':=fun i c' hi e=>by
  rw [List.getElem?_set_ne (fun z=>hi z.symm),e]
 exact ⟨h1,oth _ _ (by omega) h2,yL h3 (List.getElem?_set_ne (by omega)),List.getElem?_set_self hd,fun q i w e=>⟨(h5 q i w e).1,oth _ _ (by have:=(h5 q i w e).1;omega) (h5 q i w e).2⟩,h6⟩
def aP0 {n:Nat} {st:List Int} {rs:List (Option (Nat×Rw))} {ds:List Dd} {H:aA} (S:Hs n st rs ds H) (hl:ds.length<=100) (x:PyData):lG "append" (.c (n+2)) H=true/\uK (.c (n+2)) [.d x] H=some (.d .none,H.set (n+2) (.l (ds.map Dd.dat++[x]))):=by
 have h4:=S.d;have:ds.length < 16777216:=by omega
 exact ⟨by simp [lG,h4],by simp [h4,szl,this]⟩
def ypE {α:Type} {x:Option α} {f:α->Option (Fl×aA)} {g:Fl×aA->Option (Fl×aA)} {P:DSt->aA->Prop} (a:α) (e:x=some a) (k:∃ δ2 h2,YP (f a) g=some (.nx δ2,h2)/\P δ2 h2):∃ δ2 h2,YP (YP x f) g=some (.nx δ2,h2)/\P δ2 h2:=by
 rw [e];exact k
def bA7 (d:Nat) (S:List Int) {f most hands:Nat} (h:aA) (hm:most<=100) (h0:0 < hands) (h6:hands<=6) {k:Nat} (hk:k < S.length) (x5 x8 x9 x10 x11:Option W) {st:List Int} {rs:List (Option (Nat×Rw))} {ds:List Dd} {H:aA}
  (hs:Hs h.length st rs ds H) (tm:Tm k rs ds) (hl:rs.length=hands) (hc:ds.length+cnt rs<=most) (hb:∀ i,i < h.length->H[i]?=h[i]?) :
  ∃ δ2 h2,bF (d+4) (dL S f most hands h.length x5 (some (.d (.int k))) x9 x10 x11) H=some (.nx δ2,h2)/\IL S f most hands h (k+1) δ2 h2:=by
 have dw:=lQ (d+3) H (S.getD k 0) 0;have ik:=jT hk;have hp:(0:Int) < hands:=by omega
 obtain ⟨q,hq,eq⟩:∃ q:Nat,q < hands/\dwF (S.getD k 0) 0%(hands:Int)=q:=by
  have a1:=Int.emod_nonneg (dwF (S.getD k 0) 0) (b:=(hands:Int)) (by omega);have a2:=Int.emod_lt_of_pos (dwF (S.getD k 0) 0) (b:=(hands:Int)) (by omega);exact ⟨(dwF (S.getD k 0) 0%(hands:Int)).toNat,by omega,by omega⟩
 obtain ⟨o,ho⟩:∃ o,rs[q]?=some o:=⟨rs[q]'(by omega),by simp [hl,hq]⟩;have hx:(rs.map rwW)[q]?=some (rwW o):=by rw [List.getElem?_map,ho];rfl
 obtain ⟨cv,hcv⟩:∃ cv,cv=S.getD k 0:=⟨_,rfl⟩;rw [<- hcv] at dw ik eq;obtain ⟨sd,esd⟩:∃ sd,sd=PyData.list (S.map .int):=⟨_,rfl⟩;have ikx:∀ H,xIx (.d sd) (.d (.int k)) H=some (.d (.int cv),H):=fun H=>by rw [esd];simp [ik]
 have eD:∀ x5 x8 x9 x10 x11,dL S f most hands h.length x5 x8 x9 x10 x11=[some (.d sd),some (.d (.int f)),some (.d (.int most)),some (.d (.int hands)),some (.c h.length),x5,some (.c (h.length+1)),some (.c (h.length+2)),x8,x9,x10,x11]:=fun x5 x8 x9 x10 x11=>by rw [esd];rfl
 have hp':0 < hands:=h0;unfold bF;refine sys (dL S f most hands h.length (some (.d (.int q))) (some (.d (.int k))) x9 x10 x11) H (by simp [eD,ikx,dw,hp',eq]) ?_
 -- how many have begun
 have hn1:=tP hs.r;obtain ⟨H1,hH1⟩:∃ H1,H1=H++[Cell.r ((rs.filter Option.isSome).map rwW)]:=⟨_,rfl⟩;have g1:∀ i c,H[i]?=some c->H1[i]?=some c:=fun i c e=>by rw [hH1,List.getElem?_append_left (List.getElem?_eq_some_iff.mp e).1,e]
 have hs1:Hs h.length st rs ds H1:=hs.go fun i c _ e=>g1 i c e;have hb1:∀ i,i < h.length->H1[i]?=h[i]?:=fun i hi=>by rw [hH1,List.getElem?_append_left (by omega)];exact hb i hi
 have cw:eZ (YG 0) (xC1 CmpOp.IsNot (aB 0) (YZ)) (aB 0) (coW (h.length+1) (rs.map rwW)) (rs.map rwW) [none] H []=some ((rs.filter Option.isSome).map rwW,H):=by
  rw [pO rwW Option.isSome (fun δ=>∃ u,δ=[u]) (by simp [coW,hs.r,yO]) rs [none] [] ⟨_,rfl⟩ fun o _ δ hδ=>?_]
  ·rfl
  ·obtain ⟨u,rfl⟩:=hδ;cases o with
   | none=>exact ⟨[some (.d .none)],by simp [rwW],⟨_,rfl⟩,by simp,by simp [rwW]⟩
   | some p=>exact ⟨[some (.c p.1)],by simp [rwW],⟨_,rfl⟩,by simp,by simp [rwW]⟩
 have l1:aY [.c (h.length+2)] H=some (.d (.int ds.length),H):=by
  have h4:=hs.d;simp [aY,ref,h4]
 have l2:aY [.c H.length] H1=some (.d (.int (cnt rs)),H1):=by
  have:H1[H.length]?=some (.r ((rs.filter Option.isSome).map rwW)):=by rw [hH1];simp
  simp [aY,ref,this,bG3,cnt,List.countP_eq_length_filter]
 simp only [cE,cQ] at cw;refine sys (dL S f most hands h.length (some (.d (.int q))) (some (.d (.int k))) (some (.d (.int (ds.length+cnt rs)))) x10 x11) H1 (by
  simp [eD,l1,hs.r,cw,<- hH1,l2]) ?_
 have ix1:=aO9 hs1.r hx;obtain ⟨v,H2,st',rs',mv,hs2,m2,hb2,hl2⟩:=bA6 d hs1 tm.ro (by omega:q < rs.length) cv k;have hb3:∀ i,i < h.length->H2[i]?=h[i]?:=fun i hi=>by rw [hb2 i hi];exact hb1 i hi
 have go:(∃ p,o=some p)\/ds.length+cnt rs < most\/(o=none/\¬ ds.length+cnt rs < most):=by
  cases o with
  | some p=>exact .inl ⟨p,rfl⟩
  | none =>
   by_cases z:ds.length+cnt rs < most
   ·exact .inr (.inl z)
   ·exact .inr (.inr ⟨rfl,z⟩)
 have mv:callW T (d+4) (Str.ofString "_law_moved") [.c (h.length+1),.d (.int q),.c h.length,.d (.int cv),.d (.int k)] H1=some (.d v,H2):=mv;have ok1:(∃ p,o=some p)\/ds.length+cnt rs < most->xb (xC1 CmpOp.IsNot (xb (aB 6) fun x=>xb (aB 5) (YX x)) (YZ)) (fun c=>if c=true then aC true else xC1 CmpOp.Lt (aB 9) (aB 2)) (dL S f most hands h.length (some (.d (.int q))) (some (.d (.int k))) (some (.d (.int (ds.length+cnt rs)))) x10 x11) H1=some (true,H1):=by
  rintro (⟨p,rfl⟩ | z)
  ·simp [eD,ix1,rwW]
  ·cases o with
   | some p=>simp [eD,ix1,rwW]
   | none =>
    have z':(ds.length:Int)+cnt rs < most:=by omega
    simp [eD,ix1,rwW,z']
 by_cases c1:(∃ p,o=some p)\/ds.length+cnt rs < most
 ·have ok2:=ok1 c1;have hb':(∃ p,rs[q]?=some (some p))\/ds.length+cnt rs < most:=by
   rcases c1 with ⟨p,rfl⟩ | c1
   ·exact .inl ⟨p,ho⟩
   ·exact .inr c1
  refine ypE (true,H1) ok2 ?_;rcases tm.step (by omega:q<=5) m2 hc hb' with ⟨rfl,t2,c2⟩ | ⟨x,rfl,t2,c2⟩
  ·refine ⟨dL S f most hands h.length (some (.d (.int q))) (some (.d (.int k))) (some (.d (.int (ds.length+cnt rs)))) (some (.d .none)) x11,H2,by simp [eD,ikx,mv],st',rs',ds,hs2,t2,by omega,c2,hb3,_,_,_,_,_,rfl⟩
  ·obtain ⟨a1,a2⟩:=aP0 hs2 (by omega) x.dat;have hs3:=hs2.app x;rw [List.map_append] at hs3;have xn:xIs (.d x.dat) (.d .none)=some false:=rfl;refine ⟨dL S f most hands h.length (some (.d (.int q))) (some (.d (.int k))) (some (.d (.int (ds.length+cnt rs)))) (some (.d x.dat)) x11,H2.set (h.length+2) (.l (ds.map Dd.dat++[x.dat])),?_,st',rs',ds++[x],hs3,t2,by omega,c2,fun i hi=>?_,_,_,_,_,_,rfl⟩
   ·have h4:=hs2.d;have hz:ds.length < 16777216:=by omega
    obtain ⟨dx,edx⟩:∃ dx,dx=x.dat:=⟨_,rfl⟩;rw [<- edx] at mv xn a2 ⊢;simp [eD,ikx,mv,xn,a1,h4,szl,hz]
   ·rw [List.getElem?_set_ne (by omega)];exact hb3 i hi
 ·have n1:o=none:=by
   cases o with
   | none=>rfl
   | some p=>exact (c1 (.inl ⟨p,rfl⟩)).elim
  subst n1;have n2:¬ ((ds.length:Int)+cnt rs < most):=fun z=>c1 (.inr (by omega));refine ⟨dL S f most hands h.length (some (.d (.int q))) (some (.d (.int k))) (some (.d (.int (ds.length+cnt rs)))) x10 x11,H1,by simp [eD,ix1,rwW,n2],st,rs,ds,hs1,tm.keep,by omega,hc,hb1,_,_,_,_,_,rfl⟩
end K47

namespace K47
open PySem PySem.Spec PyProof.Rows L2 DL CI SJ
noncomputable def nI (k:Nat):PyData:=.int k
noncomputable def byI {α:Type} (k:α->Int) (qs:List α):List α:=qs.mergeSort fun a b=>decide (k a<=k b)
def bE6 {α:Type} (k:α->Int) (F:α->PyData) (qs:List α):kY (qs.map k) (qs.map F)=(byI k qs).map F:=by
 unfold kY bC7 byI;have e:((qs.map k).map fun x=>-x).zip (qs.map F)=qs.map fun q=>(-(k q),F q):=by
  rw [List.map_map,List.zip_map'];rfl
 rw [e];have:=List.map_mergeSort (f:=fun q=>(-(k q),F q)) (r:=fun a b=>decide (k a<=k b)) (s:=fun a b:Int×PyData=>decide (b.1<=a.1)) (l:=qs) fun a _ b _=>by
  have:k a<=k b ↔ -(k b)<=-(k a):=by omega
  simp only [this]
 rw [<- this,List.map_map];rfl
def nP {α:Type} (k:α->Int) (qs:List α):(byI k qs).Perm qs:=List.mergeSort_perm _ _
def aD1 {α:Type} {k k':α->Int} {qs:List α} (h:∀ a∈qs,∀ b∈qs,(k a<=k b ↔ k' a<=k' b)):byI k qs=byI k' qs:=by
 unfold byI;have:=List.map_mergeSort (f:=fun q:α=>q) (r:=fun a b=>decide (k a<=k b)) (s:=fun a b=>decide (k' a<=k' b)) (l:=qs) fun a ha b hb=>by
  simp only [h a ha b hb]
 simpa using this
noncomputable def prI (f:Nat->Int) (i:Nat):PyData:=.tuple [.int (f i),.int i]
theorem aP1 (f:Nat->Int):∀ qs:List Nat,(∀ i∈qs,i < 1000)->zR (qs.map (prI f))=some (qs.map fun i=>f i*1000+i)
 | [],_=>rfl
 | i::r,h=>by
  have hi:=h i List.mem_cons_self;have c:(0:Int)<=(i:Int)/\(i:Int) < 1000:=by omega
  have e:(prS (prI f i)).map (·.1)=some (f i*1000+(i:Int)):=by
   simp [prS,prI,c]
  rw [List.map_cons,zR,e,aP1 f r fun j hj=>h j (List.mem_cons_of_mem _ hj)];rfl
def bE7 (f:Nat->Int) {qs:List Nat} (h:∀ i∈qs,i < 1000) (nd:qs.Nodup) (hl:qs.length < 64) (H:aA):lF [.d (.list (qs.map (prI f)))] H=some ((byI (fun i=>f i*1000+i) qs).map (prI f),H):=by
 have e:zS (qs.map (prI f))=some ((byI (fun i=>f i*1000+i) qs).map (prI f)):=by
  cases qs with
  | nil =>
   show (some ((ST.srt []).map PyData.int):Option (List PyData))=_;simp [ST.srt,byI]
  | cons a r =>
   unfold zS;have n:bD ((a::r).map (prI f))=none:=rfl;rw [n];simp only [aP1 f _ h,CI.bs];have nd':((a::r).map fun i=>f i*1000+(i:Int)).Nodup:=by
    refine List.pairwise_map.mpr (nd.imp_of_mem fun {x y} hx hy hn z=>?_);have:=h x hx;have:=h y hy;exact hn (by omega)
   rw [if_pos ⟨nd',by simpa using hl⟩,bE6]
 unfold lF;simp only [ref,e,Option.map_some]
structure HOk (hs:List Dd):Prop where
 ok:∀ x∈hs,x.ok
 pw:hs.Pairwise Tog
 len:hs.length<=60
def HOk.perm {hs gs:List Dd} (p:gs.Perm hs) (h:HOk hs):HOk gs:=⟨fun x hx=>h.ok x (p.mem_iff.mp hx),(p.pairwise_iff fun h=>h.symm).mpr h.pw,by rw [p.length_eq];exact h.len⟩
def Sm (hs:List Dd):Prop:=∀ x∈hs,x.beg < 10000/\∀ p,x.fin=some p->p.1 < 10000
theorem Sm.perm {hs gs:List Dd} (p:gs.Perm hs) (h:Sm hs):Sm gs:=fun x hx=>h x (p.mem_iff.mp hx)
noncomputable def dfD:Dd:=⟨0,0,.span 0 1,none⟩
def aD2 (ds:List Dd):(List.range ds.length).map (fun i=>ds.getD i dfD)=ds:=by
 apply List.ext_getElem
 ·simp
 ·intro i h1 h2;simp [List.getD,show i < ds.length by simpa using h1]
def bE8 {ds:List Dd} {i:Nat} (hi:i < ds.length):atI (ds.map Dd.dat) (i:Int)=some (ds.getD i dfD).dat:=bO (by simp [List.getD,hi])
def tR (n:Nat):rng 0 n=(List.range n).map nI:=by
 rw [aZ8];rfl
def aP2 (d:Nat) {h H:aA} (S:List Int) {j:Nat} {ds:List Dd} (hj:H[j]?=some (.l (ds.map Dd.dat))) (hl:ds.length<=60) :
  ∃ L:List Nat,L.Perm (List.range ds.length) /\
  (∀ x0:Option W,aN (YG 0) (aC true) (xb (xPl (Y2 (xb (Y2 (xb (Y2 (aB 1) (YJ 0)) (YF (d+1) "_law_cell_at")) (aB 0)) (YF (d+1) "_law_drawn")) (aB 0))) YT) none (rng 0 ds.length) (rng 0 ds.length) [x0,some (.d (.list (S.map .int)))] H []=some ((List.range ds.length).map (prI fun i=>dwF (clS S 0) i),H)) /\
  lF [.d (.list ((List.range ds.length).map (prI fun i=>dwF (clS S 0) i)))] H=some (L.map (prI fun i=>dwF (clS S 0) i),H) /\
  (∀ x0 x1:Option W,aN (aO [YG 0,YG 1]) (aC true) (xb (aB 2) fun x=>xb (aB 1) (YX x)) none (L.map (prI fun i=>dwF (clS S 0) i)) (L.map (prI fun i=>dwF (clS S 0) i)) [x0,x1,some (.c j)] H []=some ((L.map fun i=>ds.getD i dfD).map Dd.dat,H)):=by
 have c0:=aO1 d H S 0;have dw:=fun k=>lQ d H (clS S 0) k;obtain ⟨sd,esd⟩:∃ sd,sd=PyData.list (S.map .int):=⟨_,rfl⟩;rw [<- esd] at c0;refine ⟨byI (fun i:Nat=>dwF (clS S 0) i*1000+i) (List.range ds.length),nP _ _,fun x0=>?_,bE7 _ (fun i hi=>by have:=List.mem_range.mp hi;omega) List.nodup_range (by simp;omega) H,fun x0 x1=>?_⟩
 ·rw [tR,<- esd];rw [cmM nI (prI fun i=>dwF (clS S 0) i) (fun δ=>∃ u,δ=[u,some (.d sd)]) _ _ ⟨_,rfl⟩ fun i hi δ hδ=>?_];obtain ⟨u,rfl⟩:=hδ;have c0':aD T (d+1) (Str.ofString "_law_cell_at") [.d sd,.d (.int 0)] H=some (.int (clS S 0),H):=c0;refine ⟨_,rfl,⟨_,rfl⟩,?_⟩;simp [nI,prI,c0',dw,szl]
 ·have mem:∀ i∈byI (fun i:Nat=>dwF (clS S 0) i*1000+i) (List.range ds.length),i < ds.length:=fun i hi=>List.mem_range.mp ((nP _ _).mem_iff.mp hi);generalize byI (fun i:Nat=>dwF (clS S 0) i*1000+i) (List.range ds.length)=L at mem;rw [cmM (prI fun i=>dwF (clS S 0) i) (fun i=>(ds.getD i dfD).dat) (fun δ=>∃ u v,δ=[u,v,some (.c j)]) L _ ⟨_,_,rfl⟩ fun i hi δ hδ=>?_]
  ·rw [List.map_map];rfl
  ·obtain ⟨u,v,rfl⟩:=hδ;refine ⟨[some (.d (.int (dwF (clS S 0) i))),some (.d (.int i)),some (.c j)],by simp [prI,aO,cD],⟨_,_,rfl⟩,?_⟩;have:=bE8 (mem i hi);have ix:=lE hj (i:Int);rw [this] at ix;simp [ix]
def kQ {ds:List Dd} {L:List Nat} (p:L.Perm (List.range ds.length)):(L.map fun i=>ds.getD i dfD).Perm ds:=by
 have:=p.map fun i=>ds.getD i dfD
 rwa [aD2] at this
end K47

namespace K47
open PySem PySem.Spec PyProof.Rows L2 DL CI SJ
def IE (S:List Int) (f most hands:Nat) (h:aA) (st:List Int) (rs:List (Option (Nat×Rw))) (m:Nat) (δ:DSt) (H:aA):Prop:=∃ ds:List Dd,Hs h.length st rs ds H/\(∀ x∈ds,x.ok)/\ds.Pairwise Tog/\ds.length+cnt (rs.drop m)<=most /\
 (∀ (q i:Nat) (w:Rw),m<=q->rs[q]?=some (some (i,w))->∀ x∈ds,(w.b:Int)∉x.tms/\(x.hand=q->x.below w.b=true))/\(∀ i,i < h.length->H[i]?=h[i]?)/\Sm ds/\∃ x5 x8 x9 x10 x11,δ=dL S f most hands h.length x5 x8 x9 x10 x11
def aP3 {rs:List (Option (Nat×Rw))} {m:Nat} {o:Option (Nat×Rw)} (e:rs[m]?=some o):cnt (rs.drop m)=cnt (rs.drop (m+1))+(if o.isSome=true then 1 else 0):=by
 obtain ⟨hm,ev⟩:=List.getElem?_eq_some_iff.mp e;rw [List.drop_eq_getElem_cons hm,ev];unfold cnt;rw [List.countP_cons]
def bP2 (d:Nat) (S:List Int) {f most hands:Nat} (h:aA) (hm:most<=100) (h6:hands<=6) {k m:Nat} (hk:k<=10000) {st:List Int} {rs:List (Option (Nat×Rw))} {ds0:List Dd} (tm:Tm k rs ds0) (hl:rs.length=hands) (hq:m < hands) {δ:DSt} {H:aA} (I:IE S f most hands h st rs m δ H) :
  ∃ δ1 h1,YG 5 (.d (nI m)) δ H=some (δ1,h1)/\∃ δ2 h2,bE d δ1 h1=some (.nx δ2,h2)/\IE S f most hands h st rs (m+1) δ2 h2:=by
 obtain ⟨ds,hs,ok,pw,hc,rb,hb,sm,x5,x8,x9,x10,x11,rfl⟩:=I;refine ⟨_,_,rfl,?_⟩;obtain ⟨o,ho⟩:∃ o,rs[m]?=some o:=⟨rs[m]'(by omega),by simp [hl,hq]⟩;have hx:(rs.map rwW)[m]?=some (rwW o):=by rw [List.getElem?_map,ho];rfl
 have ix:=aO9 hs.r hx;have cd:=aP3 ho;obtain ⟨sd,esd⟩:∃ sd,sd=PyData.list (S.map .int):=⟨_,rfl⟩;have eD:∀ x5 x8 x9 x10 x11,dL S f most hands h.length x5 x8 x9 x10 x11=[some (.d sd),some (.d (.int f)),some (.d (.int most)),some (.d (.int hands)),some (.c h.length),x5,some (.c (h.length+1)),some (.c (h.length+2)),x8,x9,x10,x11]:=fun x5 x8 x9 x10 x11=>by rw [esd];rfl
 unfold bE;cases o with
 | none =>
  refine ⟨dL S f most hands h.length (some (.d (nI m))) x8 x9 x10 x11,H,by simp [eD,nI,ix,rwW],ds,hs,ok,pw,by simp at cd;omega,fun q i w hq' e=>rb q i w (by omega) e,hb,sm,_,_,_,_,_,rfl⟩
 | some p =>
  obtain ⟨i,w⟩:=p;simp at cd;obtain ⟨hi,hi'⟩:=hs.own m i w ho;obtain ⟨wc,_⟩:=tm.ro m i w ho;have i0:xIx (.c i) (.d (.int 0)) H=some (.d (.int w.b),H):=by rw [lE hi'];simp [Rw.dat]
  have i1:xIx (.c i) (.d (.int 1)) H=some (.d w.c.dat,H):=by rw [lE hi'];simp [Rw.dat]
  obtain ⟨a1,a2⟩:=aP0 hs (by omega) (Dd.mk m w.b w.c none).dat;have hs3:=hs.app (Dd.mk m w.b w.c none);rw [List.map_append] at hs3;have h4:=hs.d;have hz:ds.length < 16777216:=by omega
  have eR:(Dd.mk m w.b w.c none).dat=.tuple [.int m,.int w.b,.none,w.c.dat,.none]:=rfl;refine ⟨dL S f most hands h.length (some (.d (nI m))) x8 x9 x10 x11,H.set (h.length+2) (.l (ds.map Dd.dat++[(Dd.mk m w.b w.c none).dat])),?_,ds++[Dd.mk m w.b w.c none],hs3,fun x hx=>?_,yN pw fun x hx=>?_,?_,fun q' i' w' hq' e x hx=>?_,fun j hj=>?_,fun x hx=>?_,_,_,_,_,_,rfl⟩
  ·rw [eR];simp [eD,nI,ix,rwW,i0,i1,a1,h4,szl,hz]
  ·rcases List.mem_append.mp hx with hx | hx
   ·exact ok x hx
   ·rw [List.mem_singleton.mp hx];exact ⟨by dsimp only;omega,wc,fun _ z=>nomatch z⟩
  ·obtain ⟨b1,b2⟩:=rb m i w (Nat.le_refl m) ho x hx;refine ⟨fun z z1 z2=>?_,?_⟩
   ·simp only [Dd.tms,List.mem_cons,List.not_mem_nil,or_false] at z2;subst z2;exact b1 z1
   ·by_cases c:x.hand=m
    ·exact .inr (.inl (b2 c))
    ·exact .inl c
  ·simp;omega
  ·rcases List.mem_append.mp hx with hx | hx
   ·exact rb q' i' w' (by omega) e x hx
   ·rw [List.mem_singleton.mp hx];have n1:=tm.rd _ _ _ _ _ _ ho e (by omega);refine ⟨fun z=>?_,fun z=>?_⟩
    ·simp only [Dd.tms,List.mem_cons,List.not_mem_nil,or_false] at z;omega
    ·dsimp only at z;omega
  ·rw [List.getElem?_set_ne (by omega)];exact hb j hj
  ·rcases List.mem_append.mp hx with hx | hx
   ·exact sm x hx
   ·rw [List.mem_singleton.mp hx];have:=(tm.rb m i w ho).1;exact ⟨by dsimp only;omega,fun _ z=>nomatch z⟩
def aP4 (n:Nat):cnt (List.replicate n none)=0:=by
 unfold cnt;rw [List.countP_replicate];rfl
def RH (h:aA) (m:Nat) (x:Option (Fl×aA)):Prop:=∃ hs:List Dd,HOk hs/\Sm hs/\hs.length<=m/\x.bind (aJ h)=some (.tuple (hs.map Dd.dat),h)
def aQ {h H:aA} {z:PyData} (hb:∀ i,i < h.length->H[i]?=h[i]?) (hl:h.length<=H.length):aJ h (.rt (.d z),H)=some (z,h):=by
 have ok:okP h H:=fun i c hi e=>.inr (by rw [<- hb i hi];exact e);have tk:H.take h.length=h:=by
  apply List.ext_getElem?;intro i;rw [List.getElem?_take];split
  ·rename_i z;exact hb i z
  ·rename_i z;rw [List.getElem?_eq_none (by omega)]
 rw [qY,if_pos ok,tk]
def aD3 (d:Nat) (h:aA) (S:List Int) {f most hands:Nat} (hf:f<=63) (hm:most<=60) (h0:0 < hands) (h6:hands<=6):∃ hs:List Dd,HOk hs/\Sm hs/\hs.length<=most/\aD T (d+5) "_law_history" [.d (.list (S.map .int)),.d (.int f),.d (.int most),.d (.int hands)] h=some (.tuple (hs.map Dd.dat),h):=by
 rw [show d+5=(d+4)+1 from rfl,nF];show RH h most _;obtain ⟨sd,esd⟩:∃ sd,sd=PyData.list (S.map .int):=⟨_,rfl⟩;have eD:∀ n x5 x8 x9 x10 x11,dL S f most hands n x5 x8 x9 x10 x11=[some (.d sd),some (.d (.int f)),some (.d (.int most)),some (.d (.int hands)),some (.c n),x5,some (.c (n+1)),some (.c (n+2)),x8,x9,x10,x11]:=fun n x5 x8 x9 x10 x11=>by rw [esd];rfl
 have lS:∀ H,aY [.d sd] H=some (.d (.int S.length),H):=fun H=>by rw [esd];simp
 rw [<- esd];have erh:cU 0 hands=true:=bN (by omega) (by omega);refine syP [some (.d sd),some (.d (.int f)),some (.d (.int most)),some (.d (.int hands)),some (.c h.length),none,none,none,none,none,none,none] (h++[.l ([0,0,0,0,0,0,0,0].map .int)]) (by simp [szl]) ?_;refine syP [some (.d sd),some (.d (.int f)),some (.d (.int most)),some (.d (.int hands)),some (.c h.length),none,some (.c (h.length+1)),none,none,none,none,none] (h++[.l ([0,0,0,0,0,0,0,0].map .int),.l ((List.range hands).map fun _=>.none)]) ?_ ?_
 ·simp [erh];rw [tR,cmM nI (fun _=>.none) (fun δ=>∃ u,δ=[u]) _ _ ⟨_,rfl⟩ fun i hi δ hδ=>?_]
  ·simp
  ·obtain ⟨u,rfl⟩:=hδ;exact ⟨_,rfl,⟨_,rfl⟩,rfl⟩
 obtain ⟨H0,hH0⟩:∃ H0,H0=h++[Cell.l ([0,0,0,0,0,0,0,0].map .int),.l ((List.range hands).map fun _=>.none),.l []]:=⟨_,rfl⟩;refine syP (dL S f most hands h.length none none none none none) H0 (by simp [eD,hH0]) ?_;have hs0:Hs h.length [0,0,0,0,0,0,0,0] (List.replicate hands none) [] H0:=by
  have none_:∀ (q i:Nat) (w:Rw),(List.replicate hands (none:Option (Nat×Rw)))[q]?=some (some (i,w))->False:=fun q i w e=>by
   rw [List.getElem?_replicate] at e;split at e<;>cases e
  refine ⟨rfl,by rw [hH0];simp,?_,by rw [hH0];simp,fun q i w e=>(none_ q i w e).elim,fun q q' i w w' e=>(none_ q i w e).elim⟩;have e1:H0[h.length+1]?=some (.l ((List.range hands).map fun _=>.none)):=by rw [hH0];simp
  have e2:wsC (h.length+1) H0=some (((List.range hands).map fun _=>PyData.none).map W.d):=by unfold wsC;rw [e1]
  rw [e2]
  congr 1
  apply List.ext_getElem
  ·simp
  ·intro i z1 z2;simp [rwW]
 have tm0:Tm f (List.replicate hands none) []:=by
  have none_:∀ (q i:Nat) (w:Rw),(List.replicate hands (none:Option (Nat×Rw)))[q]?=some (some (i,w))->False:=fun q i w e=>by
   rw [List.getElem?_replicate] at e;split at e<;>cases e
  exact ⟨(fun _ z=>nomatch z),.nil,(fun _ z=>nomatch z),fun q i w e=>(none_ q i w e).elim,fun q i w e=>(none_ q i w e).elim,fun q q' i i' w w' e=>(none_ q i w e).elim⟩
 have b0:∀ i,i < h.length->H0[i]?=h[i]?:=fun i hi=>by rw [hH0,List.getElem?_append_left hi]
 -- the draws
 obtain ⟨top,htop⟩:∃ top,top=min S.length 63:=⟨_,rfl⟩;have et:min (S.length:Int) 63=(top:Nat):=by omega
 refine syE (IL S f most hands h (f+(top - f))) ?_ ?_
 ·have er:cU f top=true:=mX (by omega) (by omega);have tn:((top:Int) - (f:Int)).toNat=top - f:=by omega
  refine aO8 ((rng f (top - f),none),H0) (by simp [eD,lS,xMn,et,er,tn]) ?_;show ∃ δ2 h2,bJ (YG 8) (bF (d+4)) none (rng f (top - f)) (rng f (top - f)) _ _=some (.nx δ2,h2)/\_;refine gA (fun m δ H=>IL S f most hands h (f+m) δ H) ⟨_,_,_,hs0,tm0,by simp,by rw [aP4];simp,b0,_,_,_,_,_,rfl⟩ (fun δ H=>by rw [CI.rng_len];exact id) fun m hm δ H=>?_;rintro ⟨st,rs,ds,hs,tm,hl,hc,hb,x5,x8,x9,x10,x11,rfl⟩;have hm':m < top - f:=by simpa [rng] using hm
  have em:(rng f (top - f))[m]=nI (f+m):=by simp [rng,nI]
  rw [em];exact ⟨_,_,rfl,bA7 d S h (by omega) h0 h6 (by omega:f+m < S.length) x5 x8 x9 x10 x11 hs tm hl hc hb⟩
 rintro _ H1 ⟨st,rs,ds,hs,tm,hl,hc,hb,x5,x8,x9,x10,x11,rfl⟩
 -- what never ended
 refine syE (IE S f most hands h st rs hands) ?_ ?_
 ·refine aO8 ((rng 0 hands,none),H1) (by simp [eD,erh]) ?_;show ∃ δ2 h2,bJ (YG 5) (bE (d+4)) none (rng 0 hands) (rng 0 hands) _ _=some (.nx δ2,h2)/\_;rw [tR];refine gA (fun m δ H=>IE S f most hands h st rs m δ H) ⟨ds,hs,tm.ok,tm.pw,by simpa using hc,fun q i w _ e=>(tm.rb q i w e).2,hb,(fun x hx=>by obtain ⟨p,h1,h2,h3⟩:=tm.lt x hx;exact ⟨by omega,fun p' e=>by rw [h1] at e;injection e with e;subst e;omega⟩),_,_,_,_,_,rfl⟩ (fun δ H=>by simp) fun m hm δ H I=>?_;have hm':m < hands:=by simpa using hm
  have em:((List.range hands).map nI)[m]=nI m:=by simp
  rw [em];exact bP2 (d+4) S h (by omega) h6 (by omega) tm hl hm' I
 rintro _ H2 ⟨ds,hs,ok,pw,hc,rb,hb,sm,x5,x8,x9,x10,x11,rfl⟩;have hd:=hs.d;have hln:ds.length<=60:=by omega
 obtain ⟨L,p,t1,t2,t3⟩:=aP2 (d+3) (h:=h) S hd hln;have lD:aY [.c (h.length+2)] H2=some (.d (.int ds.length),H2):=by simp [aY,ref,hd]
 have er2:cU 0 ds.length=true:=bN (by omega) (by omega);rw [<- esd] at t1;have t1':=t1 none;have t3':=t3 none none;simp only [cE,cH,cP,cO,cR,cT,cS,cM,cN,bdi,show d+3+1=d+4 from rfl] at t1' t3';refine syP (dL S f most hands h.length x5 x8 x9 x10 (some (.d (.list (L.map (prI fun i=>dwF (clS S 0) i)))))) H2 (by
  simp [eD,lD,er2,t1',t2]) ?_
 refine ⟨L.map fun i=>ds.getD i dfD,HOk.perm (kQ p) ⟨ok,pw,hln⟩,sm.perm (kQ p),by rw [(kQ p).length_eq];omega,?_⟩;have hH2:=(List.getElem?_eq_some_iff.mp hd).1;have ek:=fun z=>aQ (z:=z) hb (by omega);simp [eD,t3',ek]
end K47

namespace K47
open PySem PySem.Spec PyProof.Rows L2 DL CI SJ
def gD (hs:List Dd) (i:Nat):Dd:=hs.getD i dfD
def kR {hs:List Dd} {i:Nat} (hi:i < hs.length):gD hs i∈hs:=by
 unfold gD;rw [List.getD_eq_getElem?_getD,List.getElem?_eq_getElem hi];exact List.getElem_mem hi
def wA {hs:List Dd} {i:Nat} (hi:i < hs.length):hs[i]=gD hs i:=by simp [gD,List.getD,hi]
def aP5 {hs:List Dd} (h:hs.Pairwise Tog) {i j:Nat} (hi:i < hs.length) (hj:j < hs.length) (hn:i≠j):Tog (gD hs i) (gD hs j):=by
 rw [<- wA hi,<- wA hj];rcases Nat.lt_or_gt_of_ne hn with z | z
 ·exact List.pairwise_iff_getElem.mp h i j hi hj z
 ·exact (List.pairwise_iff_getElem.mp h j i hj hi z).symm
def nmD (hs:List Dd) (i:Nat):PyData:=.tuple [.int i,(gD hs i).dat]
theorem yP:∀ (xs:List PyData) (k:Nat),iS k xs=(List.range xs.length).map fun i=>.tuple [.int (k+i:Nat),xs.getD i .none]
 | [],k=>rfl
 | x::r,k=>by
  rw [iS,yP r (k+1),List.length_cons,List.range_succ_eq_map,List.map_cons,List.map_map]
  congr 1
  refine List.map_congr_left fun i _=>?_;simp;omega
def yQ (hs:List Dd):dY (hs.map Dd.dat)=(List.range hs.length).map (nmD hs):=by
 unfold dY;rw [yP,List.length_map];refine List.map_congr_left fun i hi=>?_;have hi:=List.mem_range.mp hi;simp [nmD,gD,List.getD,hi]
variable (d:Nat) (h:aA)
def ypS {α β:Type} {x:Option α} {f:α->Option β} {R:Option β} (a:α) (e:x=some a) (k:f a=R):YP x f=R:=by
 rw [e];exact k
def ypQ {α β:Type} {Q:Option β->Prop} {x:Option α} {f:α->Option β} (a:α) (e:x=some a) (k:Q (f a)):Q (YP x f):=by
 rw [e];exact k
def QL (h:aA) (x:Option (Fl×aA)):Prop:=x.bind (aJ h)=some (.none,h)
def tS {hs:List Dd} (ok:HOk hs):aD T (d+11) "look_over" [.d (.tuple (hs.map Dd.dat))] h=some (.none,h):=by
 have eS:∀ δ:DSt,aJ h (.nx δ,h)=some (.none,h):=fun δ=>by
  rw [aN2,if_pos (dO h),List.take_of_length_le (Nat.le_refl _)]
 obtain ⟨ht,eht⟩:∃ ht,ht=PyData.tuple (hs.map Dd.dat):=⟨_,rfl⟩;have xe:∀ H,lY (.d ht) H=some (((List.range hs.length).map (nmD hs),none),H):=fun H=>by rw [eht,aN1,yQ]
 have nd:noD ht=true:=by rw [eht];rfl
 have it:isi ht "tuple"=true:=by rw [eht];rfl
 have ln:aY [.d ht] h=some (.d (.int hs.length),h):=by rw [eht];simp
 have n60:¬ (60:Int) < hs.length:=by have:=ok.len;omega
 have cu:∀ i,i < hs.length->xSl (.d ht) none (some (i:Int)) h=some (.d (.tuple ((hs.map Dd.dat).take i)),h):=fun i hi=>by
  have:=vZ (hs.map Dd.dat) (m:=i) (by simp;omega);rw [eht];show some (W.d (.tuple (cut (hs.map Dd.dat) none (some (i:Int)))),h)=_;rw [this]
 rw [<- eht,show d+11=(d+10)+1 from rfl,tH];have l1:∃ δ' h',bJ (aO [YG 1,YG 2]) (gE (d+10)) none ((List.range hs.length).map (nmD hs)) ((List.range hs.length).map (nmD hs)) [some (.d ht),none,none,none] h=some (.nx δ',h')/\((∃ x1 x2 x3,δ'=[some (.d ht),x1,x2,x3])/\h'=h):=by
  refine pC (fun δ H=>(∃ x1 x2 x3,δ=[some (.d ht),x1,x2,x3])/\H=h) _ ?_ _ _ ⟨⟨_,_,_,rfl⟩,rfl⟩;rintro x hx δ H ⟨⟨x1,x2,x3,rfl⟩,rfl⟩;obtain ⟨i,hi,rfl⟩:=List.mem_map.mp hx;have hi:=List.mem_range.mp hi;have cd:=aD0 d H (gD hs i) (ok.ok _ (kR hi));refine ⟨[some (.d ht),some (.d (.int i)),some (.d (gD hs i).dat),x3],H,by simp [nmD,aO,cD],[some (.d ht),some (.d (.int i)),some (.d (gD hs i).dat),x3],H,?_,⟨_,_,_,rfl⟩,rfl⟩;simp [cd]
 have l2:∀ x1 x2 x3,∃ δ' h',bJ (aO [YG 1,YG 3]) (gC (d+10)) none ((List.range hs.length).map (nmD hs)) ((List.range hs.length).map (nmD hs)) [some (.d ht),x1,x2,x3] h=some (.nx δ',h')/\((∃ x1 x2 x3,δ'=[some (.d ht),x1,x2,x3])/\h'=h):=fun x1 x2 x3=>by
  refine pC (fun δ H=>(∃ x1 x2 x3,δ=[some (.d ht),x1,x2,x3])/\H=h) _ ?_ _ _ ⟨⟨_,_,_,rfl⟩,rfl⟩;rintro x hx δ H ⟨⟨x1,x2,x3,rfl⟩,rfl⟩;obtain ⟨i,hi,rfl⟩:=List.mem_map.mp hx;have hi:=List.mem_range.mp hi;refine ⟨[some (.d ht),some (.d (.int i)),x2,some (.d (gD hs i).dat)],H,by simp [nmD,aO,cD],[some (.d ht),some (.d (.int i)),x2,some (.d (gD hs i).dat)],H,?_,⟨_,_,_,rfl⟩,rfl⟩;have cu:=cu i hi;obtain ⟨qs,hqs⟩:∃ qs,qs=hs.take i:=⟨_,rfl⟩;have eq:qs.map Dd.dat=(hs.map Dd.dat).take i:=by rw [hqs,List.map_take]
  have cm:aN (YG 0) (aC true) (xb (Y2 (aB 1) (aB 0)) (YF (d+10) "go_together")) none (qs.map Dd.dat) (qs.map Dd.dat) [none,some (.d (gD hs i).dat)] H []=some (qs.map fun _=>.bool true,H):=by
   refine cmM Dd.dat (fun _=>.bool true) (fun δ=>∃ u,δ=[u,some (.d (gD hs i).dat)]) _ _ ⟨_,rfl⟩ fun y hy δ hδ=>?_;obtain ⟨u,rfl⟩:=hδ;refine ⟨_,rfl,⟨_,rfl⟩,?_⟩;rw [hqs] at hy;obtain ⟨j,hj,ej⟩:=List.getElem_of_mem hy;rw [List.length_take] at hj;rw [List.getElem_take] at ej;have hj':j < hs.length:=by omega
   rw [wA hj'] at ej;subst ej;have:=oM (d+7) H (aP5 ok.pw hi hj' (by omega));simp [this]
  simp only [cE,cH,cP,cO,cR,cS,cT,dC,dD,dE,cM,cN,cX,dB,cQ,cY,cZ,dA,bdi] at cm;rw [eq] at cm;have bc:=gY true qs;simp [cu,cm,bc]
 show QL h _;refine syP [some (.d ht),none,none,none] h (by simp [nd,it,ln,n60]) ?_;refine syE (fun δ H=>(∃ x1 x2 x3,δ=[some (.d ht),x1,x2,x3])/\H=h) ?_ ?_
 ·exact aO8 (((List.range hs.length).map (nmD hs),none),h) (by simp [xe]) l1
 rintro _ _ ⟨⟨x1,x2,x3,rfl⟩,rfl⟩;obtain ⟨_,_,e2,⟨y1,y2,y3,rfl⟩,rfl⟩:=l2 x1 x2 x3;refine ypQ _ (ypS (((List.range hs.length).map (nmD hs),none),_) (by simp [xe]) e2) ?_;exact eS _
end K47

namespace K47
open PySem PySem.Spec PyProof.Rows L2 DL CI SJ
noncomputable def Dd.keep (x:Dd):Bool:=match x.fin with
 | some (_,none)=>false
 | _=>true
def nums (hs:List Dd):List Nat:=(List.range hs.length).filter fun i=>(gD hs i).keep
def bgI (hs:List Dd) (i:Nat):Int:=(gD hs i).beg
def tk (hs:List Dd):List Nat:=byI (bgI hs) (nums hs)
def wB (a:An1) (n:Nat):aG (n+1) a.dat=true:=by cases a<;>simp [An1.dat]
theorem lR:∀ (as:List An1) (n:Nat),plainsB (n+1) (as.map An1.dat)=true
 | [],n=>by simp
 | a::r,n=>by simp [wB,lR r]
def bP3 (a:SJ.Ans):aG 64 a.dat=true:=by
 cases a with
 | one a=>exact wB a 63
 | all ns=>simp [Ans.dat,gZ]
 | each as=>simp [Ans.dat,lR]
def aP6 (x:Dd) (h:aA):xEq (.d x.ansD) (.d (.tuple [.str "refused"])) h=some (!x.keep):=by
 obtain ⟨a,b,c,e⟩:=x;have:xEq (.d (Dd.mk a b c e).ansD) (.d (.tuple [.str "refused"])) h=if (aG 64 (Dd.mk a b c e).ansD&&aG 64 (.tuple [.str "refused"]))=true then some (PyData.eqv (Dd.mk a b c e).ansD (.tuple [.str "refused"])) else none:=rfl
 rw [this];cases e with
 | none=>simp [Dd.ansD,PyData.eqv,Dd.keep]
 | some p =>
  obtain ⟨t,o⟩:=p;cases o with
  | none=>simp [Dd.ansD,anD,bA0,PyData.eqv,PyData.eqvAll,Dd.keep]
  | some a =>
   have pa:=bP3 a;simp only [Dd.ansD,anD,pa,Dd.keep];cases a with
   | one a=>cases a<;>simp [Ans.dat,An1.dat,PyData.eqv,PyData.eqvAll]
   | all ns=>simp [Ans.dat,PyData.eqv,PyData.eqvAll]
   | each as=>simp [Ans.dat,PyData.eqv,PyData.eqvAll]
def fO {hs:List Dd} {i:Nat} (h:i∈nums hs):i < hs.length:=List.mem_range.mp (List.mem_filter.mp h).1
def yR (hs:List Dd):(nums hs).Nodup:=List.nodup_range.filter _
def nQ {hs:List Dd} (ok:HOk hs):(nums hs).length<=60:=by
 have:=List.length_filter_le (fun i=>(gD hs i).keep) (List.range hs.length);rw [List.length_range] at this;exact Nat.le_trans this ok.len
def aP7 {hs:List Dd} (ok:HOk hs) {i j:Nat} (hi:i < hs.length) (hj:j < hs.length) (hn:i≠j):bgI hs i≠bgI hs j:=fun e=>by
 have:=(aP5 ok.pw hi hj hn).ne (gD hs i).beg;refine this ?_ ?_
 ·unfold Dd.tms;exact List.mem_cons_self
 ·have e:((gD hs i).beg:Int)=(gD hs j).beg:=e;rw [e];unfold Dd.tms;exact List.mem_cons_self
theorem wC {α:Type} (k:α->Int):∀ qs:List α,bD (qs.map fun q=>.int (k q))=some (qs.map k)
 | []=>rfl
 | q::r=>by rw [List.map_cons,bD,wC k r];rfl
theorem pQ {α:Type} {f:XR W} {δ:DSt} {i:Nat} {h:aA} (F:α->PyData) (k:α->PyData):∀ qs:List α,(∀ q∈qs,f (δ.set i (some (.d (F q)))) h=some (.d (k q),h))->fX f δ i (qs.map F) h=some (qs.map k,h)
 | [],_=>rfl
 | q::r,hq=>by
  rw [List.map_cons,fX,hq q List.mem_cons_self];simp only [CI.bs];rw [pQ F k r fun x hx=>hq x (List.mem_cons_of_mem _ hx)];rfl
noncomputable def tE:List (Pos×Str):=[(⟨200,31,200,64⟩,"taking_part.<locals>.<lambda>")]
def wD (ts:List (Pos×Str)):Prop:=ts=[]\/ts=tE
def bP4 {ts:List (Pos×Str)} (h:wD ts):rX ⟨200,31,200,64⟩ "taking_part.<locals>.<lambda>" ts=some tE:=by
 rcases h with rfl | rfl
 ·rfl
 ·unfold rX tE;simp [atP]
def tT {hs:List Dd} {i:Nat} (hi:i < hs.length) (H:aA):xIx (.d (.tuple (hs.map Dd.dat))) (.d (.int i)) H=some (.d (gD hs i).dat,H):=by
 rw [CI.ix_t,bE8 hi];rfl
def cB0 (x:Dd) (H:aA):xIx (.d x.dat) (.d (.int 1)) H=some (.d (.int x.beg),H):=by simp [Dd.dat]
def cP2 (x:Dd) (H:aA):xIx (.d x.dat) (.d (.int 2)) H=some (.d x.endD,H):=by simp [Dd.dat]
def cP3 (x:Dd) (H:aA):xIx (.d x.dat) (.d (.int 3)) H=some (.d x.call.dat,H):=by simp [Dd.dat]
def bP5 (x:Dd) (H:aA):xIx (.d x.dat) (.d (.int 4)) H=some (.d x.ansD,H):=by simp [Dd.dat]
def wE {H:aA} {ts:List (Pos×Str)} {z:PyData}:aJ H (.rt (.d z),H.set 0 (.t ts))=some (z,H.set 0 (.t ts)):=by
 have ok:okP H (H.set 0 (.t ts)):=fun i c hi e=>by
  by_cases z:i=0
  ·subst z;rw [List.getElem?_set_self hi] at e;injection e with e
   subst e;exact .inl (fun _ z=>nomatch z)
  ·rw [List.getElem?_set_ne (fun q=>z q.symm)] at e;exact .inr e
 rw [qY,if_pos ok,List.take_of_length_le (by simp)]
def aP8 (d:Nat) {hs:List Dd} (ok:HOk hs) {H:aA} {ts:List (Pos×Str)} (ht:H[0]?=some (.t ts)) (hts:wD ts):aD T (d+1) "taking_part" [.d (.tuple (hs.map Dd.dat))] H=some (.list ((tk hs).map nI),H.set 0 (.t tE)):=by
 have ai:=fun {i} hi H=>tT (hs:=hs) (i:=i) hi H;obtain ⟨hd,ehd⟩:∃ hd,hd=PyData.tuple (hs.map Dd.dat):=⟨_,rfl⟩;have xe:∀ H,lY (.d hd) H=some (((List.range hs.length).map (nmD hs),none),H):=fun H=>by rw [ehd,aN1,yQ]
 rw [<- ehd] at ai;rw [<- ehd,oH];have cm:aN (aO [YG 0,YG 1]) (xC1 CmpOp.NotEq (YV 1 4) (aC (W.d (PyData.tuple [PyData.str (Str.ofString "refused")])))) (aB 0) none ((List.range hs.length).map (nmD hs)) ((List.range hs.length).map (nmD hs)) [none,none] H []=some ((nums hs).map nI,H):=by
  rw [cmT (nmD hs) (fun i=>(gD hs i).keep) nI (fun δ=>∃ u v,δ=[u,v]) _ _ [] ⟨_,_,rfl⟩ fun i hi δ hδ=>?_]
  ·rfl
  ·obtain ⟨u,v,rfl⟩:=hδ;refine ⟨[some (.d (.int i)),some (.d (gD hs i).dat)],by simp [nmD,aO,cD],⟨_,_,rfl⟩,?_,fun _=>rfl⟩;have nr:=aP6 (gD hs i) H;have d4:=bP5 (gD hs i) H;simp [d4,nr]
 have lm:lZ false (xb (xb (aB 1) fun x=>xb (aB 0) (YX x)) (YI 1)) [none,some 0] 0 "taking_part.<locals>.<lambda>" ⟨200,31,200,64⟩ (.d (.list ((nums hs).map nI))) [some (.d hd),some (.d (.list ((nums hs).map nI)))] H=some ((tk hs).map nI,H.set 0 (.t tE)):=by
  unfold lZ;simp only [ref,ht];rw [bP4 hts];simp only [CI.bs];rw [pQ nI (fun i=>.int (bgI hs i)) (nums hs) fun i hi=>?_]
  ·simp only [CI.bs];have nd:((nums hs).map (bgI hs)).Nodup:=List.pairwise_map.mpr ((yR hs).imp_of_mem fun {i j} hi hj hn=>aP7 ok (fO hi) (fO hj) hn);have l6:((nums hs).map nI).length < 64:=by rw [List.length_map];have:=nQ ok;omega
   unfold byK;rw [if_neg (by simp),wC (bgI hs) (nums hs)];simp only [CI.bs];rw [if_pos ⟨nd,l6⟩,bE6];rfl
  ·have ai:=ai (fO hi);have d1:=cB0 (gD hs i);simp [nI,ai,d1,bgI]
 simp only [cE,cH,cP,cO,cR,cS,cT,dC,dD,dE,cM,cN,cX,dB,cQ,cY,cZ,dA,bdi] at cm lm;refine sq (.rt (.d (.list ((tk hs).map nI))),H.set 0 (.t tE)) ?_ wE;refine sy [some (.d hd),some (.d (.list ((nums hs).map nI)))] H (by simp [xe,cm]) ?_;simp [lm]
def aP9 (d:Nat) (H:aA) {hs:List Dd} (ok:HOk hs):aD T (d+1) "_law_by_begins" [.d (.tuple (hs.map Dd.dat))] H=some (.list ((tk hs).map nI),H):=by
 have ai:=fun {i} hi H=>tT (hs:=hs) (i:=i) hi H;obtain ⟨hd,ehd⟩:∃ hd,hd=PyData.tuple (hs.map Dd.dat):=⟨_,rfl⟩;have ln:aY [.d hd] H=some (.d (.int hs.length),H):=by rw [ehd];simp
 rw [<- ehd] at ai;rw [<- ehd,kP];have er:cU 0 hs.length=true:=bN (by omega) (by have:=ok.len;omega);have cm:aN (YG 0) (xC1 CmpOp.NotEq (xb (xb (aB 1) fun x=>xb (aB 0) (YX x)) (YI 4)) (xb (xPl (Y1 (YS "refused"))) YT)) (aB 0) none (rng 0 hs.length) (rng 0 hs.length) [none,some (.d hd)] H []=some ((nums hs).map nI,H):=by
  rw [tR,cmT nI (fun i=>(gD hs i).keep) nI (fun δ=>∃ u,δ=[u,some (.d hd)]) _ _ [] ⟨_,rfl⟩ fun i hi δ hδ=>?_]
  ·rfl
  ·obtain ⟨u,rfl⟩:=hδ;have ai:=ai (List.mem_range.mp hi);refine ⟨[some (.d (.int i)),some (.d hd)],rfl,⟨_,rfl⟩,?_,fun _=>rfl⟩;have nr:=aP6 (gD hs i) H;have d4:=bP5 (gD hs i) H;simp [ai,d4,nr,szl]
 have c2:aN (YG 0) (aC true) (xb (xPl (Y2 (xb (xb (aB 1) fun x=>xb (aB 0) (YX x)) (YI 1)) (aB 0))) YT) none ((nums hs).map nI) ((nums hs).map nI) [none,some (.d hd)] H []=some ((nums hs).map (prI (bgI hs)),H):=by
  refine cmM nI (prI (bgI hs)) (fun δ=>∃ u,δ=[u,some (.d hd)]) _ _ ⟨_,rfl⟩ fun i hi δ hδ=>?_;obtain ⟨u,rfl⟩:=hδ;have ai:=ai (fO hi);refine ⟨[some (.d (.int i)),some (.d hd)],rfl,⟨_,rfl⟩,?_⟩;have d1:=cB0 (gD hs i) H;simp [ai,d1,szl,prI,bgI]
 have c3:=bE7 (bgI hs) (qs:=nums hs) (fun i hi=>by have:=fO hi;have:=ok.len;omega) (yR hs) (by have:=nQ ok;omega) H;have eT:byI (fun i:Nat=>bgI hs i*1000+i) (nums hs)=tk hs:=aD1 fun i hi j hj=>by
  have li:=fO hi;have lj:=fO hj;have l6:=ok.len
  by_cases e:i=j
  ·subst e;simp
  ·have:=aP7 ok li lj e;omega
 rw [eT] at c3;have c4:∀ L:List Nat,aN (aO [YG 0,YG 1]) (aC true) (aB 1) none (L.map (prI (bgI hs))) (L.map (prI (bgI hs))) [none,none] H []=some (L.map nI,H):=fun L=>by
  refine cmM (prI (bgI hs)) nI (fun δ=>∃ u v,δ=[u,v]) _ _ ⟨_,_,rfl⟩ fun i hi δ hδ=>?_;obtain ⟨u,v,rfl⟩:=hδ;exact ⟨[some (.d (.int (bgI hs i))),some (.d (.int i))],by simp [prI,aO,cD],⟨_,_,rfl⟩,rfl⟩
 simp only [cE,cH,cP,cO,cR,cS,cT,dC,dD,dE,cM,cN,cX,dB,cQ,cY,cZ,dA,bdi] at cm c2 c4;have eS:∀ z:PyData,aJ H (.rt (.d z),H)=some (z,H):=fun z=>aQ (fun _ _=>rfl) (Nat.le_refl _);simp [ln,er,cm,c2,c3,c4,eS]
end K47

namespace K47
open PySem PySem.Spec PyProof.Rows L2 DL CI SJ
noncomputable def gG:One->Bool
 | .read _=>false
 | _=>true
noncomputable def prts:SJ.Call->List One
 | .one o=>[o]
 | .span lo hi=>(List.range (hi - lo)).map fun k=>.read (lo+k)
 | .deal cs=>cs
def kT:SJ.Call->SJ.Ans->List An1
 | .one _,.one a=>[a]
 | .span _ _,.all ns=>ns.map .got
 | .deal _,.each as=>as
 | _,_=>[]
def eB (k:Nat) (o:One):Bool:=decide (o.key=k)
def plc (c:SJ.Call) (k:Nat):List Nat:=(List.range (prts c).length).filter fun i=>eB k ((prts c).getD i (.read 0))
def prt (c:SJ.Call) (i:Nat):One:=(prts c).getD i (.read 0)
def fI (c:SJ.Call) (a:SJ.Ans) (i:Nat):An1:=(kT c a).getD i .dn
def pOn (c:SJ.Call) (a:Option SJ.Ans) (k:Nat):SJ.Call×Option SJ.Ans:=match plc c k with
 | [i]=>(.one (prt c i),a.map fun a=>.one (fI c a i))
 | is=>(.deal (is.map (prt c)),a.map fun a=>.each (is.map (fI c a)))
theorem lT {α:Type} (f:α->Bool):∀ xs:List α,cI (xs.map fun x=>PyData.bool (f x))=some (xs.map f)
 | []=>rfl
 | x::r=>by rw [List.map_cons,cI,lT f r];rfl
def wF (c:SJ.Call):Bool:=(prts c).any gG
def aQ0 (d:Nat) (h:aA) (o:One):aD T (d+1) "may_change" [.d o.dat] h=some (.bool (gG o),h):=by
 have eS:∀ z:PyData,aJ h (.rt (.d z),h)=some (z,h):=fun z=>aQ (fun _ _=>rfl) (Nat.le_refl _);cases o<;>simp [gQ,One.dat,gG,xIn,ref,PyData.eqv,eS]
def cB1 (d:Nat) (h:aA) (c:SJ.Call):aD T (d+2) "may_change" [.d c.dat] h=some (.bool (wF c),h):=by
 have eS:∀ z:PyData,aJ h (.rt (.d z),h)=some (z,h):=fun z=>aQ (fun _ _=>rfl) (Nat.le_refl _);cases c with
 | one o =>
  have e:wF (.one o)=gG o:=by simp [wF,prts]
  rw [e];exact aQ0 (d+1) h o
 | span lo hi =>
  have e:wF (.span lo hi)=false:=by simp [wF,prts,gG]
  rw [e];simp [gQ,Call.dat,xIn,ref,PyData.eqv,eS]
 | deal cs =>
  have e:wF (.deal cs)=cs.any gG:=rfl;rw [e,show d+2=(d+1)+1 from rfl,gQ];have cm:aN (YG 0) (aC true) (xb (Y1 (aB 0)) (YF (d+1) "may_change")) none (cs.map One.dat) (cs.map One.dat) [none] h []=some (cs.map fun o=>.bool (gG o),h):=by
   refine cmM One.dat (fun o=>.bool (gG o)) (fun δ=>∃ u,δ=[u]) _ _ ⟨_,rfl⟩ fun o ho δ hδ=>?_;obtain ⟨u,rfl⟩:=hδ;refine ⟨_,rfl,⟨_,rfl⟩,?_⟩;have:=aQ0 d h o;simp [this]
  have xa:∀ xs,nX [.d (.list xs)] h=(cI xs).map fun bs=>(.d (.bool (bs.any id)),h):=fun _=>rfl;have bf:=lT gG cs;have ba:(cs.map gG).any id=cs.any gG:=by simp
  simp only [cE,cH,cP,cO,cR,cS,cT,dC,dD,dE,cM,cN,cX,dB,cQ,cY,cZ,dA,bdi] at cm;simp [Call.dat,aM,cm,xa,bf,eS]
def lU (d:Nat) (h:aA) {c:SJ.Call} (hc:c.ok):aD T (d+1) "_law_parts" [.d c.dat] h=some (.list ((prts c).map One.dat),h):=by
 have eS:∀ z:PyData,aJ h (.rt (.d z),h)=some (z,h):=fun z=>aQ (fun _ _=>rfl) (Nat.le_refl _);cases c with
 | one o=>cases o<;>simp [gU,Call.dat,One.dat,prts,szl,eS]
 | span lo hi =>
  obtain ⟨h1,h2⟩:=hc;have er:cU lo hi=true:=mX (by omega) (by omega);have tn:((hi:Int) - (lo:Int)).toNat=hi - lo:=by omega
  have cm:aN (YG 0) (aC true) (xb (xPl (Y2 (YS "read") (aB 0))) YT) none (rng lo (hi - lo)) (rng lo (hi - lo)) [none] h []=some ((prts (.span lo hi)).map One.dat,h):=by
   have e:rng lo (hi - lo)=(List.range (hi - lo)).map fun k=>nI (lo+k):=by simp [rng,nI]
   rw [e,cmM (fun k=>nI (lo+k)) (fun k=>(One.read (lo+k)).dat) (fun δ=>∃ u,δ=[u]) _ _ ⟨_,rfl⟩ fun k hk δ hδ=>?_]
   ·simp [prts,Function.comp_def]
   ·obtain ⟨u,rfl⟩:=hδ;refine ⟨_,rfl,⟨_,rfl⟩,?_⟩;simp [nI,One.dat,szl]
  simp only [cE,cH,cP,cO,cR,cS,cT,dC,dD,dE,cM,cN,cX,dB,cQ,cY,cZ,dA,bdi] at cm;simp [gU,Call.dat,er,tn,cm,eS]
 | deal cs=>simp [gU,Call.dat,ref,prts,eS]
def aQ1 (o:One) (n:Nat):aG (n+1) o.dat=true:=by cases o<;>simp [One.dat]
theorem rH:∀ (os:List One) (n:Nat),plainsB (n+1) (os.map One.dat)=true
 | [],n=>by simp
 | o::r,n=>by simp [aQ1,rH r]
def aQ4 (os:List One) (h:aA):xEq (.d (.list (os.map One.dat))) (.d (.list [])) h=some os.isEmpty:=by
 have:xEq (.d (.list (os.map One.dat))) (.d (.list [])) h=if (aG 64 (.list (os.map One.dat))&&aG 64 (.list []))=true then some (PyData.eqv (.list (os.map One.dat)) (.list [])) else none:=rfl
 rw [this];have pl:=rH os 62;simp [pl];cases os<;>simp [PyData.eqv,PyData.eqvAll]
def aQ5 (o:One) (H:aA):xIx (.d o.dat) (.d (.int 1)) H=some (.d (.int o.key),H):=by cases o<;>simp [One.dat,One.key]
def jG (c:SJ.Call) (k:Nat):Bool:=(prts c).any fun o=>gG o&&eB k o
theorem jU {α:Type} (p:α->Bool):∀ l:List α,(l.filter p).isEmpty=!l.any p
 | []=>rfl
 | a::r=>by
  have:=jU p r;cases h:p a<;>simp [h]
  simpa using this
def aD4 (d:Nat) (h:aA) {c:SJ.Call} (hc:c.ok) (k:Nat):aD T (d+2) "_law_changes" [.d c.dat,.d (.int k)] h=some (.bool (jG c k),h):=by
 have eS:∀ z:PyData,aJ h (.rt (.d z),h)=some (z,h):=fun z=>aQ (fun _ _=>rfl) (Nat.le_refl _);have cp:=lU d h hc;have cm:aN (YG 0) (xb (xC1 CmpOp.In (YV 0 0) (aB 2)) fun c=>if c=true then xb (xC1 CmpOp.Is (aB 1) (YZ)) fun c=>if c=true then aC true else xC1 CmpOp.Eq (YV 0 1) (aB 1) else aC false) (aB 0) none ((prts c).map One.dat) ((prts c).map One.dat) [none,some (.d (.int k)),some (.d (.list [.str (Str.ofString "write"),.str (Str.ofString "add"),.str (Str.ofString "swap")]))] h []=some (((prts c).filter fun o=>gG o&&eB k o).map One.dat,h):=by
  rw [cmT One.dat (fun o=>gG o&&eB k o) One.dat (fun δ=>∃ u,δ=[u,some (.d (.int k)),some (.d (.list [.str (Str.ofString "write"),.str (Str.ofString "add"),.str (Str.ofString "swap")]))]) _ _ [] ⟨_,rfl⟩ fun o ho δ hδ=>?_]
  ·rfl
  ·obtain ⟨u,rfl⟩:=hδ;refine ⟨[some (.d o.dat),_,_],rfl,⟨_,rfl⟩,?_,fun _=>rfl⟩
   by_cases c:o.key=k
   ·cases o<;>simp [One.key] at c<;>simp [One.dat,One.key,gG,eB,xIn,ref,PyData.eqv,c]
   ·have c':¬ (o.key:Int)=k:=by omega
    cases o<;>simp [One.key] at c c'<;>simp [One.dat,One.key,gG,eB,xIn,ref,PyData.eqv,c,c']
 simp only [cE,cH,cP,cO,cR,cS,cT,dC,dD,dE,cM,cN,cX,dB,cQ,cY,cZ,dA,bdi] at cm;have eq:=aQ4 ((prts c).filter fun o=>gG o&&eB k o) h;rw [jU] at eq;have e:jG c k=(prts c).any fun o=>gG o&&eB k o:=rfl;rw [<- e] at eq;rw [show d+2=(d+1)+1 from rfl,nH];generalize ((prts c).filter fun o=>gG o&&eB k o).map One.dat=R at cm eq;generalize (prts c).map One.dat=P at cm cp;simp [szl,cp,cm,eq,eS]
end K47

namespace K47
open PySem PySem.Spec PyProof.Rows L2 DL CI SJ
def a1D:Option An1->PyData
 | some a=>a.dat
 | none=>.none
def an1 (c:SJ.Call) (a:Option SJ.Ans) (i:Nat):Option An1:=a.map fun a=>fI c a i
def kU (c:SJ.Call):(List.range (prts c).length).map (prt c)=prts c:=by
 apply List.ext_getElem
 ·simp
 ·intro i h1 h2;simp [prt,List.getD,h2]
def yS (c:SJ.Call) (k:Nat):(plc c k).map (prt c)=(prts c).filter (eB k):=by
 have e:plc c k=(List.range (prts c).length).filter (eB k ∘ prt c):=rfl;rw [e,<- List.filter_map,kU]
def bP6 {c:SJ.Call} {k i:Nat} (h:i∈plc c k):i < (prts c).length/\(prt c i).key=k:=by
 have:=List.mem_filter.mp h;exact ⟨List.mem_range.mp this.1,of_decide_eq_true this.2⟩
def jV {c:SJ.Call} (hc:c.ok):(prts c).length<=8:=by
 cases c with
 | one o=>simp [prts]
 | span lo hi=>have:=hc.2;simp [prts];omega
 | deal cs=>have:=hc.1;simp only [prts];omega
def bP7 {c:SJ.Call} (hc:c.ok) {i:Nat} (hi:i < (prts c).length):(prt c i).ok:=by
 have hm:prt c i∈prts c:=by
  unfold prt;rw [List.getD_eq_getElem?_getD,List.getElem?_eq_getElem hi];exact List.getElem_mem hi
 cases c with
 | one o=>rw [List.mem_singleton.mp hm];exact hc
 | span lo hi' =>
  obtain ⟨j,hj,e⟩:=List.mem_map.mp hm;have hj:=List.mem_range.mp hj;have h2:=hc.2;rw [<- e];show lo+j < 8;omega
 | deal cs=>exact hc.2.2 _ hm
def aQ9 {c:SJ.Call} {a:SJ.Ans} (hc:c.ok) (hf:Ans.fits c a):(kT c a).length=(prts c).length:=by
 cases c<;>cases a<;>first | exact hf.elim | skip
 ·rfl
 ·have h:_=_:=hf;simp [kT,prts,h]
 ·exact Fit2.length hf
theorem tU:∀ {os:List One} {as:List An1},Fit2 os as->∀ {i:Nat},i < os.length->An1.fits (os.getD i (.read 0)) (as.getD i .dn)
 | _,_,.cons f t,0,_=>f
 | _,_,.cons f t,i+1,h=>by
  have:=tU t (i:=i) (by simpa using h)
  simpa using this
def pR {c:SJ.Call} {a:SJ.Ans} (hf:Ans.fits c a) {i:Nat} (hi:i < (prts c).length):An1.fits (prt c i) (fI c a i):=by
 cases c<;>cases a<;>first | exact hf.elim | skip
 ·rename_i o a;have:i=0:=by simp [prts] at hi;exact hi
  subst this;exact hf
 ·rename_i lo hi' ns;have hl:ns.length=hi' - lo:=hf;have hi2:i < hi' - lo:=by simpa [prts] using hi
  have e1:prt (.span lo hi') i=.read (lo+i):=by simp [prt,prts,hi2]
  have e2:fI (.span lo hi') (.all ns) i=.got (ns[i]'(by omega)):=by
   have:i < ns.length:=by omega
   simp [fI,kT,this]
  rw [e1,e2];trivial
 ·exact tU hf hi
def aR0 (c:SJ.Call) (a:Option SJ.Ans) {k i:Nat} (h:plc c k=[i]):pOn c a k=(.one (prt c i),a.map fun a=>.one (fI c a i)):=by
 unfold pOn;rw [h]
def bE9 (c:SJ.Call) (a:Option SJ.Ans) {k:Nat} (h:∀ i,plc c k≠[i]):pOn c a k=(.deal ((plc c k).map (prt c)),a.map fun a=>.each ((plc c k).map (fI c a))):=by
 unfold pOn;split
 ·rename_i i e;exact (h i e).elim
 ·rfl
def bA8 (c:SJ.Call) (a:Option SJ.Ans) (k:Nat):wF (pOn c a k).1=jG c k:=by
 have e:jG c k=((plc c k).map (prt c)).any gG:=by
  rw [yS,List.any_filter];unfold jG
  congr 1
  funext o
  exact Bool.and_comm _ _
 rw [e]
 by_cases h:∃ i,plc c k=[i]
 ·obtain ⟨i,e⟩:=h;rw [aR0 c a e,e];rfl
 ·rw [bE9 c a fun i e=>h ⟨i,e⟩];rfl
end K47

namespace K47
open PySem PySem.Spec PyProof.Rows L2 DL CI SJ
def pcD (c:SJ.Call) (a:Option SJ.Ans) (i:Nat):PyData:=.tuple [(prt c i).dat,a1D (an1 c a i)]
noncomputable def nsp:SJ.Call->Bool
 | .span _ _=>false
 | _=>true
theorem pT {α:Type} (xs:List α) (x:α):(List.range xs.length).map (fun i=>xs.getD i x)=xs:=by
 apply List.ext_getElem
 ·simp
 ·intro i h1 h2;simp [List.getD,h2]
theorem aD5 {α β:Type} (xs:List α) (ys:List β) (x:α) (y:β) (h:ys.length=xs.length):xs.zip ys=(List.range xs.length).map fun i=>(xs.getD i x,ys.getD i y):=by
 apply List.ext_getElem
 ·simp [h]
 ·intro i h1 h2;have h3:i < xs.length:=by simpa using h2
  have h4:i < ys.length:=by omega
  simp [List.getD,h3,h4]
def aR1 (d:Nat) (h:aA) {c:SJ.Call} {a:Option SJ.Ans} (hn:nsp c=true) (hf:∀ b,a=some b->Ans.fits c b):aD T (d+1) "parts_of" [.d c.dat,.d (tD a)] h=some (.list ((List.range (prts c).length).map (pcD c a)),h):=by
 have eS:∀ z:PyData,aJ h (.rt (.d z),h)=some (z,h):=fun z=>aQ (fun _ _=>rfl) (Nat.le_refl _);cases c with
 | span lo hi=>cases hn
 | one o =>
  have e:(List.range (prts (.one o)).length).map (pcD (.one o) a)=[.tuple [o.dat,tD a]]:=by
   have e1:a1D (an1 (.one o) a 0)=tD a:=by
    cases a with
    | none=>rfl
    | some b =>
     have:=hf b rfl;cases b<;>first | exact this.elim | rfl
   simp [prts,pcD,prt,e1]
  rw [e];generalize tD a=t;cases o<;>simp [gR,Call.dat,One.dat,szl,eS]
 | deal cs =>
  cases a with
  | none =>
   have e:(List.range (prts (.deal cs)).length).map (pcD (.deal cs) none)=cs.map fun o=>.tuple [o.dat,.none]:=by
    have:=pT cs (.read 0);have:cs.map (fun o=>PyData.tuple [o.dat,.none])=((List.range cs.length).map fun i=>cs.getD i (.read 0)).map fun o=>PyData.tuple [o.dat,.none]:=by rw [this]
    rw [this,List.map_map];rfl
   rw [e];have cm:aN (YG 0) (aC true) (xb (xPl (Y2 (aB 0) (YZ))) YT) none (cs.map One.dat) (cs.map One.dat) [none] h []=some (cs.map fun o=>.tuple [o.dat,.none],h):=by
    refine cmM One.dat (fun o=>.tuple [o.dat,.none]) (fun δ=>∃ u,δ=[u]) _ _ ⟨_,rfl⟩ fun o ho δ hδ=>?_;obtain ⟨u,rfl⟩:=hδ;exact ⟨_,rfl,⟨_,rfl⟩,by simp [szl]⟩
   simp only [cE,cH,cP,cO,cR,cS,cT,dC,dD,dE,cM,cN,cX,dB,cQ,cY,cZ,dA,bdi] at cm;simp [gR,Call.dat,tD,cm,eS]
  | some b =>
   have hb:=hf b rfl;cases b with
   | one _=>exact hb.elim
   | all _=>exact hb.elim
   | each as =>
    have hl:=Fit2.length hb;have e:(List.range (prts (.deal cs)).length).map (pcD (.deal cs) (some (.each as)))=fV (cs.map One.dat) (as.map An1.dat):=by
     rw [mK,List.zip_map,List.map_map,aD5 cs as (.read 0) .dn hl,List.map_map];rfl
    rw [e];have isn:xIs (.d (Ans.dat (.each as))) (.d .none)=some false:=rfl;simp [gR,Call.dat,tD,Ans.dat,xLZ,eS]
end K47

namespace K47
open PySem PySem.Spec PyProof.Rows L2 DL CI SJ
theorem yT (x:Int):∀ (l ac:List Int),x∈l.foldl step_dedup ac ↔ x∈ac\/x∈l
 | [],ac=>by simp
 | a::r,ac=>by
  rw [List.foldl_cons,yT x r];have h:x∈step_dedup ac a ↔ x∈ac\/x=a:=by
   unfold step_dedup;split
   ·rename_i c;have c:a∈ac:=by simpa using c
    exact ⟨.inl,fun z=>z.elim id fun e=>e ▸ c⟩
   ·simp
  rw [h,List.mem_cons,or_assoc]
def wG (x:Int) (l:List Int):x∈ST.srt (ST.dd l) ↔ x∈l:=by
 unfold ST.srt ST.dd;rw [(List.mergeSort_perm _ _).mem_iff,yT];simp
def ksL:SJ.Call->List Int
 | .span lo hi=>(List.range (hi - lo)).map fun (k:Nat)=>(lo:Int)+(k:Int)
 | c=>ST.srt (ST.dd ((prts c).map fun o=>(o.key:Int)))
def yU {c:SJ.Call} (h:nsp c=true):ksL c=ST.srt (ST.dd ((prts c).map fun o=>(o.key:Int))):=by
 cases c with
 | span _ _=>cases h
 | one _=>rfl
 | deal _=>rfl
def aR2 {c:SJ.Call} {k:Nat}:plc c k≠[] ↔ ∃ o∈prts c,o.key=k:=by
 have e:=yS c k;constructor
 ·intro h;obtain ⟨i,hi⟩:=List.exists_mem_of_ne_nil _ h;have:prt c i∈(prts c).filter (eB k):=by rw [<- e];exact List.mem_map.mpr ⟨i,hi,rfl⟩
  have:=List.mem_filter.mp this;exact ⟨_,this.1,of_decide_eq_true this.2⟩
 ·rintro ⟨o,ho,hk⟩ z;have:o∈(prts c).filter (eB k):=List.mem_filter.mpr ⟨ho,decide_eq_true hk⟩;rw [<- e,z] at this;cases this
def rI (c:SJ.Call) (k:Nat):(k:Int)∈ksL c ↔ plc c k≠[]:=by
 rw [aR2];cases c with
 | span lo hi =>
  simp only [ksL,prts,List.mem_map,List.mem_range];constructor
  ·rintro ⟨j,hj,e⟩;exact ⟨_,⟨j,hj,rfl⟩,by show lo+j=k;omega⟩
  ·rintro ⟨_,⟨j,hj,rfl⟩,e⟩;have e:lo+j=k:=e;exact ⟨j,hj,by omega⟩
 | one o =>
  rw [yU rfl,wG,List.mem_map];exact ⟨fun ⟨o,ho,e⟩=>⟨o,ho,by omega⟩,fun ⟨o,ho,e⟩=>⟨o,ho,by omega⟩⟩
 | deal cs =>
  rw [yU rfl,wG,List.mem_map];exact ⟨fun ⟨o,ho,e⟩=>⟨o,ho,by omega⟩,fun ⟨o,ho,e⟩=>⟨o,ho,by omega⟩⟩
def yV {c:SJ.Call} (h:nsp c=true):∃ w r,c.dat=.tuple (.str (Str.ofString w)::r)/\(Str.ofString w==Str.ofString "span")=false:=by
 cases c with
 | span _ _=>cases h
 | one o=>cases o<;>exact ⟨_,_,rfl,by decide +kernel⟩
 | deal cs=>exact ⟨_,_,rfl,by decide +kernel⟩
def aR3 (d:Nat) (h:aA) {c:SJ.Call} (hc:c.ok):aD T (d+2) "keys_of" [.d c.dat] h=some (.tuple ((ksL c).map .int),h):=by
 have eS:∀ z:PyData,aJ h (.rt (.d z),h)=some (z,h):=fun z=>aQ (fun _ _=>rfl) (Nat.le_refl _);rw [show d+2=(d+1)+1 from rfl];cases hn:nsp c with
 | false =>
  cases c with
  | one _=>cases hn
  | deal _=>cases hn
  | span lo hi =>
   obtain ⟨h1,h2⟩:=hc;have er:cU lo hi=true:=mX (by omega) (by omega);have tn:((hi:Int) - (lo:Int)).toNat=hi - lo:=by omega
   have e:(ksL (.span lo hi)).map PyData.int=rng lo (hi - lo):=by simp [ksL,rng]
   rw [e];simp [pH,Call.dat,xTR,er,tn,eS]
 | true =>
  have cp:=aR1 d h (c:=c) (a:=none) hn (fun _ z=>nomatch z);have cp:aD T (d+1) (Str.ofString "parts_of") [.d c.dat,.d .none] h=some (.list ((List.range (prts c).length).map (pcD c none)),h):=cp;have cm:aN (aO [YG 0,YG 1]) (aC true) (YV 0 1) none ((List.range (prts c).length).map (pcD c none)) ((List.range (prts c).length).map (pcD c none)) [none,none] h []=some ((List.range (prts c).length).map fun i=>.int ((prt c i).key:Int),h):=by
   refine cmM (pcD c none) (fun i=>.int ((prt c i).key:Int)) (fun δ=>∃ u v,δ=[u,v]) _ _ ⟨_,_,rfl⟩ fun i hi δ hδ=>?_;obtain ⟨u,v,rfl⟩:=hδ;refine ⟨[some (.d (prt c i).dat),some (.d .none)],by simp [pcD,a1D,an1,aO,cD],⟨_,_,rfl⟩,?_⟩;have:=aQ5 (prt c i) h;simp [this]
  have xs:xSS [.d (.list ((List.range (prts c).length).map fun i=>.int ((prt c i).key:Int)))] h=some ((ksL c).map .int,h):=by
   have e:xSS [.d (.list ((List.range (prts c).length).map fun i=>.int ((prt c i).key:Int)))] h=(bD ((List.range (prts c).length).map fun i=>.int ((prt c i).key:Int))).bind fun ns=>if ns.length<=62 then some ((ST.srt (ST.dd ns)).map .int,h) else none:=rfl
   rw [e,wC (fun i=>((prt c i).key:Int)) (List.range (prts c).length)];simp only [CI.bs];rw [if_pos (by rw [List.length_map,List.length_range];have:=jV hc;omega),yU hn];have:(List.range (prts c).length).map (fun i=>((prt c i).key:Int))=(prts c).map fun o=>(o.key:Int):=by
    have z:=kU c;have:(prts c).map (fun o=>(o.key:Int))=((List.range (prts c).length).map (prt c)).map fun o=>(o.key:Int):=by rw [z]
    rw [this,List.map_map];rfl
   rw [this]
  obtain ⟨w,r,ew,nw⟩:=yV hn;have i0:xIx (.d c.dat) (.d (.int 0)) h=some (.d (.str (Str.ofString w)),h):=by rw [ew];simp
  simp only [cE,cH,cP,cO,cR,cS,cT,dC,dD,dE,cM,cN,cX,dB,cQ,cY,cZ,dA,bdi] at cm;rw [pH];generalize c.dat=cd at *;simp [i0,nw,cp,cm,xs,eS]
def aR4 (ns:List Int) (n:Int) (h:aA):xIn (.d (.int n)) (.d (.tuple (ns.map .int))) h=some (decide (n∈ns)):=by
 have e:xIn (.d (.int n)) (.d (.tuple (ns.map .int))) h=xIn (.d (.int n)) (.d (.list (ns.map .int))) h:=by
  have e1:xIn (.d (.int n)) (.d (.tuple (ns.map .int))) h=if (aG 64 (.tuple (ns.map .int))&&aG 64 (.int n))=true then some ((ns.map PyData.int).any fun z=>PyData.eqv z (.int n)) else none:=rfl
  have e2:xIn (.d (.int n)) (.d (.list (ns.map .int))) h=if (aG 64 (.list (ns.map .int))&&aG 64 (.int n))=true then some ((ns.map PyData.int).any fun z=>PyData.eqv z (.int n)) else none:=rfl
  rw [e1,e2];simp only [xZ,aN0]
 rw [e,yF]
def prD (c:SJ.Call) (a:Option SJ.Ans) (k:Nat):PyData:=.tuple [(pOn c a k).1.dat,tD (pOn c a k).2]
def cB2 (a:Option SJ.Ans):xIs (.d (tD a)) (.d .none)=some a.isNone:=by
 cases a with
 | none=>rfl
 | some a=>exact yM a
def aD6 (d:Nat) (h:aA) {c:SJ.Call} (hc:c.ok) {a:Option SJ.Ans} (hf:∀ b,a=some b->Ans.fits c b) (k:Nat):aD T (d+3) "part_on" [.d c.dat,.d (tD a),.d (.int k)] h=some (if plc c k=[] then .none else prD c a k,h):=by
 have eS:∀ z:PyData,aJ h (.rt (.d z),h)=some (z,h):=fun z=>aQ (fun _ _=>rfl) (Nat.le_refl _);have ck:=aR3 d h hc;have ik:=aR4 (ksL c) k h;rw [show d+3=(d+2)+1 from rfl,aC6]
 by_cases hp:plc c k=[]
 ·have:¬ ((k:Int)∈ksL c):=fun z=>(rI c k).mp z hp;rw [decide_eq_false this] at ik;rw [if_pos hp];generalize c.dat=cd at *;generalize tD a=t at *;simp [ck,ik,eS]
 rw [decide_eq_true ((rI c k).mpr hp)] at ik;rw [if_neg hp];cases hn:nsp c with
 | false =>
  cases c with
  | one _=>cases hn
  | deal _=>cases hn
  | span lo hi =>
   obtain ⟨i,hi',ei⟩:∃ i,i < hi - lo/\plc (.span lo hi) k=[i]/\lo+i=k:=by
    have hk:∀ i∈plc (.span lo hi) k,i < hi - lo/\lo+i=k:=fun i hi'=>by
     obtain ⟨h1,h2⟩:=bP6 hi';have h1:i < hi - lo:=by simpa [prts] using h1
     exact ⟨h1,by simpa [prt,prts,h1,One.key] using h2⟩
    have pw:(plc (.span lo hi) k).Pairwise fun i j=>i < j:=List.Pairwise.filter _ List.pairwise_lt_range
    match e:plc (.span lo hi) k with
    | []=>exact absurd e hp
    | [i] =>
     have:=hk i (by rw [e];exact List.mem_cons_self);exact ⟨i,this.1,rfl,this.2⟩
    | x::y::r =>
     rw [e] at pw hk;have h1:=hk x List.mem_cons_self;have h2:=hk y (List.mem_cons_of_mem _ List.mem_cons_self);have:=(List.pairwise_cons.mp pw).1 y List.mem_cons_self;omega
   obtain ⟨ep,ek⟩:=ei;have e1:prt (.span lo hi) i=.read k:=by simp [prt,prts,hi',ek]
   have eR:prD (.span lo hi) a k=.tuple [.tuple [.str "read",.int k],a1D (an1 (.span lo hi) a i)]:=by
    unfold prD;rw [aR0 _ a ep,e1];cases a with
    | none=>rfl
    | some b =>
     cases b<;>rfl
   rw [eR];cases a with
   | none=>simp [ck,Call.dat,tD,a1D,an1,szl,eS] at ck ⊢;simp [ck,ik,szl,eS]
   | some b =>
    have hb:=hf b rfl;cases b with
    | one _=>exact hb.elim
    | each _=>exact hb.elim
    | all ns =>
     have hl:ns.length=hi - lo:=hb;have ix:=jT (ns:=ns) (i:=i) (by omega);have ea:a1D (an1 (.span lo hi) (some (.all ns)) i)=.tuple [.str "got",.int (ns.getD i 0)]:=by
      have:i < ns.length:=by omega
      simp [a1D,an1,fI,kT,An1.dat,List.getD,this]
     rw [ea];have es:(k:Int) - lo=i:=by omega
     generalize ns.getD i 0=v at *;simp only [Call.dat,tD,Ans.dat] at ck ⊢;simp [ck,ik,szl,es,ix,eS]
 | true =>
  have cp:=aR1 (d+1) h hn hf;have fl:aN (YG 0) (xC1 CmpOp.Eq (xb (YV 0 0) (YI 1)) (aB 1)) (aB 0) none ((List.range (prts c).length).map (pcD c a)) ((List.range (prts c).length).map (pcD c a)) [none,some (.d (.int k))] h []=some ((plc c k).map (pcD c a),h):=by
   rw [cmT (pcD c a) (fun i=>eB k (prt c i)) (pcD c a) (fun δ=>∃ u,δ=[u,some (.d (.int k))]) _ _ [] ⟨_,rfl⟩ fun i hi δ hδ=>?_]
   ·rfl
   ·obtain ⟨u,rfl⟩:=hδ;refine ⟨[some (.d (pcD c a i)),_],rfl,⟨_,rfl⟩,?_,fun _=>rfl⟩;have:=aQ5 (prt c i) h;have i0:xIx (.d (pcD c a i)) (.d (.int 0)) h=some (.d (prt c i).dat,h):=by simp [pcD]
    generalize pcD c a i=z at i0
    by_cases q:(prt c i).key=k
    ·simp [i0,this,eB,q]
    ·have q':¬ ((prt c i).key:Int)=k:=by omega
     simp [i0,this,eB,q,q']
  obtain ⟨w,r,ew,nw⟩:=yV hn;have i0:xIx (.d c.dat) (.d (.int 0)) h=some (.d (.str (Str.ofString w)),h):=by rw [ew];simp
  simp only [cE,cH,cP,cO,cR,cS,cT,dC,dD,dE,cM,cN,cX,dB,cQ,cY,cZ,dA,bdi] at fl;have it:=cB2 a
  by_cases hs:∃ i,plc c k=[i]
  ·obtain ⟨i,ei⟩:=hs;have eR:prD c a k=pcD c a i:=by
    unfold prD pcD;rw [aR0 c a ei];cases a with
    | none=>rfl
    | some b=>rfl
   rw [ei,List.map_cons,List.map_nil] at fl;rw [eR];generalize c.dat=cd at *;generalize tD a=t at *;generalize (List.range (prts c).length).map (pcD c a)=P at *;generalize pcD c a i=z at *;simp [ck,ik,i0,nw,cp,fl,eS]
  ·have hs':∀ i,plc c k≠[i]:=fun i e=>hs ⟨i,e⟩;have eR:prD c a k=.tuple [.tuple [.str "deal",.tuple ((plc c k).map fun i=>(prt c i).dat)],if a.isNone=true then .none else .tuple [.str "each",.tuple ((plc c k).map fun i=>a1D (an1 c a i))]]:=by
    unfold prD;rw [bE9 c a hs'];cases a with
    | none=>simp [Call.dat,tD]
    | some b=>simp [Call.dat,tD,Ans.dat,a1D,an1]
   rw [eR];have f1:aN (aO [YG 0,YG 1]) (aC true) (aB 0) none ((plc c k).map (pcD c a)) ((plc c k).map (pcD c a)) [none,none] h []=some ((plc c k).map fun i=>(prt c i).dat,h):=by
    refine cmM (pcD c a) (fun i=>(prt c i).dat) (fun δ=>∃ u v,δ=[u,v]) _ _ ⟨_,_,rfl⟩ fun i hi δ hδ=>?_;obtain ⟨u,v,rfl⟩:=hδ;exact ⟨[some (.d (prt c i).dat),some (.d (a1D (an1 c a i)))],by simp [pcD,aO,cD],⟨_,_,rfl⟩,rfl⟩
   have f2:aN (aO [YG 0,YG 1]) (aC true) (aB 1) none ((plc c k).map (pcD c a)) ((plc c k).map (pcD c a)) [none,none] h []=some ((plc c k).map fun i=>a1D (an1 c a i),h):=by
    refine cmM (pcD c a) (fun i=>a1D (an1 c a i)) (fun δ=>∃ u v,δ=[u,v]) _ _ ⟨_,_,rfl⟩ fun i hi δ hδ=>?_;obtain ⟨u,v,rfl⟩:=hδ;exact ⟨[some (.d (prt c i).dat),some (.d (a1D (an1 c a i)))],by simp [pcD,aO,cD],⟨_,_,rfl⟩,rfl⟩
   simp only [cE,cH,cP,cO,cR,cS,cT,dC,dD,dE,cM,cN,cX,dB,cQ,cY,cZ,dA,bdi] at f1 f2;have ln:((plc c k).map (pcD c a)).length≠1:=fun z=>by
    rw [List.length_map] at z;obtain ⟨i,e⟩:=List.length_eq_one_iff.mp z;exact hs' i e
   generalize c.dat=cd at *;generalize tD a=t at *;generalize (List.range (prts c).length).map (pcD c a)=P at *;generalize (plc c k).map (pcD c a)=Q at *;generalize (plc c k).map (fun i=>(prt c i).dat)=Q1 at *;generalize (plc c k).map (fun i=>a1D (an1 c a i))=Q2 at *;have ln':¬ ((Q.length:Int)=1):=by omega
   cases hb:a.isNone with
   | true=>rw [hb] at it;simp [ck,ik,i0,nw,cp,fl,f1,ln,ln',it,szl,eS]
   | false=>rw [hb] at it;simp [ck,ik,i0,nw,cp,fl,f1,f2,ln,ln',it,szl,eS]
end K47

namespace K47
open PySem PySem.Spec PyProof.Rows L2 DL CI SJ
def asL (c:SJ.Call) (a:Option SJ.Ans):List PyData:=(List.range (prts c).length).map fun i=>a1D (an1 c a i)
def aD7 (d:Nat) (h:aA) {c:SJ.Call} (hc:c.ok) {a:Option SJ.Ans} (hf:∀ b,a=some b->Ans.fits c b):aD T (d+2) "_law_answers" [.d c.dat,.d (tD a)] h=some (.list (asL c a),h):=by
 have eS:∀ z:PyData,aJ h (.rt (.d z),h)=some (z,h):=fun z=>aQ (fun _ _=>rfl) (Nat.le_refl _);rw [show d+2=(d+1)+1 from rfl,nG];cases a with
 | none =>
  have cp:=lU d h hc;have cm:aN (YG 0) (aC true) (YZ) none ((prts c).map One.dat) ((prts c).map One.dat) [none] h []=some ((prts c).map fun _=>.none,h):=by
   refine cmM One.dat (fun _=>.none) (fun δ=>∃ u,δ=[u]) _ _ ⟨_,rfl⟩ fun o ho δ hδ=>?_;obtain ⟨u,rfl⟩:=hδ;exact ⟨_,rfl,⟨_,rfl⟩,rfl⟩
  have e:asL c none=(prts c).map fun _=>.none:=by
   have z:=kU c;have:(prts c).map (fun _=>PyData.none)=((List.range (prts c).length).map (prt c)).map fun _=>PyData.none:=by rw [z]
   rw [this,List.map_map];rfl
  rw [e];simp only [cE,cH,cP,cO,cR,cS,cT,dC,dD,dE,cM,cN,cX,dB,cQ,cY,cZ,dA,bdi] at cm;generalize c.dat=cd at *;simp [tD,cp,cm,eS]
 | some b =>
  have hb:=hf b rfl;have hl:=aQ9 hc hb;have e:asL c (some b)=(kT c b).map An1.dat:=by
   have z:=pT (kT c b) .dn;rw [hl] at z;have:(kT c b).map An1.dat=((List.range (prts c).length).map fun i=>(kT c b).getD i .dn).map An1.dat:=by rw [z]
   rw [this,List.map_map];rfl
  have isn:=yM b;rw [e];cases c<;>cases b<;>first | exact hb.elim | skip
  ·rename_i o a;have e2:tD (some (SJ.Ans.one a))=a.dat:=rfl;have e3:(kT (.one o) (.one a)).map An1.dat=[a.dat]:=rfl;have isn:xIs (.d a.dat) (.d .none)=some false:=isn;rw [e2,e3];generalize a.dat=t at *;cases o<;>simp [Call.dat,One.dat,isn,szl,eS]
  ·rename_i lo hi ns;have cm:aN (YG 0) (aC true) (xb (xPl (Y2 (YS "got") (aB 0))) YT) none (ns.map .int) (ns.map .int) [none] h []=some (ns.map fun n=>.tuple [.str (Str.ofString "got"),.int n],h):=by
    refine cmM PyData.int (fun n=>.tuple [.str (Str.ofString "got"),.int n]) (fun δ=>∃ u,δ=[u]) _ _ ⟨_,rfl⟩ fun o ho δ hδ=>?_;obtain ⟨u,rfl⟩:=hδ;exact ⟨_,rfl,⟨_,rfl⟩,by simp [szl]⟩
   have e3:(kT (.span lo hi) (.all ns)).map An1.dat=ns.map fun n=>.tuple [.str (Str.ofString "got"),.int n]:=by
    simp [kT,Function.comp_def,An1.dat]
   rw [e3];simp only [cE,cH,cP,cO,cR,cS,cT,dC,dD,dE,cM,cN,cX,dB,cQ,cY,cZ,dA,bdi] at cm;simp [Call.dat,tD,Ans.dat,cm,eS]
  ·rename_i cs as;simp [Call.dat,tD,Ans.dat,ref,kT,eS]
def aR5 {c:SJ.Call} {i:Nat} (hi:i < (prts c).length):atI ((prts c).map One.dat) (i:Int)=some (prt c i).dat:=bO (by simp [prt,List.getD,hi])
def bP8 {c:SJ.Call} {a:Option SJ.Ans} {i:Nat} (hi:i < (prts c).length):atI (asL c a) (i:Int)=some (a1D (an1 c a i)):=bO (by simp [asL,hi])
end K47

namespace K47
open PySem PySem.Spec PyProof.Rows L2 DL CI SJ
def lf:One->An1->Option (Nat×Int)
 | .write k v,_=>some (k,v)
 | .add k _,.got w=>some (k,w)
 | .swap k _ n,.yes=>some (k,n)
 | _,_=>none
noncomputable def nR (kl:List (Nat×Int)) (p:Nat×Int):List (Nat×Int):=if (kl.any fun q=>decide (q.1=p.1))=true then kl.map (fun q=>if q.1=p.1 then (q.1,p.2) else q) else kl++[p]
noncomputable def pkD (p:Nat×Int):PyData×PyData:=(.int p.1,.int p.2)
noncomputable def ptD (p:Nat×Int):PyData:=.tuple [.int p.1,.int p.2]
def rJ (a b:Nat):decide (bI (.int a)=bI (.int b))=decide (a=b):=by
 rw [decide_eq_decide];refine ⟨fun h=>?_,fun h=>by rw [h]⟩;injection h with h
 injection h with h
 omega
def bP9 (kl:List (Nat×Int)) (p:Nat×Int):pZ (kl.map pkD) (.int p.1) (.int p.2)=(nR kl p).map pkD:=by
 unfold pZ nR;have e:((kl.map pkD).any fun q=>decide (bI q.1=bI (.int p.1)))=kl.any fun q=>decide (q.1=p.1):=by
  rw [List.any_map]
  congr 1
  funext q
  exact rJ q.1 p.1
 rw [e];split
 ·rw [List.map_map,List.map_map];refine List.map_congr_left fun q _=>?_;have:=rJ q.1 p.1
  by_cases h:q.1=p.1
  ·have h2:bI (pkD q).1=bI (.int p.1):=by simp [pkD,h]
   simp [h,h2];simp [pkD,h]
  ·have h2:¬ bI (pkD q).1=bI (.int p.1):=fun z=>by
    have z':bI (.int q.1)=bI (.int p.1):=z;rw [decide_eq_true z',decide_eq_false h] at this;cases this
   simp [h,h2]
 ·rw [List.map_append];rfl
def aD8 {kl:List (Nat×Int)} {p:Nat×Int} (h:(kl.map (·.1)).Nodup):((nR kl p).map (·.1)).Nodup:=by
 unfold nR;split
 ·rw [List.map_map];have:kl.map ((fun q:Nat×Int=>q.1) ∘ fun q=>if q.1=p.1 then (q.1,p.2) else q)=kl.map (·.1):=List.map_congr_left fun q _=>by
   by_cases z:q.1=p.1<;>simp [z]
  rw [this];exact h
 ·rename_i hn;rw [List.map_append,List.nodup_append];refine ⟨h,by simp,fun a ha b hb=>?_⟩;obtain ⟨q,hq,rfl⟩:=List.mem_map.mp ha;have:b=p.1:=by simpa using hb
  subst this;intro z;exact hn (List.any_eq_true.mpr ⟨q,hq,decide_eq_true z⟩)
def mem_putP {kl:List (Nat×Int)} {p q:Nat×Int} (h:q∈nR kl p):q∈kl\/q.1=p.1:=by
 unfold nR at h;split at h
 ·obtain ⟨r,hr,rfl⟩:=List.mem_map.mp h;split
  ·rename_i z;exact .inr z
  ·exact .inl hr
 ·rcases List.mem_append.mp h with z | z
  ·exact .inl z
  ·exact .inr (by rw [List.mem_singleton.mp z])
def aR6 (kl:List (Nat×Int)) (p:Nat×Int):(nR kl p).length<=kl.length+1:=by
 unfold nR;split
 ·rw [List.length_map];omega
 ·rw [List.length_append];simp
noncomputable def srtL (kl:List (Nat×Int)):List (Nat×Int):=kl.mergeSort fun a b=>decide (a.1<=b.1)
def eV (kl:List (Nat×Int)):(srtL kl).Perm kl:=List.mergeSort_perm _ _
def rK (kl:List (Nat×Int)):(srtL kl).Pairwise fun a b=>a.1<=b.1:=by
 have h:=List.pairwise_mergeSort (le:=fun a b:Nat×Int=>decide (a.1<=b.1)) (fun a b c h1 h2=>by simp at *;omega) (fun a b=>by simp;omega) kl;exact h.imp fun h=>by simpa using h
def aD9 {kl:List (Nat×Int)} (h:(kl.map (·.1)).Nodup):((srtL kl).map (·.1)).Nodup:=((eV kl).map _).nodup_iff.mpr h
def bA9 {kl:List (Nat×Int)} (h:(kl.map (·.1)).Nodup):(srtL kl).Pairwise fun a b=>a.1 < b.1:=by
 have h1:=rK kl;have h2:=List.pairwise_map.mp (aD9 h);exact (List.Pairwise.and h1 h2).imp fun ⟨a,b⟩=>Nat.lt_of_le_of_ne a b
def aR7 (kl:List (Nat×Int)):ST.srt (kl.map fun p=>(p.1:Int))=(srtL kl).map fun p=>(p.1:Int):=by
 refine (ST.srt_only ((eV kl).map _) ?_).symm;rw [List.pairwise_map];exact (rK kl).imp fun h=>by omega
def aE0 {kl:List (Nat×Int)} (h:(kl.map (·.1)).Nodup):kY (kl.map fun p=>(p.1:Int)) (kl.map ptD)=(srtL kl).map ptD:=by
 have nd:((((kl.map fun p=>(p.1:Int)).map fun k=>-k).zip (kl.map ptD)).map (·.1)).Nodup:=by
  rw [DL.fst_zip (by simp),List.map_map];exact List.pairwise_map.mpr ((List.pairwise_map.mp h).imp fun {a b} hab z=>hab (by simp only [Function.comp] at z;omega))
 have e:((kl.map fun p=>(p.1:Int)).map fun k=>-k).zip (kl.map ptD)=kl.map fun p=>(-(p.1:Int),ptD p):=by
  rw [List.map_map,List.zip_map',];rfl
 have q:(srtL kl).map (fun p=>(-(p.1:Int),ptD p))=DL.dsc (((kl.map fun p=>(p.1:Int)).map fun k=>-k).zip (kl.map ptD)):=by
  refine DL.dsc_only nd ?_ ?_
  ·rw [e];exact (eV kl).map _
  ·rw [List.pairwise_map];exact (rK kl).imp fun h=>by simp;omega
 show (DL.dsc (((kl.map fun p=>(p.1:Int)).map fun k=>-k).zip (kl.map ptD))).map (·.2)=_;rw [<- q,List.map_map];rfl
def aR8 (kl:List (Nat×Int)):bD ((kl.map pkD).map (·.1))=some (kl.map fun p=>(p.1:Int)):=by
 induction kl with
 | nil=>rfl
 | cons a r ih=>rw [List.map_cons,List.map_cons,List.map_cons];show (bD ((r.map pkD).map (·.1))).map _=_;rw [ih];rfl
def bQ0 {kl:List (Nat×Int)} (h:(kl.map (·.1)).Nodup) {p:Nat×Int} (hp:p∈kl):((kl.map pkD).find? fun q=>decide (bI q.1=some (.inl (p.1:Int))))=some (pkD p):=by
 induction kl with
 | nil=>cases hp
 | cons a r ih =>
  rw [List.map_cons,List.find?_cons];rw [List.map_cons,List.nodup_cons] at h;have kd:decide (bI (pkD a).1=some (.inl (p.1:Int)))=decide (a.1=p.1):=rJ a.1 p.1;rw [kd];rcases List.mem_cons.mp hp with rfl | hp
  ·simp
  ·have:a.1≠p.1:=fun z=>h.1 (by rw [z];exact List.mem_map.mpr ⟨p,hp,rfl⟩);rw [decide_eq_false this];exact ih h.2 hp
end K47

namespace K47
open PySem PySem.Spec PyProof.Rows L2 DL CI SJ
def lvp (c:SJ.Call) (b:SJ.Ans) (m:Nat):List (Nat×Int):=((List.range m).filterMap fun i=>lf (prt c i) (fI c b i)).foldl nR []
theorem pU (c:SJ.Call) (b:SJ.Ans) (m:Nat):lvp c b (m+1)=match lf (prt c m) (fI c b m) with
  | some p=>nR (lvp c b m) p
  | none=>lvp c b m:=by
 unfold lvp;rw [List.range_succ,List.filterMap_append,List.foldl_append];cases e:lf (prt c m) (fI c b m)<;>simp [e]
theorem nS (c:SJ.Call) (b:SJ.Ans):∀ m,((lvp c b m).map (·.1)).Nodup
 | 0=>List.nodup_nil
 | m+1=>by
  rw [pU];split
  ·exact aD8 (nS c b m)
  ·exact nS c b m
theorem iO (c:SJ.Call) (b:SJ.Ans):∀ m,(lvp c b m).length<=m
 | 0=>Nat.le_refl _
 | m+1=>by
  rw [pU];have:=iO c b m;split
  ·have:=aR6 (lvp c b m) (by assumption);omega
  ·omega
def lft (c:SJ.Call) (b:SJ.Ans):List (Nat×Int):=lvp c b (prts c).length
def lfs (c:SJ.Call) (b:SJ.Ans):List (Nat×Int):=srtL (lft c b)
def lvD (c:SJ.Call) (b:SJ.Ans):PyData:=.tuple ((lfs c b).map ptD)
theorem cB3:∀ kl:List (Nat×Int),fP (kl.map pkD)=none
 | []=>rfl
 | [a]=>rfl
 | a::b::r=>rfl
variable (d:Nat) (h:aA)
def wH (kl:List (Nat×Int)):ref (h++[.k (kl.map pkD)]) (.c h.length)=some (.dict (kl.map pkD)):=by simp [ref]
def aR9 (kl:List (Nat×Int)) (hl:kl.length<=8) (p:Nat×Int) (δ:DSt):kB h.length (.int p.1) (.int p.2) δ (h++[.k (kl.map pkD)])=some (δ,h++[.k ((nR kl p).map pkD)]):=by
 have e:=bP9 kl p;have k1:(bI (.int p.1)).isSome=true/\(kl.map pkD).length < sizeLine:=⟨rfl,by rw [List.length_map,sizeLine_eq];omega⟩;rw [gP,CI.get_last];dsimp only;rw [if_pos k1,e,CI.set_last]
def aS0 {w:W} {H:aA} {kvs:List (PyData×PyData)} (e:ref H w=some (.dict kvs)):lF [w] H=if (fP kvs).isNone=true then (bD (kvs.map (·.1))).bind fun ns=>if ns.length < 64 then some ((ST.srt ns).map .int,H) else none else none:=by
 simp only [lF,e]
def bB0 {w:W} {H:aA} {kvs:List (PyData×PyData)} {k:Int} (e:ref H w=some (.dict kvs)):xIx w (.d (.int k)) H=(kvs.find? fun p=>decide (bI p.1=some (.inl k))).map fun p=>(.d p.2,H):=by
 simp only [xIx,e,bI]
def bQ1 (a:An1) (H:aA):xEq (.d a.dat) (.d (.tuple [.str (Str.ofString "yes")])) H=some (match a with | .yes=>true | _=>false):=by
 cases a<;>simp [xEq,ref,An1.dat,PyData.eqv,PyData.eqvAll]
def aE1 {c:SJ.Call} (hc:c.ok) {b:SJ.Ans} (hf:Ans.fits c b):aD T (d+3) "_law_left" [.d c.dat,.d (tD (some b))] h=some (lvD c b,h):=by
 have cp:=fun H=>lU (d+1) H hc;have ca:=fun H=>aD7 d H hc (a:=some b) (fun x e=>by cases e;exact hf);have l8:=jV hc;have er:cU 0 (prts c).length=true:=bN (by omega) (by omega);have ap:∀ H i,i < (prts c).length->xIx (.d (.list ((prts c).map One.dat))) (.d (.int i)) H=some (.d (prt c i).dat,H):=fun H i hi=>by rw [CI.ix_l,aR5 hi];rfl
 have aa:∀ H i,i < (prts c).length->xIx (.d (.list (asL c (some b)))) (.d (.int i)) H=some (.d (fI c b i).dat,H):=fun H i hi=>by rw [CI.ix_l,bP8 hi];rfl
 have lp:∀ H,aY [.d (.list ((prts c).map One.dat))] H=some (.d (.int (prts c).length),H):=fun H=>by simp
 have fits:=fun {i} hi=>pR (i:=i) hf hi;obtain ⟨P,hP⟩:∃ P,P=PyData.list ((prts c).map One.dat):=⟨_,rfl⟩;obtain ⟨A,hA⟩:∃ A,A=PyData.list (asL c (some b)):=⟨_,rfl⟩;rw [<- hP] at ap lp;simp only [<- hP] at cp;rw [<- hA] at aa;simp only [<- hA] at ca;have l1:∃ δ' h',bJ (YG 5) (dN (d+2)) none ((List.range (prts c).length).map nI) ((List.range (prts c).length).map nI) [some (.d c.dat),some (.d (tD (some b))),some (.c h.length),some (.d P),some (.d A),none] (h++[.k []])=some (.nx δ',h')/\((∃ x5,δ'=[some (.d c.dat),some (.d (tD (some b))),some (.c h.length),some (.d P),some (.d A),x5])/\h'=h++[.k ((lft c b).map pkD)]):=by
  refine gA (fun m δ h'=>(∃ x5,δ=[some (.d c.dat),some (.d (tD (some b))),some (.c h.length),some (.d P),some (.d A),x5])/\h'=h++[.k ((lvp c b m).map pkD)]) ⟨⟨_,rfl⟩,rfl⟩ (fun δ h'=>by rw [List.length_map,List.length_range];exact id) fun m hm δ h'=>?_;rintro ⟨⟨x5,rfl⟩,rfl⟩;have hm':m < (prts c).length:=by simpa using hm
  rw [List.getElem_map,List.getElem_range,pU];have a1:=fun H=>ap H m hm';have a2:=fun H=>aa H m hm';have ft:=fits hm';have ll:(lvp c b m).length<=8:=by have:=iO c b m;omega
  have pk:=fun p δ=>aR9 h (lvp c b m) ll p δ;have ey:=fun H=>bQ1 (fI c b m) H;refine ⟨_,_,rfl,?_⟩;unfold dN;refine ⟨[some (.d c.dat),some (.d (tD (some b))),some (.c h.length),some (.d P),some (.d A),some (.d (nI m))],_,?_,⟨_,rfl⟩,rfl⟩;generalize tD (some b)=td at *;generalize c.dat=cd at *;generalize prt c m=o at *;generalize fI c b m=a at *;cases o with
  | read k=>simp [-gP,nI,a1,One.dat,lf]
  | write k v =>
   have:=pk (k,v);dsimp only at this;cases a<;>simp [-gP,nI,a1,One.dat,lf,this]
  | add k n =>
   cases a<;>first | exact ft.elim | skip
   rename_i w;have:=pk (k,w);dsimp only at this;simp [-gP,nI,a1,a2,One.dat,An1.dat,lf,this]
  | swap k o n =>
   cases a<;>first | exact ft.elim | skip
   ·have:=pk (k,n);dsimp only at this ey;simp [-gP,nI,a1,a2,One.dat,lf,this,ey,szl]
   ·dsimp only at ey;simp [-gP,nI,a1,a2,One.dat,lf,ey,szl]
 obtain ⟨_,_,e1,⟨x5,rfl⟩,rfl⟩:=l1;have nd:((lft c b).map (·.1)).Nodup:=nS c b _;have ll:(lft c b).length<=8:=by have:=iO c b (prts c).length;unfold lft;omega
 have sr:lF [.c h.length] (h++[.k ((lft c b).map pkD)])=some ((srtL (lft c b)).map fun p=>.int p.1,h++[.k ((lft c b).map pkD)]):=by
  rw [aS0 (wH h (lft c b))];have k1:(fP ((lft c b).map pkD)).isNone=true:=by rw [cB3];rfl
  have k2:((lft c b).map fun p=>(p.1:Int)).length < 64:=by rw [List.length_map];omega
  rw [if_pos k1,aR8];simp only [CI.bs];rw [if_pos k2,aR7,List.map_map];rfl
 have ix:∀ p∈srtL (lft c b),xIx (.c h.length) (.d (.int p.1)) (h++[.k ((lft c b).map pkD)])=some (.d (.int p.2),h++[.k ((lft c b).map pkD)]):=fun p hp=>by
  rw [bB0 (wH h (lft c b)),bQ0 nd ((eV _).mem_iff.mp hp)];rfl
 have m2:aN (YG 0) (aC true) (xb (xPl (Y2 (aB 0) (xb (aB 1) fun x=>xb (aB 0) (YX x)))) YT) none ((srtL (lft c b)).map fun p=>.int p.1) ((srtL (lft c b)).map fun p=>.int p.1) [none,some (.c h.length)] (h++[.k ((lft c b).map pkD)]) []=some ((srtL (lft c b)).map ptD,h++[.k ((lft c b).map pkD)]):=by
  refine cmM (fun p:Nat×Int=>PyData.int p.1) ptD (fun δ=>∃ u,δ=[u,some (.c h.length)]) _ _ ⟨_,rfl⟩ fun p hp δ hδ=>?_;obtain ⟨u,rfl⟩:=hδ;have:=ix p hp;exact ⟨_,rfl,⟨_,rfl⟩,by simp [this,szl,ptD]⟩
 simp only [cE,cH,cP,cO,cR,cS,cT,dC,dD,dE,cM,cN,cX,dB,cQ,cY,cZ,dA,bdi] at m2;have ek:=fun z=>aQ (z:=z) (h:=h) (H:=h++[.k ((lft c b).map pkD)]) (fun i hi=>List.getElem?_append_left hi) (by simp);rw [show d+3=(d+2)+1 from rfl,tM];refine sq (.rt (.d (lvD c b)),h++[.k ((lft c b).map pkD)]) ?_ (ek _);generalize tD (some b)=td at *;generalize hcd:c.dat=cd at *;refine sy [some (.d cd),some (.d td),some (.c h.length),none,none,none] (h++[.k []]) (by simp [oQ]) ?_;refine sy [some (.d cd),some (.d td),some (.c h.length),some (.d P),none,none] (h++[.k []]) (by simp [cp]) ?_;refine sy [some (.d cd),some (.d td),some (.c h.length),some (.d P),some (.d A),none] (h++[.k []]) (by simp [ca]) ?_;refine sy [some (.d cd),some (.d td),some (.c h.length),some (.d P),some (.d A),x5] (h++[.k ((lft c b).map pkD)]) (ypS (((List.range (prts c).length).map nI,none),h++[.k []]) (by simp [lp,er,tR]) e1) ?_;simp [sr,m2,lvD,lfs]
end K47

namespace K47
open PySem PySem.Spec PyProof.Rows L2 DL CI SJ
variable (d:Nat) (h:aA)
noncomputable def vD:Option (Nat×Int)->PyData
 | some p=>.int p.2
 | none=>.none
def bB1 {w:W} {H:aA} {kvs:List (PyData×PyData)} (e:ref H w=some (.dict kvs)):xSI w H=if (fP kvs).isNone=true then (bD (kvs.map (·.1))).bind fun ks=>if kvs.length < 64 then some (kY ks (kvs.map fun p=>.tuple [p.1,p.2]),H) else none else none:=by
 simp only [xSI,e]
def bB2 {o:One} {a:An1} (ft:An1.fits o a):aD T (d+1) "value_left" [.d o.dat,.d a.dat] h=some (vD (lf o a),h):=by
 have eS:∀ z:PyData,aJ h (.rt (.d z),h)=some (z,h):=fun z=>aQ (fun _ _=>rfl) (Nat.le_refl _);cases o<;>cases a<;>first | exact ft.elim | skip
 all_goals simp [jR,One.dat,An1.dat,lf,vD,szl,eS,xEq,ref,PyData.eqv,PyData.eqvAll]
def bQ2 (b:SJ.Ans) (H:aA):xEq (.d b.dat) (.d (.tuple [.str (Str.ofString "refused")])) H=some false:=by
 cases b with
 | one a=>cases a<;>simp [xEq,ref,Ans.dat,An1.dat,PyData.eqv,PyData.eqvAll]
 | all ns =>
  have:=gZ ns 62;simp [xEq,ref,Ans.dat,PyData.eqv,PyData.eqvAll,this]
 | each as =>
  have:=lR as 61;simp [xEq,ref,Ans.dat,PyData.eqv,PyData.eqvAll,this]
theorem tV (lo hi:Nat) (b:SJ.Ans):∀ m,m<=(prts (.span lo hi)).length->lvp (.span lo hi) b m=[]
 | 0,_=>rfl
 | m+1,hm=>by
  have e:prt (.span lo hi) m=.read (lo+m):=by
   have:m+1<=hi - lo:=by simpa [prts] using hm
   have:m < hi - lo:=by omega
   simp [prt,prts,List.getD,this]
  rw [pU,e,tV lo hi b m (by omega)];rfl
end K47

namespace K47
open PySem PySem.Spec PyProof.Rows L2 DL CI SJ
variable (d:Nat) (h:aA)
def aS1 {c:SJ.Call} (hc:c.ok) {b:SJ.Ans} (hf:Ans.fits c b):aD T (d+3) "left_by" [.d c.dat,.d (tD (some b))] h=some (lvD c b,h):=by
 have nd:((lft c b).map (·.1)).Nodup:=nS c b _;have l8:=jV hc;have ll:(lft c b).length<=8:=by have:=iO c b (prts c).length;unfold lft;omega
 have fits:=fun {i} hi=>pR (i:=i) hf hi;have nr:=fun H=>bQ2 b H;have si:xSI (.c h.length) (h++[.k ((lft c b).map pkD)])=some ((lfs c b).map ptD,h++[.k ((lft c b).map pkD)]):=by
  rw [bB1 (wH h (lft c b))];have k1:(fP ((lft c b).map pkD)).isNone=true:=by rw [cB3];rfl
  have k2:((lft c b).map pkD).length < 64:=by rw [List.length_map];omega
  rw [if_pos k1,aR8];simp only [CI.bs];rw [if_pos k2];have e:((lft c b).map pkD).map (fun p=>PyData.tuple [p.1,p.2])=(lft c b).map ptD:=by rw [List.map_map];rfl
  rw [e,aE0 nd];rfl
 have ek:=fun z=>aQ (z:=z) (h:=h) (H:=h++[.k ((lft c b).map pkD)]) (fun i hi=>List.getElem?_append_left hi) (by simp)
 -- the loop
 have l1:∃ L:List PyData,aD T (d+2) "parts_of" [.d c.dat,.d (tD (some b))] (h++[.k []])=some (.list L,h++[.k []])/\∃ δ' h',bJ (aO [YG 3,YG 4]) (dF (d+2)) none L L [some (.d c.dat),some (.d (tD (some b))),some (.c h.length),none,none,none] (h++[.k []])=some (.nx δ',h')/\((∃ x3 x4 x5,δ'=[some (.d c.dat),some (.d (tD (some b))),some (.c h.length),x3,x4,x5])/\h'=h++[.k ((lft c b).map pkD)]):=by
  cases hn:nsp c with
  | true =>
   refine ⟨_,aR1 (d+1) (h++[.k []]) hn (fun x e=>by cases e;exact hf),?_⟩;refine gA (fun m δ h'=>(∃ x3 x4 x5,δ=[some (.d c.dat),some (.d (tD (some b))),some (.c h.length),x3,x4,x5])/\h'=h++[.k ((lvp c b m).map pkD)]) ⟨⟨_,_,_,rfl⟩,rfl⟩ (fun δ h'=>by rw [List.length_map,List.length_range];exact id) fun m hm δ h'=>?_;rintro ⟨⟨x3,x4,x5,rfl⟩,rfl⟩;have hm':m < (prts c).length:=by simpa using hm
   rw [List.getElem_map,List.getElem_range,pU];have ft:=fits hm';have vl:=fun H=>bB2 (d+1) H ft;have ll:(lvp c b m).length<=8:=by have:=iO c b m;omega
   have pk:=fun p δ=>aR9 h (lvp c b m) ll p δ;have e2:pcD c (some b) m=.tuple [(prt c m).dat,(fI c b m).dat]:=rfl;rw [e2];refine ⟨[some (.d c.dat),some (.d (tD (some b))),some (.c h.length),some (.d (prt c m).dat),some (.d (fI c b m).dat),x5],h++[.k ((lvp c b m).map pkD)],by simp [aO,cD],?_⟩;unfold dF;refine ⟨[some (.d c.dat),some (.d (tD (some b))),some (.c h.length),some (.d (prt c m).dat),some (.d (fI c b m).dat),some (.d (vD (lf (prt c m) (fI c b m))))],_,?_,⟨_,_,_,rfl⟩,rfl⟩;have o1:=fun H=>aQ5 (prt c m) H;have kk:∀ p,lf (prt c m) (fI c b m)=some p->(prt c m).key=p.1:=fun p e=>by
    generalize prt c m=o at *;generalize fI c b m=a at *;cases o<;>cases a<;>first | (cases e;rfl) | cases e
   generalize tD (some b)=td at *;generalize c.dat=cd at *;generalize (prt c m).dat=od at *;generalize (fI c b m).dat=ad at *;cases hl:lf (prt c m) (fI c b m) with
   | none =>
    rw [hl] at vl;simp [vl,vD]
   | some p =>
    rw [hl] at vl;have k1:=kk p hl;rw [k1] at o1;have:=pk p;have isn:xIs (.d (.int p.2)) (.d .none)=some false:=rfl;simp [-gP,vl,vD,o1,this,isn]
  | false =>
   cases c with
   | one o=>cases hn
   | deal cs=>cases hn
   | span lo hi =>
    have e0:lft (.span lo hi) b=[]:=tV lo hi b _ (Nat.le_refl _);rw [e0];have eS:∀ H,∀ z:PyData,aJ H (.rt (.d z),H)=some (z,H):=fun H z=>aQ (fun _ _=>rfl) (Nat.le_refl _);generalize tD (some b)=td at *;refine ⟨[.tuple [(SJ.Call.span lo hi).dat,td]],by simp [gR,Call.dat,szl,eS],?_⟩;have vl:∀ H,aD T (d+2) "value_left" [.d (SJ.Call.span lo hi).dat,.d td] H=some (.none,H):=fun H=>by simp [jR,Call.dat,eS]
    generalize (SJ.Call.span lo hi).dat=cd at *;refine ⟨[some (.d cd),some (.d td),some (.c h.length),some (.d cd),some (.d td),some (.d .none)],h++[.k []],?_,⟨_,_,_,rfl⟩,rfl⟩;simp [aO,cD,bJ,dF,vl]
 obtain ⟨L,cp,_,_,e1,⟨x3,x4,x5,rfl⟩,rfl⟩:=l1;have cp:aD T (d+2) (Str.ofString "parts_of") [.d c.dat,.d (tD (some b))] (h++[.k []])=some (.list L,h++[.k []]):=cp;rw [show d+3=(d+2)+1 from rfl,aC5];refine sq (.rt (.d (lvD c b)),h++[.k ((lft c b).map pkD)]) ?_ (ek _);have nr:∀ H,xEq (.d (tD (some b))) (.d (.tuple [.str (Str.ofString "refused")])) H=some false:=nr;generalize tD (some b)=td at *;generalize hcd:c.dat=cd at *;refine sy [some (.d cd),some (.d td),none,none,none,none] h (by simp [nr]) ?_;refine sy [some (.d cd),some (.d td),some (.c h.length),none,none,none] (h++[.k []]) (by simp [oQ]) ?_;refine sy [some (.d cd),some (.d td),some (.c h.length),x3,x4,x5] (h++[.k ((lft c b).map pkD)]) (ypS ((L,none),h++[.k []]) (by simp [cp,aM]) e1) ?_;simp [si,lvD]
end K47

namespace K47
open PySem PySem.Spec PyProof.Rows L2 DL CI SJ
noncomputable def isW:One->Bool
 | .write _ _=>true
 | _=>false
def sn (c:SJ.Call):Bool:=(prts c).any fun o=>!isW o
def yW {lo hi:Nat} (hc:(SJ.Call.span lo hi).ok):sn (.span lo hi)=true:=by
 obtain ⟨h1,h2⟩:=hc;refine List.any_eq_true.mpr ⟨.read (lo+0),?_,rfl⟩;exact List.mem_map.mpr ⟨0,List.mem_range.mpr (by omega),rfl⟩
variable (d:Nat) (h:aA)
def aS2 {c:SJ.Call} (hc:c.ok):aD T (d+1) "writes_alone" [.d c.dat] h=some (.bool (!sn c),h):=by
 have eS:∀ z:PyData,aJ h (.rt (.d z),h)=some (z,h):=fun z=>aQ (fun _ _=>rfl) (Nat.le_refl _);have xa:∀ xs,hV [.d (.list xs)] h=(cI xs).map fun bs=>(.d (.bool (bs.all id)),h):=fun _=>rfl;cases c with
 | one o =>
  cases o<;>simp [fG,Call.dat,One.dat,sn,prts,isW,szl,eS,aN,xa,cI]
 | span lo hi =>
  rw [yW hc];simp [fG,Call.dat,szl,eS,aN,xa,cI]
 | deal cs =>
  have cm:aN (YG 0) (aC true) (aX (xC1 CmpOp.Eq (YV 0 0) (YS "write"))) none (cs.map One.dat) (cs.map One.dat) [none] h []=some (cs.map fun o=>.bool (isW o),h):=by
   refine cmM One.dat (fun o=>.bool (isW o)) (fun δ=>∃ u,δ=[u]) _ _ ⟨_,rfl⟩ fun o ho δ hδ=>?_;obtain ⟨u,rfl⟩:=hδ;refine ⟨_,rfl,⟨_,rfl⟩,?_⟩;cases o<;>simp [One.dat,isW]
  have bf:=lT isW cs;have e:(cs.map isW).all id=!sn (.deal cs):=by
   simp only [sn,prts,List.all_map,List.any_eq_not_all_not,Bool.not_not];rfl
  simp only [cE,cH,cP,cO,cR,cS,cT,dC,dD,dE,cM,cN,cX,dB,cQ,cY,cZ,dA,bdi] at cm;simp [fG,Call.dat,aM,cm,xa,bf,e,eS]
def bQ3 (c:SJ.Call) (H:aA):aN (YG 0) (xC1 CmpOp.NotEq (YV 0 0) (YS "write")) (aB 0) none ((prts c).map One.dat) ((prts c).map One.dat) [none] H []=some (((prts c).filter fun o=>!isW o).map One.dat,H):=by
 rw [cmT One.dat (fun o=>!isW o) One.dat (fun δ=>∃ u,δ=[u]) _ _ [] ⟨_,rfl⟩ fun o ho δ hδ=>?_]
 ·rfl
 ·obtain ⟨u,rfl⟩:=hδ;refine ⟨[some (.d o.dat)],rfl,⟨_,rfl⟩,?_,fun _=>rfl⟩;cases o<;>simp [One.dat,isW]
def bB3 (c:SJ.Call) (H:aA):xEq (.d (.list (((prts c).filter fun o=>!isW o).map One.dat))) (.d (.list [])) H=some (!sn c):=by
 rw [aQ4,jU];rfl
end K47

namespace K47
open PySem PySem.Spec PyProof.Rows L2 DL CI SJ
noncomputable def wdS (b:Bool):String:=if b=true then "may" else "must"
noncomputable def fU (x:Dd):Option SJ.Ans:=x.fin.bind (·.2)
def tW {x:Dd} (h:x.keep=true):x.ansD=tD (fU x):=by
 obtain ⟨a,b,c,e⟩:=x;cases e with
 | none=>rfl
 | some p =>
  obtain ⟨t,o⟩:=p;cases o with
  | none=>cases h
  | some a=>rfl
def gH {x:Dd} (hx:x.ok):∀ b,fU x=some b->Ans.fits x.call b:=fun b e=>by
 unfold fU at e;cases f:x.fin with
 | none=>rw [f] at e;cases e
 | some p =>
  rw [f] at e;exact (hx.fin p f).2 b e
def jW (hs:List Dd):(tk hs).Perm (nums hs):=nP _ _
def tX {hs:List Dd} {i:Nat} (h:i∈tk hs):i < hs.length:=fO ((jW hs).mem_iff.mp h)
def yX {hs:List Dd} {i:Nat} (h:i∈tk hs):(gD hs i).keep=true:=(List.mem_filter.mp ((jW hs).mem_iff.mp h)).2
def jH {hs:List Dd} (ok:HOk hs):(tk hs).length<=60:=by rw [(jW hs).length_eq];exact nQ ok
def aS3 (x:Dd):xIs (.d x.endD) (.d .none)=some x.fin.isNone:=by
 obtain ⟨a,b,c,e⟩:=x;cases e<;>rfl
def bB4 (d:Nat) (h:aA) {hs:List Dd} {i:Nat} (hi:i < hs.length) (s a:PyData):aD T (d+1) "entry" [.d (.tuple (hs.map Dd.dat)),.d (.int i),.d s,.d a] h=some (.tuple [.tuple [s,a,.str (Str.ofString (wdS (gD hs i).fin.isNone))],.int i],h):=by
 have eS:∀ z:PyData,aJ h (.rt (.d z),h)=some (z,h):=fun z=>aQ (fun _ _=>rfl) (Nat.le_refl _);have ai:=tT hi h;have d2:=cP2 (gD hs i) h;have ie:=aS3 (gD hs i);generalize PyData.tuple (hs.map Dd.dat)=hd at *;rw [aZ3];generalize (gD hs i).fin.isNone=b at *;cases b<;>simp [ai,d2,ie,szl,wdS,eS]
def cP4 (C:aA) (I:DSt->Prop) (x:Option (Fl×aA)):Prop:=∃ δ2,(x=some (.nx δ2,C)\/x=some (.ct δ2,C))/\I δ2
theorem pV {α:Type} {g:XG} {tb:XS} {all:List PyData} (F:α->PyData) (outs:α->List PyData) (C:List PyData->aA) (I:DSt->Prop) (N k:Nat) (hk:∀ q,(outs q).length<=k):∀ (qs:List α) (acc:List PyData) (δ:DSt),I δ->acc.length+k*qs.length<=N ->
  (∀ q∈qs,∀ acc δ,I δ->acc.length+k<=N->∃ δ1,g (.d (F q)) δ (C acc)=some (δ1,C acc)/\cP4 (C (acc++outs q)) I (tb δ1 (C acc))) ->
  ∃ δ',bJ g tb none all (qs.map F) δ (C acc)=some (.nx δ',C (acc++(qs.map outs).flatten))/\I δ'
 | [],acc,δ,i,_,_=>⟨δ,by simp [bJ],i⟩
 | q::r,acc,δ,i,hN,ht=>by
  rw [List.length_cons,Nat.mul_succ] at hN;obtain ⟨δ1,e1,δ2,e2,i2⟩:=ht q List.mem_cons_self acc δ i (by omega);have hq:=hk q;obtain ⟨δ3,e3,i3⟩:=pV (all:=all) F outs C I N k hk r (acc++outs q) δ2 i2 (by rw [List.length_append];omega) fun y hy=>ht y (List.mem_cons_of_mem _ hy);refine ⟨δ3,?_,i3⟩;rw [List.map_cons,bJ,cJ,if_pos rfl,e1];rcases e2 with e2 | e2
  all_goals
   simp only [CI.bs,e2];rw [e3,List.map_cons,List.flatten_cons,List.append_assoc]
def itC (c:SJ.Call):PyData:=.tuple [c.dat,.none,.str (Str.ofString "may")]
def itL (c:SJ.Call) (b:SJ.Ans):PyData:=.tuple [.tuple [.str (Str.ofString "look"),c.dat],b.dat,.str (Str.ofString "must")]
def itY (c:SJ.Call) (b:SJ.Ans):PyData:=.tuple [.tuple [.str (Str.ofString "lay"),lvD c b],.tuple [.str (Str.ofString "done")],.str (Str.ofString "must")]
def rL (c:SJ.Call):Option SJ.Ans->List PyData
 | none=>[itC c]
 | some b=>(if sn c=true then [itL c b] else [])++(if (lfs c b).isEmpty=true then [] else [itY c b])
def lot (hs:List Dd) (i:Nat):List PyData:=rL (gD hs i).call (fU (gD hs i))
def lV (hs:List Dd) (i:Nat):(lot hs i).length<=2:=by
 unfold lot;cases fU (gD hs i) with
 | none=>exact Nat.le_succ _
 | some b =>
  simp only [rL,List.length_append];have h1:(if sn (gD hs i).call=true then [itL (gD hs i).call b] else []).length<=1:=by split<;>simp
  have h2:(if (lfs (gD hs i).call b).isEmpty=true then [] else [itY (gD hs i).call b]).length<=1:=by split<;>simp
  omega
def hW (hs:List Dd) (i:Nat):List PyData:=(lot hs i).map fun x=>.tuple [x,.int i]
def yY {x:Dd} (h:x.keep=true):x.fin.isNone=(fU x).isNone:=by
 obtain ⟨a,b,c,e⟩:=x;cases e with
 | none=>rfl
 | some p =>
  obtain ⟨t,o⟩:=p;cases o with
  | none=>cases h
  | some a=>rfl
def bB5 (d:Nat) {hs:List Dd} (ok:HOk hs) {H:aA} {ts:List (Pos×Str)} (ht:H[0]?=some (.t ts)) (hts:wD ts):aD T (d+4) "look_entries" [.d (.tuple (hs.map Dd.dat))] H=some (.list (((tk hs).map (hW hs)).flatten),H.set 0 (.t tE)):=by
 have ai:=fun {i} hi H=>tT (hs:=hs) (i:=i) hi H;have en:=fun {i} hi s a H=>bB4 (d+2) H (hs:=hs) (i:=i) hi s a;have hl:=(List.getElem?_eq_some_iff.mp ht).1;have ct:=aP8 (d+2) ok (H:=H++[.l []]) (ts:=ts) (by rw [List.getElem?_append_left hl];exact ht) hts;obtain ⟨hd,ehd⟩:∃ hd,hd=PyData.tuple (hs.map Dd.dat):=⟨_,rfl⟩;rw [<- ehd] at ai en ct;obtain ⟨G,hG⟩:∃ G,G=H.set 0 (.t tE):=⟨_,rfl⟩;have gl:G.length=H.length:=by rw [hG];simp
 have ap:∀ c,(H++[c]).set 0 (.t tE)=G++[c]:=fun c=>by rw [hG,List.set_append_left _ _ hl]
 rw [ap] at ct;rw [<- ehd,<- hG,show d+4=(d+3)+1 from rfl,nB];have tl:=jH ok;have lp:∃ δ',bJ (YG 2) (cB (d+3)) none ((tk hs).map nI) ((tk hs).map nI) [some (.d hd),some (.c H.length),none,none,none,none] (G++[.l []])=some (.nx δ',G++[.l ([]++((tk hs).map (hW hs)).flatten)])/\∃ x2 x3 x4 x5,δ'=[some (.d hd),some (.c H.length),x2,x3,x4,x5]:=by
  refine pV nI (hW hs) (fun acc=>G++[.l acc]) (fun δ=>∃ x2 x3 x4 x5,δ=[some (.d hd),some (.c H.length),x2,x3,x4,x5]) 1000 2 (fun q=>by unfold hW;rw [List.length_map];exact lV hs q) (tk hs) [] _ ⟨_,_,_,_,rfl⟩ (by rw [List.length_nil];omega) ?_;rintro i him acc δ ⟨x2,x3,x4,x5,rfl⟩ ha;have hi:=tX him;have hk:=yX him;have ak:=tW hk;have fa:=yY hk;have xo:=ok.ok _ (kR hi);have hf:=gH xo;have mp:∀ acc,lG "append" (.c H.length) (G++[.l acc])=true:=fun acc=>by rw [<- gl];exact CI.mpre_last G _
  have gt:∀ acc,(G++[Cell.l acc])[H.length]?=some (.l acc):=fun acc=>by rw [<- gl];simp
  have st:∀ acc c,(G++[Cell.l acc]).set H.length c=G++[c]:=fun acc c=>by rw [<- gl];simp
  have aI:=fun H=>ai hi H;have d3:=fun H=>cP3 (gD hs i) H;have d4:=fun H=>bP5 (gD hs i) H;rw [ak] at d4;have e1:=fun s a H=>en hi s a H;rw [fa] at e1;have wa:=fun H=>aS2 (d+2) H xo.call;have lb:=fun b e H=>aS1 d H xo.call (hf b e);refine ⟨_,rfl,?_⟩;unfold cB hW lot;generalize (gD hs i).dat=xd at *;generalize hcc:(gD hs i).call=cc at *;refine syP [some (.d hd),some (.c H.length),some (.d (nI i)),some (.d cc.dat),x4,x5] (G++[.l acc]) (by simp [nI,aI,d3]) ?_;refine syP [some (.d hd),some (.c H.length),some (.d (nI i)),some (.d cc.dat),some (.d (tD (fU (gD hs i)))),x5] (G++[.l acc]) (by simp [nI,aI,d4]) ?_;have al:∀ n,n<=3->acc.length+n < 16777216:=fun n hn=>by omega
  cases ea:fU (gD hs i) with
  | none =>
   rw [ea] at e1;have a0:acc.length < 16777216:=by omega
   refine ⟨[some (.d hd),some (.c H.length),some (.d (nI i)),some (.d cc.dat),some (.d .none),x5],.inr ?_,_,_,_,_,rfl⟩;simp [tD,nI,e1,mp,gt,st,szl,a0,wdS,rL,itC]
  | some b =>
   rw [ea] at e1;have isn:xIs (.d (tD (some b))) (.d .none)=some false:=yM b;have lb1:=fun H=>lb b ea H;have a0:acc.length < 16777216:=by omega
   have a1:=al 1 (by omega);obtain ⟨cd,hcd⟩:∃ cd,cd=cc.dat:=⟨_,rfl⟩;obtain ⟨td,htd⟩:∃ td,td=tD (some b):=⟨_,rfl⟩;rw [<- htd] at isn lb1;rw [<- hcd] at wa lb1;rw [<- hcd,<- htd];have eL:PyData.tuple [itL cc b,.int i]=.tuple [.tuple [.tuple [.str (Str.ofString "look"),cd],td,.str (Str.ofString "must")],.int i]:=by rw [hcd,htd];rfl
   obtain ⟨zL,hzL⟩:∃ zL,zL=PyData.tuple [itL cc b,.int i]:=⟨_,rfl⟩;rw [<- hzL] at eL;refine syP [some (.d hd),some (.c H.length),some (.d (nI i)),some (.d cd),some (.d td),x5] (G++[.l acc]) (by simp [isn]) ?_;refine syP [some (.d hd),some (.c H.length),some (.d (nI i)),some (.d cd),some (.d td),x5] (G++[.l (acc++if sn cc=true then [zL] else [])]) (by
    cases z:sn cc with
    | true =>
     rw [z] at wa;simp [wa,nI,e1,mp,gt,st,szl,a0,wdS,eL]
    | false =>
     rw [z] at wa;simp [wa]) ?_
   obtain ⟨ac2,hac2⟩:∃ ac2,ac2=acc++if sn cc=true then [zL] else []:=⟨_,rfl⟩
   have a2:ac2.length < 16777216:=by rw [hac2,List.length_append];split<;>simp<;>omega
   rw [<- hac2];refine syP [some (.d hd),some (.c H.length),some (.d (nI i)),some (.d cd),some (.d td),some (.d (lvD cc b))] (G++[.l ac2]) (by simp [lb1]) ?_;refine ⟨[some (.d hd),some (.c H.length),some (.d (nI i)),some (.d cd),some (.d td),some (.d (lvD cc b))],.inl ?_,_,_,_,_,rfl⟩;have ef:(rL cc (some b)).map (fun x=>PyData.tuple [x,.int i])=(if sn cc=true then [zL] else [])++if (lfs cc b).isEmpty=true then [] else [.tuple [itY cc b,.int i]]:=by
    unfold rL;rw [List.map_append,hzL]
    congr 1
    ·split<;>rfl
    ·split<;>rfl
   rw [ef,<- List.append_assoc,<- hac2];cases z:(lfs cc b).isEmpty with
   | true =>
    have z':lfs cc b=[]:=by simpa using z
    simp [lvD,z']
   | false =>
    have n0:lfs cc b≠[]:=by simpa using z
    have n1:0 < (lfs cc b).length:=List.length_pos_iff.mpr n0;have n2:(0:Int) < (lfs cc b).length:=by omega
    simp [lvD,n1,n2,nI,e1,mp,gt,st,szl,a2,wdS,itY]
 obtain ⟨_,e,x2,x3,x4,x5,rfl⟩:=lp;rw [List.nil_append] at e;have eE:aJ H (.rt (.c H.length),G++[.l (((tk hs).map (hW hs)).flatten)])=some (.list (((tk hs).map (hW hs)).flatten),G):=by
  have ok:okP H (G++[.l (((tk hs).map (hW hs)).flatten)]):=kK _ gl fun i c hi e=>by
   rw [hG] at e
   by_cases z:i=0
   ·subst z;rw [List.getElem?_set_self hi] at e;injection e with e
    subst e;exact .inl (fun _ z=>nomatch z)
   ·rw [List.getElem?_set_ne (fun q=>z q.symm)] at e;exact .inr e
  have g1:(G++[Cell.l (((tk hs).map (hW hs)).flatten)])[H.length]?=some (.l (((tk hs).map (hW hs)).flatten)):=by rw [<- gl];simp
  have g2:(G++[Cell.l (((tk hs).map (hW hs)).flatten)]).take H.length=G:=by rw [<- gl];simp
  unfold aJ;rw [if_pos ok];simp only [g1,g2];rw [if_pos (Nat.le_refl _)]
 refine sq (.rt (.c H.length),G++[.l (((tk hs).map (hW hs)).flatten)]) ?_ eE;refine sy [some (.d hd),some (.c H.length),none,none,none,none] (H++[.l []]) (by simp) ?_;refine sy [some (.d hd),some (.c H.length),x2,x3,x4,x5] (G++[.l (((tk hs).map (hW hs)).flatten)]) (ypS (((tk hs).map nI,none),G++[.l []]) (by simp [ct,aM]) e) ?_;simp
end K47

namespace K47
open PySem PySem.Spec PyProof.Rows L2 DL CI SJ
noncomputable def unC (x:Option (Fl×aA)):Option (Fl×aA):=x.bind fun q=>match q.1 with
 | .ct δ=>some (.nx δ,q.2)
 | f=>some (f,q.2)
theorem yZ {g:XG} {tb:XS} {c:Cw} {all:List PyData}:∀ (xs:List PyData) (δ:DSt) (h:aA),bJ g tb c all xs δ h=bJ g (fun δ h=>unC (tb δ h)) c all xs δ h
 | [],δ,h=>rfl
 | x::r,δ,h=>by
  rw [bJ,bJ];split
  ·cases g (.d x) δ h with
   | none=>rfl
   | some p =>
    simp only [CI.bs];cases tb p.1 p.2 with
    | none=>rfl
    | some q =>
     obtain ⟨f,hh⟩:=q;cases f<;>simp only [CI.bs,unC]<;>first | exact yZ r _ _ | rfl
  ·rfl
def cP5 (J:DSt->aA->Prop) (x:Option (Fl×aA)):Prop:=∃ δ2 h2,(x=some (.nx δ2,h2)\/x=some (.ct δ2,h2))/\J δ2 h2
def aE2 {g:XG} {tb:XS} {all:List PyData} {P:DSt->aA->Prop} (I:Nat->DSt->aA->Prop) {rest:List PyData} {δ:DSt} {h:aA} (hi:I 0 δ h) (hP:∀ δ h,I rest.length δ h->P δ h)
  (ht:∀ n (hn:n < rest.length) δ h,I n δ h->∃ δ1 h1,g (.d rest[n]) δ h=some (δ1,h1)/\cP5 (I (n+1)) (tb δ1 h1)):∃ δ' h',bJ g tb none all rest δ h=some (.nx δ',h')/\P δ' h':=by
 rw [yZ];refine gA I hi hP fun n hn δ h i=>?_;obtain ⟨δ1,h1,e1,δ2,h2,e2,j⟩:=ht n hn δ h i;refine ⟨δ1,h1,e1,δ2,h2,?_,j⟩;rcases e2 with e2 | e2<;>simp only [e2,unC,CI.bs]
noncomputable def p2 (p:Nat×Nat):PyData:=.tuple [.int p.1,.int p.2]
def jX (hs:List Dd) (i:Nat):List PyData:=(lot hs i).map fun _=>nI i
def cpF (hs:List Dd):List Nat->Nat->List PyData
 | [],_=>[]
 | i::r,k=>(if (lot hs i).length=2 then [p2 (k,k+1)] else [])++cpF hs r (k+(lot hs i).length)
theorem zB (hs:List Dd) (i:Nat):∀ (l:List Nat) (k:Nat),cpF hs (l++[i]) k=cpF hs l k++if (lot hs i).length=2 then [p2 (k+((l.map (lot hs)).flatten).length,k+((l.map (lot hs)).flatten).length+1)] else []
 | [],k=>by simp [cpF]
 | a::r,k=>by
  rw [List.cons_append,cpF,zB hs i r,cpF,List.append_assoc]
  congr 2
  rw [List.map_cons,List.flatten_cons,List.length_append,<- Nat.add_assoc]
theorem zC (hs:List Dd):∀ (l:List Nat) (k:Nat),(cpF hs l k).length<=l.length
 | [],k=>Nat.le_refl _
 | a::r,k=>by
  have:=zC hs r (k+(lot hs a).length);rw [cpF,List.length_append,List.length_cons];split<;>simp<;>omega
theorem jY (hs:List Dd):∀ l:List Nat,((l.map (lot hs)).flatten).length<=2*l.length
 | []=>Nat.le_refl _
 | a::r=>by
  have:=jY hs r;have h2:=lV hs a;rw [List.map_cons,List.flatten_cons,List.length_append,List.length_cons];omega
theorem tY (hs:List Dd):∀ l:List Nat,((l.map (jX hs)).flatten).length=((l.map (lot hs)).flatten).length
 | []=>rfl
 | a::r=>by
  rw [List.map_cons,List.flatten_cons,List.length_append,tY hs r,List.map_cons,List.flatten_cons,List.length_append]
  congr 1
  exact List.length_map _
variable (h:aA)
noncomputable def g3 (A B C:List PyData):aA:=h++[.l A,.l B,.l C]
def g30 (A B C:List PyData):(g3 h A B C)[h.length]?=some (.l A):=by simp [g3]
def g31 (A B C:List PyData):(g3 h A B C)[h.length+1]?=some (.l B):=by simp [g3]
def g32 (A B C:List PyData):(g3 h A B C)[h.length+2]?=some (.l C):=by simp [g3]
def s30 (A B C D:List PyData):(g3 h A B C).set h.length (.l D)=g3 h D B C:=by simp [g3]
def s31 (A B C D:List PyData):(g3 h A B C).set (h.length+1) (.l D)=g3 h A D C:=by simp [g3]
def s32 (A B C D:List PyData):(g3 h A B C).set (h.length+2) (.l D)=g3 h A B D:=by simp [g3]
def aE3 {H:aA} {j:Nat} {xs:List PyData} (e:H[j]?=some (.l xs)):lG "append" (.c j) H=true:=by simp [lG,e]
def aS4 {H:aA} {j:Nat} {xs:List PyData} (e:H[j]?=some (.l xs)):aY [.c j] H=some (.d (.int xs.length),H):=by simp [aY,ref,e]
def cB4 (c:SJ.Call) (b:SJ.Ans) (H:aA):xEq (.d (lvD c b)) (.d (.tuple [])) H=some (lfs c b).isEmpty:=by
 have p:plainsB 63 ((lfs c b).map ptD)=true:=by
  induction lfs c b with
  | nil=>simp
  | cons a r ih=>rw [List.map_cons,mU,ih];simp [ptD]
 have:xEq (.d (lvD c b)) (.d (.tuple [])) H=if (aG 64 (lvD c b)&&aG 64 (.tuple []))=true then some (PyData.eqv (lvD c b) (.tuple [])) else none:=rfl
 rw [this];have q:aG 64 (lvD c b)=true:=p;have e:PyData.eqv (lvD c b) (.tuple [])=(lfs c b).isEmpty:=by
  unfold lvD;generalize lfs c b=l;cases l<;>simp [PyData.eqv,PyData.eqvAll]
 rw [q,e];simp
end K47

namespace K47
open PySem PySem.Spec PyProof.Rows L2 DL CI SJ
variable (d:Nat) (h:aA)
noncomputable def dLt (hd:PyData) (n:Nat) (x4 x5 x6 x7 x8 x9 x10 x11:Option W):DSt:=[some (.d hd),some (.c n),some (.c (n+1)),some (.c (n+2)),x4,x5,x6,x7,x8,x9,x10,x11]
def aS5 {hd cd td lv zL zY v:PyData} {x5 x6 x7:Option W} {n:Nat} (N I C:List PyData) (sw em:Bool) (hn:n=h.length) (n0:N.length < 16777215) (i0:I.length < 16777215) (c0:C.length < 16777216) (nl:∀ H,xEq (.d lv) (.d (.tuple [])) H=some em)
  (eL:zL=.tuple [.tuple [.str (Str.ofString "look"),cd],td,.str (Str.ofString "must")]) (eY:zY=.tuple [.tuple [.str (Str.ofString "lay"),lv],.tuple [.str (Str.ofString "done")],.str (Str.ofString "must")]) :
  ∃ D:DSt,D=[some (.d hd),some (.c n),some (.c (n+1)),some (.c (n+2)),some (.d v),x5,x6,x7,some (.d cd),some (.d td),some (.d (.bool sw)),some (.d lv)] /\
  dW D (.nx D,g3 h N I C)=some (.nx D,g3 h (N++(if sw=true then [v] else [])++(if em=true then [] else [v])) (I++(if sw=true then [zL] else [])++(if em=true then [] else [zY])) (C++if (sw&&!em)=true then [p2 (I.length,I.length+1)] else [])):=by
 subst hn;refine ⟨_,rfl,?_⟩;have k1:=fun N I C=>g30 h N I C;have k2:=fun N I C=>g31 h N I C;have k3:=fun N I C=>g32 h N I C;have m1:=fun N I C=>aE3 (k1 N I C);have m2:=fun N I C=>aE3 (k2 N I C);have m3:=fun N I C=>aE3 (k3 N I C);have t1:=fun N I C D=>s30 h N I C D;have t2:=fun N I C D=>s31 h N I C D;have t3:=fun N I C D=>s32 h N I C D;have le:=fun N I C=>aS4 (k2 N I C);have n1:N.length < 16777216:=by omega
 have i1:I.length < 16777216:=by omega
 unfold dW;refine sy [some (.d hd),some (.c h.length),some (.c (h.length+1)),some (.c (h.length+2)),some (.d v),x5,x6,x7,some (.d cd),some (.d td),some (.d (.bool sw)),some (.d lv)] (g3 h (N++(if sw=true then [v] else [])) (I++(if sw=true then [zL] else [])) C) (by
  cases sw with
  | false=>simp
  | true=>simp [szl,m1,m2,k1,k2,t1,t2,n1,i1,eL]) ?_
 have n2:(N++(if sw=true then [v] else [])).length < 16777216:=by cases sw<;>simp<;>omega
 have i2:(I++(if sw=true then [zL] else [])).length < 16777216:=by cases sw<;>simp<;>omega
 obtain ⟨I1,eI⟩:∃ I1,I1=I++(if sw=true then [zL] else []):=⟨_,rfl⟩;rw [<- eI] at i2 ⊢;generalize N++(if sw=true then [v] else [])=N1 at *;refine sy [some (.d hd),some (.c h.length),some (.c (h.length+1)),some (.c (h.length+2)),some (.d v),x5,x6,x7,some (.d cd),some (.d td),some (.d (.bool sw)),some (.d lv)] (g3 h (N1++(if em=true then [] else [v])) (I1++(if em=true then [] else [zY])) C) (by
  cases em with
  | true=>simp [nl,szl]
  | false=>simp [nl,szl,m1,m2,k1,k2,t1,t2,n2,i2,eY]) ?_
 generalize N1++(if em=true then [] else [v])=N2 at *;cases sw with
 | false=>simp
 | true =>
  cases em with
  | true=>simp [nl,szl]
  | false =>
   have l2:(I1++[zY]).length=I.length+2:=by rw [eI];simp
   have s2:((I1++[zY]).length:Int) - 2=I.length:=by rw [l2];omega
   have s1:((I1++[zY]).length:Int) - 1=I.length+1:=by rw [l2];omega
   simp [-List.length_append,nl,szl,m3,k3,t3,c0,le,s1,s2,p2]
def bQ4 {c:SJ.Call} (hc:c.ok) (δ:DSt) (h8:δ[8]?=some (some (.d c.dat))) (H:aA) :
  (xb (aX (xC1 CmpOp.Eq (YV 8 0) (YS "span"))) (YOr (aX (xC1 CmpOp.NotEq (aK (xb (aM (YF1 (d+3) "_law_parts" (aB 8))) (YCp (YG 0) (xC1 CmpOp.NotEq (YV 0 0) (YS "write")) (aB 0) [none]))) (aK (xPl (aC [])))))):XR W) δ H=some (.d (.bool (sn c)),H):=by
 have cp:=lU (d+2) H hc;have cs:=bQ3 c H;have se:=bB3 c H;simp only [cE,cH,cP,cO,cR,cS,cT,dC,dD,dE,cM,cN,cX,dB,cQ,cY,cZ,dA,bdi] at cs;cases hcc:c with
 | span lo hi =>
  have:=yW (lo:=lo) (hi:=hi) (hcc ▸ hc);rw [hcc] at h8;simp [h8,Call.dat,this]
 | one o =>
  rw [hcc] at cp cs se h8;generalize ((prts (.one o)).filter fun o=>!isW o).map One.dat=R at *;have o0:∃ w,xIx (.d o.dat) (.d (.int 0)) H=some (.d (.str (Str.ofString w)),H)/\xEq (.d (.str (Str.ofString w))) (.d (.str (Str.ofString "span"))) H=some false:=by
   cases o
   ·exact ⟨"read",by simp [One.dat],by simp [xEq,ref,PyData.eqv]⟩
   ·exact ⟨"write",by simp [One.dat],by simp [xEq,ref,PyData.eqv]⟩
   ·exact ⟨"add",by simp [One.dat],by simp [xEq,ref,PyData.eqv]⟩
   ·exact ⟨"swap",by simp [One.dat],by simp [xEq,ref,PyData.eqv]⟩
  obtain ⟨w,w1,w2⟩:=o0;have e9:(SJ.Call.one o).dat=o.dat:=rfl;rw [e9] at cp h8;generalize o.dat=od at *;simp [h8,w1,w2,cp,cs,se,szl,aM]
 | deal ds =>
  rw [hcc] at cp cs se h8;generalize ((prts (.deal ds)).filter fun o=>!isW o).map One.dat=R at *;generalize (prts (.deal ds)).map One.dat=PP at *;have e9:(SJ.Call.deal ds).dat=.tuple [.str (Str.ofString "deal"),.tuple (ds.map One.dat)]:=rfl;rw [e9] at cp h8;simp [h8,cp,cs,se,szl,aM]
def cB5 {hs:List Dd} (ok:HOk hs):aD T (d+4) "_law_lot" [.d (.tuple (hs.map Dd.dat))] h=some (.tuple [.list ((tk hs).map (lot hs)).flatten,.list ((tk hs).map (jX hs)).flatten,.list (cpF hs (tk hs) 0)],h):=by
 have ai:=fun {i} hi H=>tT (hs:=hs) (i:=i) hi H;have cb:=aP9 (d+2) (g3 h [] [] []) ok;have tl:=jH ok;obtain ⟨hd,ehd⟩:∃ hd,hd=PyData.tuple (hs.map Dd.dat):=⟨_,rfl⟩;rw [<- ehd] at ai cb;have l1:∃ δ' h',bJ (YG 4) (dX (d+3)) none ((tk hs).map nI) ((tk hs).map nI) (dLt hd h.length none none none none none none none none) (g3 h [] [] [])=some (.nx δ',h')/\((∃ x4 x5 x6 x7 x8 x9 x10 x11,δ'=dLt hd h.length x4 x5 x6 x7 x8 x9 x10 x11)/\h'=g3 h (((tk hs).map (jX hs)).flatten) (((tk hs).map (lot hs)).flatten) (cpF hs (tk hs) 0)):=by
  refine aE2 (fun m δ h'=>(∃ x4 x5 x6 x7 x8 x9 x10 x11,δ=dLt hd h.length x4 x5 x6 x7 x8 x9 x10 x11)/\h'=g3 h ((((tk hs).take m).map (jX hs)).flatten) ((((tk hs).take m).map (lot hs)).flatten) (cpF hs ((tk hs).take m) 0)) ⟨⟨_,_,_,_,_,_,_,_,rfl⟩,rfl⟩ (fun δ h'=>by rw [List.length_map,List.take_length];exact id) fun m hm δ h'=>?_;rintro ⟨⟨x4,x5,x6,x7,x8,x9,x10,x11,rfl⟩,rfl⟩;have hm':m < (tk hs).length:=by simpa using hm
  obtain ⟨i,ei⟩:∃ i,i=(tk hs)[m]:=⟨_,rfl⟩;have him:i∈tk hs:=by rw [ei];exact List.getElem_mem hm'
  have hi:=tX him;have hk:=yX him;have ak:=tW hk;have fa:=yY hk;have xo:=ok.ok _ (kR hi);have hf:=gH xo;rw [List.getElem_map,<- ei,List.take_succ_eq_append_getElem hm',<- ei,List.map_append,List.map_append,List.flatten_append,List.flatten_append,zB,Nat.zero_add];have q1:=tY hs ((tk hs).take m);have q2:=jY hs ((tk hs).take m);have q3:=zC hs ((tk hs).take m) 0;have q4:((tk hs).take m).length<=60:=by rw [List.length_take];omega
  generalize (((tk hs).take m).map (jX hs)).flatten=N at *;generalize (((tk hs).take m).map (lot hs)).flatten=I at *;generalize cpF hs ((tk hs).take m) 0=C at *;have eN:([i].map (jX hs)).flatten=jX hs i:=by simp
  have eI:([i].map (lot hs)).flatten=lot hs i:=by simp
  rw [eN,eI];have aI:=fun H=>ai hi H;have ie:=aS3 (gD hs i);rw [fa] at ie;have ll:=fun b e H=>aE1 d H xo.call (hf b e);refine ⟨_,_,rfl,?_⟩;unfold dX;have e0:(gD hs i).dat=.tuple [.int (gD hs i).hand,.int (gD hs i).beg,(gD hs i).endD,(gD hs i).call.dat,tD (fU (gD hs i))]:=by rw [<- ak];rfl
  generalize (gD hs i).endD=en at *;generalize ((gD hs i).hand:Int)=hn at *;generalize ((gD hs i).beg:Int)=bg at *;refine syP (dLt hd h.length (some (.d (nI i))) (some (.d (.int hn))) (some (.d (.int bg))) (some (.d en)) (some (.d (gD hs i).call.dat)) (some (.d (tD (fU (gD hs i))))) x10 x11) (g3 h N I C) (by simp [dLt,nI,aI,e0,aO,cD]) ?_;have n0:N.length < 16777216:=by omega
  have i0:I.length < 16777216:=by omega
  have k1:=fun N I C=>g30 h N I C;have k2:=fun N I C=>g31 h N I C;have k3:=fun N I C=>g32 h N I C;have m1:=fun N I C=>aE3 (k1 N I C);have m2:=fun N I C=>aE3 (k2 N I C);have m3:=fun N I C=>aE3 (k3 N I C);have t1:=fun N I C D=>s30 h N I C D;have t2:=fun N I C D=>s31 h N I C D;have t3:=fun N I C D=>s32 h N I C D;have le:=fun N I C=>aS4 (k2 N I C);unfold jX lot;cases ea:fU (gD hs i) with
  | none =>
   rw [ea] at ie;refine ⟨dLt hd h.length (some (.d (nI i))) (some (.d (.int hn))) (some (.d (.int bg))) (some (.d en)) (some (.d (gD hs i).call.dat)) (some (.d .none)) x10 x11,_,.inr ?_,⟨_,_,_,_,_,_,_,_,rfl⟩,rfl⟩;generalize hcd:(gD hs i).call.dat=cd at *;simp [hcd,tD,dLt,ie,m1,m2,k1,k2,t1,t2,szl,n0,i0,rL,itC,nI]
  | some b =>
   rw [ea] at ie;have lb:=fun H=>ll b ea H;have nl:=fun H=>cB4 (gD hs i).call b H;refine syP (dLt hd h.length (some (.d (nI i))) (some (.d (.int hn))) (some (.d (.int bg))) (some (.d en)) (some (.d (gD hs i).call.dat)) (some (.d (tD (some b)))) x10 x11) (g3 h N I C) (by simp [dLt,ie]) ?_;refine syP (dLt hd h.length (some (.d (nI i))) (some (.d (.int hn))) (some (.d (.int bg))) (some (.d en)) (some (.d (gD hs i).call.dat)) (some (.d (tD (some b)))) (some (.d (.bool (sn (gD hs i).call)))) x11) (g3 h N I C) (by
    have e10:=bQ4 d xo.call (dLt hd h.length (some (.d (nI i))) (some (.d (.int hn))) (some (.d (.int bg))) (some (.d en)) (some (.d (gD hs i).call.dat)) (some (.d (tD (some b)))) x10 x11) rfl (g3 h N I C);unfold aR;rw [e10];rfl) ?_
   refine syP (dLt hd h.length (some (.d (nI i))) (some (.d (.int hn))) (some (.d (.int bg))) (some (.d en)) (some (.d (gD hs i).call.dat)) (some (.d (tD (some b)))) (some (.d (.bool (sn (gD hs i).call)))) (some (.d (lvD (gD hs i).call b)))) (g3 h N I C) (by
    generalize (gD hs i).call.dat=cd at *;generalize tD (some b)=td at *;simp [dLt,lb]) ?_
   have eF:rL (gD hs i).call (some b)=(if sn (gD hs i).call=true then [itL (gD hs i).call b] else [])++(if (lfs (gD hs i).call b).isEmpty=true then [] else [itY (gD hs i).call b]):=rfl;rw [eF];clear eF;obtain ⟨_,rfl,e9⟩:=aS5 (hd:=hd) (cd:=(gD hs i).call.dat) (td:=tD (some b)) (lv:=lvD (gD hs i).call b) (v:=nI i) (zL:=itL (gD hs i).call b) (zY:=itY (gD hs i).call b) (x5:=some (.d (.int hn))) (x6:=some (.d (.int bg))) (x7:=some (.d en)) h N I C (sn (gD hs i).call) (lfs (gD hs i).call b).isEmpty rfl (by omega) (by omega) (by omega) nl rfl rfl;refine ⟨_,_,.inl e9,⟨_,_,_,_,_,_,_,_,rfl⟩,?_⟩;generalize (lfs (gD hs i).call b).isEmpty=em;generalize sn (gD hs i).call=sw;cases sw<;>cases em<;>simp
 obtain ⟨_,_,e1,⟨x4,x5,x6,x7,x8,x9,x10,x11,rfl⟩,rfl⟩:=l1;generalize ((tk hs).map (jX hs)).flatten=N at *;generalize ((tk hs).map (lot hs)).flatten=I at *;generalize cpF hs (tk hs) 0=C at *;have eE:aJ h (.rt (.c (h.length+3)),g3 h N I C++[.p [.c (h.length+1),.c h.length,.c (h.length+2)]])=some (.tuple [.list I,.list N,.list C],h):=by
  have eg:g3 h N I C++[.p [.c (h.length+1),.c h.length,.c (h.length+2)]]=h++[.l N,.l I,.l C,.p [.c (h.length+1),.c h.length,.c (h.length+2)]]:=by simp [g3]
  rw [eg];have ok:okP h (h++[.l N,.l I,.l C,.p [.c (h.length+1),.c h.length,.c (h.length+2)]]):=fun i c hi e=>.inr (by rwa [List.getElem?_append_left hi] at e);unfold aJ;rw [if_pos ok];have g3':(h++[Cell.l N,.l I,.l C,.p [.c (h.length+1),.c h.length,.c (h.length+2)]])[h.length+3]?=some (.p [.c (h.length+1),.c h.length,.c (h.length+2)]):=by simp
  have fz:sB h.length (h++[Cell.l N,.l I,.l C,.p [.c (h.length+1),.c h.length,.c (h.length+2)]]) [.c (h.length+1),.c h.length,.c (h.length+2)]=some [.list I,.list N,.list C]:=by simp [sB,noC]
  simp only [g3',fz];simp
 rw [<- ehd,show d+4=(d+3)+1 from rfl,vR];refine sq (.rt (.c (h.length+3)),g3 h N I C++[.p [.c (h.length+1),.c h.length,.c (h.length+2)]]) ?_ eE;refine sy [some (.d hd),some (.c h.length),none,none,none,none,none,none,none,none,none,none] (h++[.l []]) (by simp) ?_;refine sy [some (.d hd),some (.c h.length),some (.c (h.length+1)),none,none,none,none,none,none,none,none,none] (h++[.l [],.l []]) (by simp) ?_;refine sy (dLt hd h.length none none none none none none none none) (g3 h [] [] []) (by simp [g3,dLt]) ?_;refine sy (dLt hd h.length x4 x5 x6 x7 x8 x9 x10 x11) (g3 h N I C) (ypS (((tk hs).map nI,none),g3 h [] [] []) (by simp [cb,aM,dLt]) e1) ?_;simp [dLt,isC,g3]
end K47

namespace K47
open PySem PySem.Spec PyProof.Rows L2 DL CI SJ
noncomputable def adj:List Nat->Nat->List Nat
 | a::b::r,k=>(if a=b then [k] else [])++adj (b::r) (k+1)
 | _,_=>[]
noncomputable def gN (xs:List Nat) (x:Nat):Nat:=xs.getD x 0
theorem pW:∀ (xs:List Nat) (k:Nat),(List.range' k (xs.length - 1)).filter (fun x=>decide (gN xs (x - k)=gN xs (x - k+1)))=adj xs k
 | [],k=>rfl
 | [a],k=>rfl
 | a::b::r,k=>by
  have e:(a::b::r).length - 1=(b::r).length - 1+1:=by simp
  rw [e,List.range'_succ,List.filter_cons];have t:(List.range' (k+1) ((b::r).length - 1)).filter (fun x=>decide (gN (a::b::r) (x - k)=gN (a::b::r) (x - k+1)))=(List.range' (k+1) ((b::r).length - 1)).filter (fun x=>decide (gN (b::r) (x - (k+1))=gN (b::r) (x - (k+1)+1))):=by
   refine List.filter_congr fun x hx=>?_;have hx:=(List.mem_range'_1.mp hx).1;have e1:x - k=(x - (k+1))+1:=by omega
   rw [e1];rfl
  rw [t,pW (b::r) (k+1),adj];have g0:gN (a::b::r) (k - k)=a:=by simp [gN]
  have g1:gN (a::b::r) (k - k+1)=b:=by simp [gN]
  rw [g0,g1]
  by_cases h:a=b<;>simp [h]
def cB6 (xs:List Nat):(List.range (xs.length - 1)).filter (fun x=>decide (gN xs x=gN xs (x+1)))=adj xs 0:=by
 have:=pW xs 0
 simpa [List.range_eq_range'] using this
def nsN (hs:List Dd) (l:List Nat):List Nat:=(l.map fun i=>List.replicate (lot hs i).length i).flatten
def lkF (hs:List Dd):List Nat->Nat->List Nat
 | [],_=>[]
 | i::r,k=>(if (lot hs i).length=2 then [k] else [])++lkF hs r (k+(lot hs i).length)
def zD {hs:List Dd} {l:List Nat} {x:Nat} (h:x∈nsN hs l):x∈l:=by
 obtain ⟨y,hy,hx⟩:=List.mem_flatten.mp h;obtain ⟨i,hi,rfl⟩:=List.mem_map.mp hy;rw [(List.mem_replicate.mp hx).2];exact hi
def zE {a:Nat} {xs:List Nat} (h:a∉xs) (k:Nat):adj (a::xs) k=adj xs (k+1):=by
 cases xs with
 | nil=>rfl
 | cons b r =>
  have:a≠b:=fun z=>h (by rw [z];exact List.mem_cons_self);rw [adj,if_neg this];rfl
theorem rM (hs:List Dd):∀ (l:List Nat) (k:Nat),l.Nodup->adj (nsN hs l) k=lkF hs l k
 | [],k,_=>rfl
 | i::r,k,nd=>by
  have nd':=List.nodup_cons.mp nd;have hn:i∉nsN hs r:=fun z=>nd'.1 (zD z);have e:nsN hs (i::r)=List.replicate (lot hs i).length i++nsN hs r:=by unfold nsN;rw [List.map_cons,List.flatten_cons]
  have h2:=lV hs i;rw [e,lkF];have:(lot hs i).length=0\/(lot hs i).length=1\/(lot hs i).length=2:=by omega
  rcases this with z | z | z<;>rw [z]
  ·simpa using rM hs r k nd'.2
  ·show adj (i::nsN hs r) k=_;rw [zE hn,rM hs r (k+1) nd'.2];simp
  ·show adj (i::i::nsN hs r) k=_;rw [adj,if_pos rfl,zE hn,rM hs r (k+1+1) nd'.2];simp
theorem pX (hs:List Dd):∀ (l:List Nat) (k:Nat),cpF hs l k=(lkF hs l k).map fun x=>p2 (x,x+1)
 | [],k=>rfl
 | i::r,k=>by
  rw [cpF,lkF,List.map_append,pX hs r]
  congr 1
  split<;>rfl
theorem wI (hs:List Dd):∀ l:List Nat,(l.map (jX hs)).flatten=(nsN hs l).map nI
 | []=>rfl
 | i::r=>by
  have e:nsN hs (i::r)=List.replicate (lot hs i).length i++nsN hs r:=by unfold nsN;rw [List.map_cons,List.flatten_cons]
  rw [List.map_cons,List.flatten_cons,wI hs r,e,List.map_append]
  congr 1
  unfold jX;generalize lot hs i=L;induction L with
  | nil=>rfl
  | cons a t ih=>rw [List.map_cons,ih,List.length_cons,List.replicate_succ,List.map_cons]
def cB7 (d:Nat) (h:aA) (xs:List Nat) (hl:xs.length<=1000):aD T (d+1) "looks_with_lays" [.d (.tuple (xs.map nI))] h=some (.list ((adj xs 0).map nI),h):=by
 have eS:∀ z:PyData,aJ h (.rt (.d z),h)=some (z,h):=fun z=>aQ (fun _ _=>rfl) (Nat.le_refl _);have er:cU 0 ((xs.length:Int) - 1)=true:=bN (by omega) (by omega);have tn:((xs.length:Int) - 1).toNat=xs.length - 1:=by omega
 have ix:∀ i,i < xs.length->xIx (.d (.tuple (xs.map nI))) (.d (.int (i:Nat))) h=some (.d (.int (gN xs i)),h):=fun i hi=>by
  have a:atI (xs.map nI) (i:Int)=some (nI (gN xs i)):=bO (by simp [gN,nI,List.getD,hi]);rw [CI.ix_t,a];rfl
 have cm:aN (YG 0) (xC1 CmpOp.Eq (xb (aB 1) fun x=>xb (aB 0) (YX x)) (xb (aB 1) fun x=>xb (xb (aB 0) (YB .Add 1)) (YX x))) (aB 0) none (rng 0 (xs.length - 1)) (rng 0 (xs.length - 1)) [none,some (.d (.tuple (xs.map nI)))] h []=some ((adj xs 0).map nI,h):=by
  rw [tR,cmT nI (fun x=>decide (gN xs x=gN xs (x+1))) nI (fun δ=>∃ u,δ=[u,some (.d (.tuple (xs.map nI)))]) _ _ [] ⟨_,rfl⟩ fun x hx δ hδ=>?_]
  ·rw [cB6];rfl
  ·obtain ⟨u,rfl⟩:=hδ;have hx:=List.mem_range.mp hx;refine ⟨[some (.d (nI x)),_],rfl,⟨_,rfl⟩,?_,fun _=>rfl⟩;have i1:=ix x (by omega);have i2:=ix (x+1) (by omega);generalize PyData.tuple (xs.map nI)=t at *;have c1:((x+1:Nat):Int)=(x:Int)+1:=by omega
   rw [c1] at i2
   by_cases q:gN xs x=gN xs (x+1)
   ·simp [nI,i1,i2,q]
   ·have q':¬ ((gN xs x:Int)=gN xs (x+1)):=by omega
    simp [nI,i1,i2,q,q']
 have le:aY [.d (.tuple (xs.map nI))] h=some (.d (.int xs.length),h):=by simp
 simp only [cE,cH,cP,cO,cR,cS,cT,dC,dD,dE,cM,cN,cX,dB,cQ,cY,cZ,dA,bdi] at cm;rw [jS];generalize PyData.tuple (xs.map nI)=t at *;simp [le,er,tn,cm,eS]
end K47

namespace K47
open PySem PySem.Spec PyProof.Rows L2 DL CI SJ
set_option genInjectivity true in
inductive Sk where
 | cl (c:SJ.Call)
 | lk (c:SJ.Call)
 | ly (c:SJ.Call) (b:SJ.Ans)
def Sk.dat:Sk->PyData
 | .cl c=>c.dat
 | .lk c=>.tuple [.str (Str.ofString "look"),c.dat]
 | .ly c b=>.tuple [.str (Str.ofString "lay"),lvD c b]
def Sk.ok:Sk->Prop
 | .cl c=>c.ok
 | .lk c=>c.ok
 | .ly c b=>c.ok/\Ans.fits c b
def wJ:Sk->Nat->Bool
 | .cl c,k=>jG c k
 | .lk _,_=>false
 | .ly c b,k=>(lfs c b).any fun p=>decide (p.1=k)
def kcL:Sk->List Int
 | .cl c=>(ksL c).filter fun x=>jG c x.toNat
 | .lk _=>[]
 | .ly c b=>(lfs c b).map fun p=>(p.1:Int)
def aS6 {c:SJ.Call} {k:Nat} (h:jG c k=true):plc c k≠[]:=by
 rw [aR2];obtain ⟨o,ho,e⟩:=List.any_eq_true.mp h;rw [Bool.and_eq_true] at e;exact ⟨o,ho,of_decide_eq_true e.2⟩
def aS7 (x:Sk) (k:Nat):(k:Int)∈kcL x ↔ wJ x k=true:=by
 cases x with
 | cl c =>
  show _∈List.filter _ _ ↔ _;rw [List.mem_filter,rI];simp only [Int.toNat_natCast];exact ⟨fun h=>h.2,fun h=>⟨aS6 h,h⟩⟩
 | lk c=>simp [kcL,wJ]
 | ly c b =>
  show _∈List.map _ _ ↔ List.any _ _=true;rw [List.mem_map,List.any_eq_true];exact ⟨fun ⟨p,hp,e⟩=>⟨p,hp,decide_eq_true (by omega)⟩,fun ⟨p,hp,e⟩=>⟨p,hp,by have:=of_decide_eq_true e;omega⟩⟩
def bQ5 {c:SJ.Call} {x:Int} (h:x∈ksL c):∃ k:Nat,x=k:=by
 cases hn:nsp c with
 | true =>
  rw [yU hn,wG] at h;obtain ⟨o,_,rfl⟩:=List.mem_map.mp h;exact ⟨_,rfl⟩
 | false =>
  cases c with
  | one o=>cases hn
  | deal cs=>cases hn
  | span lo hi =>
   have h:x∈List.map _ _:=h;obtain ⟨o,_,rfl⟩:=List.mem_map.mp h;exact ⟨_,rfl⟩
def cB8 (c:SJ.Call):∃ w:String,∀ H,xIx (.d c.dat) (.d (.int 0)) H=some (.d (.str (Str.ofString w)),H)/\xEq (.d (.str (Str.ofString w))) (.d (.str (Str.ofString "lay"))) H=some false/\xEq (.d (.str (Str.ofString w))) (.d (.str (Str.ofString "look"))) H=some false:=by
 cases c with
 | one o =>
  cases o
  ·exact ⟨"read",fun H=>by simp [Call.dat,One.dat,xEq,ref,PyData.eqv]⟩
  ·exact ⟨"write",fun H=>by simp [Call.dat,One.dat,xEq,ref,PyData.eqv]⟩
  ·exact ⟨"add",fun H=>by simp [Call.dat,One.dat,xEq,ref,PyData.eqv]⟩
  ·exact ⟨"swap",fun H=>by simp [Call.dat,One.dat,xEq,ref,PyData.eqv]⟩
 | span lo hi=>exact ⟨"span",fun H=>by simp [Call.dat,xEq,ref,PyData.eqv]⟩
 | deal cs=>exact ⟨"deal",fun H=>by simp [Call.dat,xEq,ref,PyData.eqv]⟩
variable (d:Nat) (h:aA)
def cB9 {x:Sk} (hx:x.ok):aD T (d+4) "keys_changed" [.d x.dat] h=some (.list ((kcL x).map .int),h):=by
 have eS:∀ z:PyData,aJ h (.rt (.d z),h)=some (z,h):=fun z=>aQ (fun _ _=>rfl) (Nat.le_refl _);rw [show d+4=(d+3)+1 from rfl,nC];cases x with
 | lk c =>
  generalize hcd:c.dat=cd;simp [Sk.dat,hcd,kcL,szl,eS]
 | ly c b =>
  have cm:aN (aO [YG 0,YG 1]) (aC true) (aB 0) none ((lfs c b).map ptD) ((lfs c b).map ptD) [none,none] h []=some ((lfs c b).map fun p=>.int p.1,h):=by
   refine cmM ptD (fun p=>.int p.1) (fun δ=>∃ u v,δ=[u,v]) _ _ ⟨_,_,rfl⟩ fun p hp δ hδ=>?_;obtain ⟨u,v,rfl⟩:=hδ;exact ⟨[some (.d (.int p.1)),some (.d (.int p.2))],by simp [ptD,aO,cD],⟨_,_,rfl⟩,rfl⟩
  simp only [cE,cH,cP,cO,cR,cS,cT,dC,dD,dE,cM,cN,cX,dB,cQ,cY,cZ,dA,bdi] at cm;have e:(kcL (.ly c b)).map PyData.int=(lfs c b).map fun p=>.int p.1:=by simp [kcL,Function.comp_def]
  rw [e];have ed:(Sk.ly c b).dat=.tuple [.str (Str.ofString "lay"),.tuple ((lfs c b).map ptD)]:=rfl;rw [ed];generalize (lfs c b).map ptD=L at *;simp [cm,aM,eS]
 | cl c =>
  have hc:c.ok:=hx;have ck:=aR3 (d+1) h hc;have cp:=fun k=>aD6 d h hc (a:=none) (fun b e=>by cases e) k;have mc:=fun k=>cB1 (d+1) h (pOn c none k).1;obtain ⟨w,hw⟩:=cB8 c;obtain ⟨w0,w1,w2⟩:=hw h;have cm:aN (YG 0) (xb (xb (Y1 (xb (xb (Y3 (aB 1) (YZ) (aB 0)) (YF (d+3) "part_on")) (YI 0))) (YF (d+3) "may_change")) YD) (aB 0) none ((ksL c).map .int) ((ksL c).map .int) [none,some (.d c.dat)] h []=some ((kcL (.cl c)).map .int,h):=by
   rw [cmT PyData.int (fun x=>jG c x.toNat) PyData.int (fun δ=>∃ u,δ=[u,some (.d c.dat)]) _ _ [] ⟨_,rfl⟩ fun x hx' δ hδ=>?_]
   ·rfl
   ·obtain ⟨u,rfl⟩:=hδ;obtain ⟨k,rfl⟩:=bQ5 hx';refine ⟨[some (.d (.int k)),_],rfl,⟨_,rfl⟩,?_,fun _=>rfl⟩;have hp:=(rI c k).mp hx';have c1:aD T (d+3) (Str.ofString "part_on") [.d c.dat,.d .none,.d (.int k)] h=some (prD c none k,h):=by
     have:=cp k;rw [if_neg hp] at this;exact this
    have p0:xIx (.d (prD c none k)) (.d (.int 0)) h=some (.d (pOn c none k).1.dat,h):=by simp [prD]
    have m1:=mc k;rw [bA8] at m1;have m1:aD T (d+3) (Str.ofString "may_change") [.d (pOn c none k).1.dat] h=some (.bool (jG c k),h):=m1;generalize (pOn c none k).1.dat=z1 at *;generalize prD c none k=z2 at *;generalize c.dat=cd at *;simp [c1,p0,m1]
  simp only [cE,cH,cP,cO,cR,cS,cT,dC,dD,dE,cM,cN,cX,dB,cQ,cY,cZ,dA,bdi,bZ9] at cm;have ck:aD T (d+3) (Str.ofString "keys_of") [.d c.dat] h=some (.tuple ((ksL c).map .int),h):=ck;have ed:(Sk.cl c).dat=c.dat:=rfl;rw [ed];generalize c.dat=cd at *;generalize (kcL (.cl c)).map PyData.int=R at *;generalize (ksL c).map PyData.int=L at *;simp [w0,w1,w2,ck,cm,aM,eS]
def tZ (ns:List Int) (n:Int):xIn (.d (.int n)) (.d (.list (ns.map .int))) h=some (decide (n∈ns)):=by
 have p:=gZ ns 63;have:xIn (.d (.int n)) (.d (.list (ns.map .int))) h=if (aG 64 (.list (ns.map .int))&&aG 64 (.int n))=true then some ((ns.map PyData.int).any fun z=>PyData.eqv z (.int n)) else none:=rfl
 have q:aG 64 (.list (ns.map .int))=true:=p;rw [this,q];simp only [Bool.true_and];rw [if_pos (by simp)]
 congr 1
 rw [Bool.eq_iff_iff,List.any_eq_true,decide_eq_true_iff];refine ⟨fun ⟨z,hz,e⟩=>?_,fun hm=>⟨.int n,List.mem_map.mpr ⟨n,hm,rfl⟩,by simp [PyData.eqv]⟩⟩;obtain ⟨m,hm,rfl⟩:=List.mem_map.mp hz;have:m=n:=by simpa [PyData.eqv] using e
 rw [<- this];exact hm
def tch (c:SJ.Call) (b:SJ.Ans) (x:Sk):Bool:=(lfs c b).any fun p=>wJ x p.1
def cC0 {c:SJ.Call} (hc:c.ok) {b:SJ.Ans} (hf:Ans.fits c b) {x:Sk} (hx:x.ok):aD T (d+5) "change_one_key" [.d (Sk.ly c b).dat,.d x.dat] h=some (.bool (tch c b x),h):=by
 have eS:∀ z:PyData,aJ h (.rt (.d z),h)=some (z,h):=fun z=>aQ (fun _ _=>rfl) (Nat.le_refl _);have k1:=cB9 d h (x:=.ly c b) ⟨hc,hf⟩;have k2:=cB9 d h hx;have xa:∀ xs,nX [.d (.list xs)] h=(cI xs).map fun bs=>(.d (.bool (bs.any id)),h):=fun _=>rfl;have cm:aN (YG 0) (aC true) (aX (xC1 CmpOp.In (aB 0) (aB 1))) none ((kcL (.ly c b)).map .int) ((kcL (.ly c b)).map .int) [none,some (.d (.list ((kcL x).map .int)))] h []=some ((kcL (.ly c b)).map fun k=>.bool (decide (k∈kcL x)),h):=by
  refine cmM PyData.int (fun k=>.bool (decide (k∈kcL x))) (fun δ=>∃ u,δ=[u,some (.d (.list ((kcL x).map .int)))]) _ _ ⟨_,rfl⟩ fun k hk δ hδ=>?_;obtain ⟨u,rfl⟩:=hδ;have:=tZ h (kcL x) k;generalize (kcL x).map PyData.int=L at *;exact ⟨_,rfl,⟨_,rfl⟩,by simp [this]⟩
 have bf:=lT (fun k=>decide (k∈kcL x)) (kcL (.ly c b));have e:((kcL (.ly c b)).map fun k=>decide (k∈kcL x)).any id=tch c b x:=by
  show (List.map _ (List.map _ _)).any id=_;rw [List.map_map,List.any_map];unfold tch
  congr 1
  funext p
  show decide ((p.1:Int)∈kcL x)=wJ x p.1;rw [Bool.eq_iff_iff,decide_eq_true_iff];exact aS7 x p.1
 simp only [cE,cH,cP,cO,cR,cS,cT,dC,dD,dE,cM,cN,cX,dB,cQ,cY,cZ,dA,bdi] at cm;rw [show d+5=(d+4)+1 from rfl,kN];generalize (Sk.ly c b).dat=y1 at *;generalize x.dat=y2 at *;generalize ((kcL (.ly c b)).map fun k=>PyData.bool (decide (k∈kcL x)))=B at *;generalize (kcL (.ly c b)).map PyData.int=L1 at *;generalize (kcL x).map PyData.int=L2 at *;simp [k1,k2,cm,aM,xa,bf,e,eS]
end K47

namespace K47
open PySem PySem.Spec PyProof.Rows L2 DL CI SJ
variable (d:Nat) (h:aA)
def zF (ns:List Int):xEq (.d (.list (ns.map .int))) (.d (.list [])) h=some ns.isEmpty:=by
 have p:=gZ ns 63;have:xEq (.d (.list (ns.map .int))) (.d (.list [])) h=if (aG 64 (.list (ns.map .int))&&aG 64 (.list []))=true then some (PyData.eqv (.list (ns.map .int)) (.list [])) else none:=rfl
 have q:aG 64 (.list (ns.map .int))=true:=p;rw [this,q];cases ns<;>simp [PyData.eqv,PyData.eqvAll]
def bB6 (A B:List (Nat×Int)):(B.any fun q=>A.any fun p=>decide (p.1=q.1))=A.any fun p=>B.any fun q=>decide (q.1=p.1):=by
 rw [Bool.eq_iff_iff];simp only [List.any_eq_true,decide_eq_true_iff];exact ⟨fun ⟨q,hq,p,hp,e⟩=>⟨p,hp,q,hq,e.symm⟩,fun ⟨p,hp,q,hq,e⟩=>⟨q,hq,p,hp,e.symm⟩⟩
def aE4 {c:SJ.Call} {b:SJ.Ans} {x:Sk} (hx:x.ok):aD T (d+3) "_law_touched" [.d x.dat,.d (.list (((lfs c b).map fun p=>(p.1:Int)).map .int))] h=some (.bool (tch c b x),h):=by
 have eS:∀ z:PyData,aJ h (.rt (.d z),h)=some (z,h):=fun z=>aQ (fun _ _=>rfl) (Nat.le_refl _);obtain ⟨KL,hKL⟩:∃ KL,KL=(lfs c b).map fun p=>(p.1:Int):=⟨_,rfl⟩;have mk:∀ k:Nat,(k:Int)∈KL ↔ ((lfs c b).any fun p=>decide (p.1=k))=true:=fun k=>by
  rw [hKL];exact aS7 (.ly c b) k
 rw [<- hKL,show d+3=(d+2)+1 from rfl,nJ];cases x with
 | lk c2 =>
  have e:tch c b (.lk c2)=false:=by simp [tch,wJ]
  have ed:(Sk.lk c2).dat=.tuple [.str (Str.ofString "look"),c2.dat]:=rfl;rw [e,ed];generalize c2.dat=cd;simp [eS]
 | ly c2 b2 =>
  have il:=fun k=>tZ h KL k;have cm:aN (aO [YG 0,YG 1]) (xC1 CmpOp.In (aB 0) (aB 2)) (aB 0) none ((lfs c2 b2).map ptD) ((lfs c2 b2).map ptD) [none,none,some (.d (.list (KL.map .int)))] h []=some ((((lfs c2 b2).filter fun p=>decide ((p.1:Int)∈KL)).map fun p=>(p.1:Int)).map .int,h):=by
   rw [cmT ptD (fun p=>decide ((p.1:Int)∈KL)) (fun p=>.int p.1) (fun δ=>∃ u v,δ=[u,v,some (.d (.list (KL.map .int)))]) _ _ [] ⟨_,_,rfl⟩ fun p hp δ hδ=>?_]
   ·rw [List.map_map];rfl
   ·obtain ⟨u,v,rfl⟩:=hδ;have:=il p.1;generalize KL.map PyData.int=L at *;exact ⟨[some (.d (.int p.1)),some (.d (.int p.2)),_],by simp [ptD,aO,cD],⟨_,_,rfl⟩,by simp [this],fun _=>rfl⟩
  have en:=zF h (((lfs c2 b2).filter fun p=>decide ((p.1:Int)∈KL)).map fun p=>(p.1:Int));have e:(((lfs c2 b2).filter fun p=>decide ((p.1:Int)∈KL)).map fun p=>(p.1:Int)).isEmpty=!tch c b (.ly c2 b2):=by
   rw [List.isEmpty_map,jU]
   congr 1
   unfold tch;show _=(lfs c b).any fun p=>(lfs c2 b2).any fun q=>decide (q.1=p.1);rw [<- bB6]
   congr 1
   funext q
   rw [Bool.eq_iff_iff,decide_eq_true_iff];exact mk q.1
  rw [e] at en;simp only [cE,cH,cP,cO,cR,cS,cT,dC,dD,dE,cM,cN,cX,dB,cQ,cY,cZ,dA,bdi] at cm;have ed:(Sk.ly c2 b2).dat=.tuple [.str (Str.ofString "lay"),.tuple ((lfs c2 b2).map ptD)]:=rfl;rw [ed];generalize (((lfs c2 b2).filter fun p=>decide ((p.1:Int)∈KL)).map fun p=>(p.1:Int)).map PyData.int=R at *;generalize (lfs c2 b2).map ptD=L at *;simp [cm,en,aM,eS,szl]
 | cl c2 =>
  have hc:c2.ok:=hx;have cc:=fun k=>aD4 d h hc k;obtain ⟨w,hw⟩:=cB8 c2;obtain ⟨w0,w1,w2⟩:=hw h;have cm:aN (YG 0) (xb (xb (Y2 (aB 1) (aB 0)) (YF (d+2) "_law_changes")) YD) (aB 0) none (KL.map .int) (KL.map .int) [none,some (.d c2.dat)] h []=some ((((lfs c b).filter fun p=>jG c2 p.1).map fun p=>(p.1:Int)).map .int,h):=by
   rw [hKL,List.map_map,cmT (PyData.int ∘ fun p:Nat×Int=>(p.1:Int)) (fun p=>jG c2 p.1) (PyData.int ∘ fun p:Nat×Int=>(p.1:Int)) (fun δ=>∃ u,δ=[u,some (.d c2.dat)]) _ _ [] ⟨_,rfl⟩ fun p hp δ hδ=>?_]
   ·rw [List.map_map];rfl
   ·obtain ⟨u,rfl⟩:=hδ;refine ⟨[some (.d (.int p.1)),_],rfl,⟨_,rfl⟩,?_,fun _=>rfl⟩;have:=cc p.1;generalize c2.dat=cd at *;simp [this]
  have en:=zF h (((lfs c b).filter fun p=>jG c2 p.1).map fun p=>(p.1:Int));have e:(((lfs c b).filter fun p=>jG c2 p.1).map fun p=>(p.1:Int)).isEmpty=!tch c b (.cl c2):=by
   rw [List.isEmpty_map,jU];rfl
  rw [e] at en;simp only [cE,cH,cP,cO,cR,cS,cT,dC,dD,dE,cM,cN,cX,dB,cQ,cY,cZ,dA,bdi,bZ9] at cm;have ed:(Sk.cl c2).dat=c2.dat:=rfl;rw [ed];generalize (((lfs c b).filter fun p=>jG c2 p.1).map fun p=>(p.1:Int)).map PyData.int=R at *;generalize KL.map PyData.int=L at *;generalize c2.dat=cd at *;simp [w0,w1,w2,cm,en,aM,eS,szl]
end K47

namespace K47
open PySem PySem.Spec PyProof.Rows L2 DL CI SJ
def skC (c:SJ.Call):Option SJ.Ans->List Sk
 | none=>[.cl c]
 | some b=>(if sn c=true then [.lk c] else [])++(if (lfs c b).isEmpty=true then [] else [.ly c b])
def skl (hs:List Dd) (i:Nat):List Sk:=skC (gD hs i).call (fU (gD hs i))
def skN (hs:List Dd) (l:List Nat):List Sk:=(l.map (skl hs)).flatten
noncomputable def st0:PyData->PyData
 | .tuple (s::_)=>s
 | _=>.none
def zG (hs:List Dd) (i:Nat):(lot hs i).map st0=(skl hs i).map Sk.dat:=by
 unfold lot skl;cases fU (gD hs i) with
 | none=>rfl
 | some b =>
  simp only [rL,skC,List.map_append]
  congr 1
  ·split<;>rfl
  ·split<;>rfl
def zH (hs:List Dd) (i:Nat):(skl hs i).length=(lot hs i).length:=by
 have:=congrArg List.length (zG hs i)
 simpa using this.symm
theorem rN (hs:List Dd):∀ l:List Nat,((l.map (lot hs)).flatten).map st0=(skN hs l).map Sk.dat
 | []=>rfl
 | i::r=>by
  unfold skN;rw [List.map_cons,List.flatten_cons,List.map_append,rN hs r,List.map_cons,List.flatten_cons,List.map_append,zG];rfl
def hH (hs:List Dd) (l:List Nat):(skN hs l).length=((l.map (lot hs)).flatten).length:=by
 have:=congrArg List.length (rN hs l);rw [List.length_map,List.length_map] at this;exact this.symm
theorem lW (hs:List Dd):∀ l:List Nat,(nsN hs l).length=((l.map (lot hs)).flatten).length
 | []=>rfl
 | i::r=>by
  have e:nsN hs (i::r)=List.replicate (lot hs i).length i++nsN hs r:=by unfold nsN;rw [List.map_cons,List.flatten_cons]
  rw [e,List.length_append,lW hs r,List.length_replicate,List.map_cons,List.flatten_cons,List.length_append]
def bQ6 {hs:List Dd} (ok:HOk hs) {i:Nat} (hi:i < hs.length):∀ x∈skl hs i,x.ok:=fun x hx=>by
 have o:=ok.ok _ (kR hi);have f:=gH o;unfold skl at hx;cases e:fU (gD hs i) with
 | none =>
  rw [e] at hx;rw [List.mem_singleton.mp hx];exact o.call
 | some b =>
  rw [e] at hx;rcases List.mem_append.mp hx with z | z
  ·split at z
   ·rw [List.mem_singleton.mp z];exact o.call
   ·cases z
  ·split at z
   ·cases z
   ·rw [List.mem_singleton.mp z];exact ⟨o.call,f b e⟩
def cC1 {hs:List Dd} {i:Nat} (h:(lot hs i).length=2):∃ c b,fU (gD hs i)=some b/\c=(gD hs i).call/\skl hs i=[.lk c,.ly c b]:=by
 rw [<- zH] at h;unfold skl at h ⊢;cases e:fU (gD hs i) with
 | none=>rw [e] at h;cases h
 | some b =>
  rw [e] at h;refine ⟨(gD hs i).call,b,rfl,rfl,?_⟩;unfold skC at h ⊢;dsimp only at h ⊢;split<;>split<;>first | rfl | (rename_i z1 z2;rw [if_pos z1] at h;first | rw [if_pos z2] at h;cases h | rw [if_neg z2] at h;cases h) | (rename_i z1 z2;rw [if_neg z1] at h;first | (rw [if_pos z2] at h;cases h) | (rw [if_neg z2] at h;cases h))
noncomputable def gS (xs:List Sk) (x:Nat):Option Sk:=xs[x]?
def Pl (hs:List Dd) (l:List Nat) (x:Nat):Prop:=∃ c b,c.ok/\Ans.fits c b/\(skN hs l)[x]?=some (.lk c)/\(skN hs l)[x+1]?=some (.ly c b)/\gN (nsN hs l) x=gN (nsN hs l) (x+1)/\∀ z,z < (nsN hs l).length->gN (nsN hs l) z=gN (nsN hs l) x->z=x\/z=x+1
theorem bF0 {hs:List Dd}:∀ {l:List Nat} {k x:Nat},x∈lkF hs l k->k<=x
 | i::r,k,x,h=>by
  rw [lkF] at h;rcases List.mem_append.mp h with z | z
  ·split at z
   ·rw [List.mem_singleton.mp z];exact Nat.le_refl _
   ·cases z
  ·have:=bF0 z;omega
theorem bF1 {hs:List Dd} (ok:HOk hs):∀ {l:List Nat} {k x:Nat},(∀ i∈l,i < hs.length)->l.Nodup->x∈lkF hs l k->Pl hs l (x - k)
 | i::r,k,x,hl,nd,h=>by
  have nd':=List.nodup_cons.mp nd;have hn:i∉nsN hs r:=fun z=>nd'.1 (zD z);have eN:nsN hs (i::r)=List.replicate (lot hs i).length i++nsN hs r:=by unfold nsN;rw [List.map_cons,List.flatten_cons]
  have eS:skN hs (i::r)=skl hs i++skN hs r:=by unfold skN;rw [List.map_cons,List.flatten_cons]
  have sl:=zH hs i;rw [lkF] at h;have gmem:∀ z,z < (nsN hs r).length->gN (nsN hs r) z∈nsN hs r:=fun z hz=>by
   unfold gN;rw [List.getD_eq_getElem?_getD,List.getElem?_eq_getElem hz];exact List.getElem_mem hz
  rcases List.mem_append.mp h with z | z
  ·split at z
   ·rename_i h2;have:=List.mem_singleton.mp z;subst this;obtain ⟨c,b,ea,ec,es⟩:=cC1 h2;have o:=ok.ok _ (kR (hl i List.mem_cons_self));have e0:x - x=0:=Nat.sub_self x;rw [e0];refine ⟨c,b,by rw [ec];exact o.call,by rw [ec];exact gH o b ea,by rw [eS,es];rfl,by rw [eS,es];rfl,by rw [eN,h2];rfl,fun z hz e=>?_⟩;rw [eN,h2] at hz e
    match z,hz,e with
    | 0,_,_=>exact .inl rfl
    | 1,_,_=>exact .inr rfl
    | z+2,hz,e =>
     have hz':z < (nsN hs r).length:=by simp at hz;omega
     have e:gN (nsN hs r) z=i:=e;exact absurd (by rw [<- e];exact gmem z hz') hn
   ·cases z
  ·have ge:=bF0 z;obtain ⟨c,b,oc,fb,s1,s2,n1,n2⟩:=bF1 ok (fun i hi=>hl i (List.mem_cons_of_mem _ hi)) nd'.2 z;obtain ⟨m,hm⟩:∃ m,m=(lot hs i).length:=⟨_,rfl⟩;rw [<- hm] at z ge s1 s2 n1 n2 sl eN;obtain ⟨y,hy⟩:∃ y,y=x - (k+m):=⟨_,rfl⟩;rw [<- hy] at s1 s2 n1 n2;have exk:x - k=m+y:=by omega
   rw [exk];have gs:∀ w,gN (nsN hs (i::r)) (m+w)=gN (nsN hs r) w:=fun w=>by
    rw [eN];unfold gN;rw [List.getD_eq_getElem?_getD,List.getD_eq_getElem?_getD,List.getElem?_append_right (by simp)];simp
   have ss:∀ w,(skN hs (i::r))[m+w]?=(skN hs r)[w]?:=fun w=>by
    rw [eS,List.getElem?_append_right (by omega),sl];simp
   have hy2:y < (nsN hs r).length:=by
    have:y < (skN hs r).length:=(List.getElem?_eq_some_iff.mp s1).1;rw [lW,<- hH];exact this
   refine ⟨c,b,oc,fb,by rw [ss];exact s1,by rw [Nat.add_assoc,ss];exact s2,by rw [Nat.add_assoc,gs,gs];exact n1,fun w hw e=>?_⟩;rw [gs] at e
   by_cases hwm:w < m
   ·have:gN (nsN hs (i::r)) w=i:=by
     rw [eN];unfold gN;rw [List.getD_eq_getElem?_getD,List.getElem?_append_left (by simpa using hwm)];simp [hwm]
    rw [this] at e;exact absurd (by rw [e];exact gmem y hy2) hn
   ·obtain ⟨v,rfl⟩:∃ v,w=m+v:=⟨w - m,by omega⟩;rw [gs] at e;have hv:v < (nsN hs r).length:=by rw [eN,List.length_append,List.length_replicate] at hw;omega
    rcases n2 v hv e with q | q
    ·exact .inl (by rw [q])
    ·exact .inr (by rw [q,Nat.add_assoc])
end K47

namespace K47
open PySem PySem.Spec PyProof.Rows L2 DL CI SJ
theorem gI {α:Type} {g:XG} {tb:XS} {all:List PyData} (F:α->PyData) (outs:α->List PyData) (C:List PyData->aA) (I:DSt->Prop) (N k:Nat) (hk:∀ q,(outs q).length<=k):∀ (qs:List α) (acc:List PyData) (δ:DSt),I δ->acc.length+k*qs.length<=N ->
  (∀ q∈qs,∀ acc δ,I δ->acc.length+k<=N->∃ δ1,g (.d (F q)) δ (C acc)=some (δ1,C acc)/\∃ δ2,tb δ1 (C acc)=some (.nx δ2,C (acc++outs q))/\I δ2) ->
  ∃ δ',bJ g tb none all (qs.map F) δ (C acc)=some (.nx δ',C (acc++(qs.map outs).flatten))/\I δ'
 | [],acc,δ,i,_,_=>⟨δ,by simp [bJ],i⟩
 | q::r,acc,δ,i,hN,ht=>by
  rw [List.length_cons,Nat.mul_succ] at hN;obtain ⟨δ1,e1,δ2,e2,i2⟩:=ht q List.mem_cons_self acc δ i (by omega);have hq:=hk q;obtain ⟨δ3,e3,i3⟩:=gI (all:=all) F outs C I N k hk r (acc++outs q) δ2 i2 (by rw [List.length_append];omega) fun y hy=>ht y (List.mem_cons_of_mem _ hy);refine ⟨δ3,?_,i3⟩;rw [List.map_cons,bJ,cJ,if_pos rfl,e1];simp only [CI.bs,e2];rw [e3,List.map_cons,List.flatten_cons,List.append_assoc]
theorem exI {P Q:DSt->Prop} {x:Option (Fl×aA)} {H:aA} (e:∃ δ',x=some (.nx δ',H)/\P δ') (k:∀ δ,P δ->Q δ):∃ δ',x=some (.nx δ',H)/\Q δ':=by
 obtain ⟨δ',e,p⟩:=e;exact ⟨δ',e,k δ' p⟩
def yeE {P:DSt->Prop} {x:Option (Fl×aA)} {H:aA} (e:∃ δ',x=some (.nx δ',H)/\P δ'):∃ δ',YP x YE=some (.nx δ',H)/\P δ':=by
 obtain ⟨δ',e,p⟩:=e;exact ⟨δ',by rw [e];rfl,p⟩
def ypF {α:Type} {P:DSt->Prop} {x:Option α} {f:α->Option (Fl×aA)} {g:Fl×aA->Option (Fl×aA)} {H:aA} (a:α) (e:x=some a) (k:∃ δ',YP (f a) g=some (.nx δ',H)/\P δ'):∃ δ',YP (YP x f) g=some (.nx δ',H)/\P δ':=by
 rw [e];exact k
theorem jZ {α:Type} (f:α->List PyData) (k:Nat) (hk:∀ a,(f a).length<=k):∀ qs:List α,((qs.map f).flatten).length<=k*qs.length
 | []=>by simp
 | a::r=>by
  have:=jZ f k hk r;have:=hk a;rw [List.map_cons,List.flatten_cons,List.length_append,List.length_cons,Nat.mul_succ];omega
noncomputable def t3 (x z:Nat):PyData:=.tuple [.int x,.int ((x:Int)+1),.int z]
def iX (S:List Sk) (x z:Nat):Bool:=match S[x+1]?,S[z]? with
 | some (.ly c b),some s=>tch c b s
 | _,_=>false
def fJ (S:List Sk) (x:Nat):List PyData:=((List.range S.length).map fun z=>if (decide (z≠x+1)&&iX S x z)=true then [t3 x z] else []).flatten
def nU (S:List Sk) (x:Nat):(fJ S x).length<=S.length:=by
 have:=jZ (fun z=>if (decide (z≠x+1)&&iX S x z)=true then [t3 x z] else []) 1 (fun y=>by split<;>simp) (List.range S.length);rw [List.length_range,Nat.one_mul] at this;exact this
def Its (I:List PyData) (S:List Sk):Prop:=I.length=S.length/\∀ (z:Nat) (s:Sk),S[z]?=some s->∃ v,I[z]?=some v/\∀ H,xIx (.d v) (.d (.int 0)) H=some (.d s.dat,H)
def zI (hs:List Dd) (l:List Nat):Its ((l.map (lot hs)).flatten) (skN hs l):=by
 refine ⟨(hH hs l).symm,fun z s e=>?_⟩;have e1:=rN hs l;have tp:∀ v∈(l.map (lot hs)).flatten,∃ a r,v=.tuple (a::r):=fun v hv=>by
  obtain ⟨L,hL,hv⟩:=List.mem_flatten.mp hv;obtain ⟨i,_,rfl⟩:=List.mem_map.mp hL;unfold lot at hv;cases ea:fU (gD hs i) with
  | none=>rw [ea] at hv;rw [List.mem_singleton.mp hv];exact ⟨_,_,rfl⟩
  | some b =>
   rw [ea] at hv;rcases List.mem_append.mp hv with q | q
   ·split at q
    ·rw [List.mem_singleton.mp q];exact ⟨_,_,rfl⟩
    ·cases q
   ·split at q
    ·cases q
    ·rw [List.mem_singleton.mp q];exact ⟨_,_,rfl⟩
 generalize (l.map (lot hs)).flatten=I at *;have e2:((skN hs l).map Sk.dat)[z]?=some s.dat:=by rw [List.getElem?_map,e];rfl
 rw [<- e1,List.getElem?_map] at e2;obtain ⟨v,ev,es⟩:=Option.map_eq_some_iff.mp e2;obtain ⟨a,r,rfl⟩:=tp v (List.mem_of_getElem? ev);have es:a=s.dat:=es;refine ⟨_,ev,fun H=>?_⟩;rw [<- es];simp
variable (d:Nat) (h:aA)
def aE5 {S:List Sk} {I:List PyData} (it:Its I S) (so:∀ s∈S,s.ok) (hl:S.length<=120) {L:List Nat} (hL:L.length<=60) (hp:∀ x∈L,∃ c b,c.ok/\Ans.fits c b/\S[x+1]?=some (.ly c b)):aD T (d+6) "triples_of" [.d (.tuple I),.d (.list (L.map nI))] h=some (.tuple ((L.map (fJ S)).flatten),h):=by
 obtain ⟨il,iz⟩:=it;have er:cU 0 I.length=true:=bN (by omega) (by omega);have er2:cU 0 S.length=true:=bN (by omega) (by omega);have ix:∀ (z:Nat) (s:Sk),S[z]?=some s->∃ v,(∀ H,xIx (.d (.tuple I)) (.d (.int (z:Nat))) H=some (.d v,H))/\∀ H,xIx (.d v) (.d (.int 0)) H=some (.d s.dat,H):=fun z s e=>by
  obtain ⟨v,ev,q⟩:=iz z s e;refine ⟨v,fun H=>?_,q⟩;have a:atI I (z:Int)=some v:=bO ev;rw [CI.ix_t,a];rfl
 have le:∀ H,aY [.d (.tuple I)] H=some (.d (.int I.length),H):=fun H=>by simp
 obtain ⟨hd,ehd⟩:∃ hd,hd=PyData.tuple I:=⟨_,rfl⟩;obtain ⟨ld,eld⟩:∃ ld,ld=PyData.list (L.map nI):=⟨_,rfl⟩;rw [<- ehd] at ix le;have mp:=fun acc=>CI.mpre_last h acc;have gl:=fun acc=>CI.get_last h (.l acc);have sl:=fun acc acc'=>CI.set_last h (.l acc) (.l acc');have lp:∃ δ',bJ (YG 3) (dG (d+5)) none (L.map nI) (L.map nI) [some (.d hd),some (.d ld),some (.c h.length),none,none] (h++[.l []])=some (.nx δ',h++[.l ([]++(L.map (fJ S)).flatten)])/\∃ x3 x4,δ'=[some (.d hd),some (.d ld),some (.c h.length),x3,x4]:=by
  refine gI nI (fJ S) (fun acc=>h++[.l acc]) (fun δ=>∃ x3 x4,δ=[some (.d hd),some (.d ld),some (.c h.length),x3,x4]) 10000 120 (fun q=>Nat.le_trans (nU S q) hl) L [] _ ⟨_,_,rfl⟩ (by rw [List.length_nil];omega) ?_;rintro x hx acc δ ⟨x3,x4,rfl⟩ ha;obtain ⟨c,b,oc,fb,ey⟩:=hp x hx;obtain ⟨v,v1,v2⟩:=ix (x+1) _ ey;have cx:((x+1:Nat):Int)=(x:Int)+1:=by omega
  rw [cx] at v1;refine ⟨[some (.d hd),some (.d ld),some (.c h.length),some (.d (nI x)),x4],rfl,?_⟩;unfold dG;refine ypF (((List.range S.length).map nI,none),h++[.l acc]) (by simp [le,er2,il,tR]) ?_;unfold YFr;refine yeE (exI (gI nI (fun z=>if (decide (z≠x+1)&&iX S x z)=true then [t3 x z] else []) (fun acc=>h++[.l acc]) (fun δ=>∃ x4,δ=[some (.d hd),some (.d ld),some (.c h.length),some (.d (nI x)),x4]) 10200 1 (fun q=>by split<;>simp) _ _ _ ⟨_,rfl⟩ (by simp;omega) ?_) fun δ hδ=>by obtain ⟨x4,rfl⟩:=hδ;exact ⟨_,_,rfl⟩);rintro z hz acc δ ⟨x4,rfl⟩ ha;have hz:=List.mem_range.mp hz;refine ⟨[some (.d hd),some (.d ld),some (.c h.length),some (.d (nI x)),some (.d (nI z))],rfl,[some (.d hd),some (.d ld),some (.c h.length),some (.d (nI x)),some (.d (nI z))],?_,_,rfl⟩;have al:acc.length < 16777216:=by omega
  have es:S[z]?=some S[z]:=List.getElem?_eq_getElem hz;obtain ⟨u,u1,u2⟩:=ix z _ es;have ck:=fun H=>cC0 d H oc fb (so S[z] (List.getElem_mem hz));have et:iX S x z=tch c b S[z]:=by unfold iX;rw [ey,es]
  rw [et];generalize S[z]=sz at *;generalize (Sk.ly c b).dat=yd at *;generalize sz.dat=sd at *
  by_cases q:z=x+1
  ·have q':(z:Int)=(x:Int)+1:=by omega
   simp [nI,q,q',cx]
  ·have q':¬ (z:Int)=(x:Int)+1:=by omega
   cases w:tch c b sz with
   | true =>
    rw [w] at ck;simp [nI,q,q',v1,v2,u1,u2,ck,mp,gl,sl,al,szl,t3]
   | false =>
    rw [w] at ck;simp [nI,q,q',v1,v2,u1,u2,ck]
 obtain ⟨_,e,x3,x4,rfl⟩:=lp;have ec:=fun z=>aQ (z:=z) (h:=h) (H:=h++[.l ((L.map (fJ S)).flatten)]) (fun i hi=>List.getElem?_append_left hi) (by simp);rw [List.nil_append] at e;rw [<- ehd,<- eld,show d+6=(d+5)+1 from rfl,rB];refine sq (.rt (.d (.tuple ((L.map (fJ S)).flatten))),h++[.l ((L.map (fJ S)).flatten)]) ?_ (ec _);refine sy [some (.d hd),some (.d ld),some (.c h.length),none,none] (h++[.l []]) (by simp) ?_;refine sy [some (.d hd),some (.d ld),some (.c h.length),x3,x4] (h++[.l ((L.map (fJ S)).flatten)]) (ypS ((L.map nI,none),h++[.l []]) (by simp [eld,aM]) e) ?_;simp [aT,ref]
end K47

namespace K47
open PySem PySem.Spec PyProof.Rows L2 DL CI SJ
variable (d:Nat) (h:aA)
def rO {S:List Sk} {I:List PyData} (it:Its I S) (so:∀ s∈S,s.ok) (hl:S.length<=120) {L ns:List Nat} (hn:ns.length=S.length) (hL:L.length<=60) (hp:∀ x∈L,∃ c b,c.ok/\Ans.fits c b/\S[x]?=some (.lk c)/\S[x+1]?=some (.ly c b)/\gN ns x=gN ns (x+1)/\∀ z,z < ns.length->gN ns z=gN ns x->z=x\/z=x+1):aD T (d+4) "_law_triples" [.d (.list I),.d (.list (ns.map nI)),.d (.list (L.map fun x=>p2 (x,x+1)))] h=some (.tuple ((L.map (fJ S)).flatten),h):=by
 obtain ⟨il,iz⟩:=it;have er2:cU 0 S.length=true:=bN (by omega) (by omega);have ix:∀ (z:Nat) (s:Sk),S[z]?=some s->∃ v,(∀ H,xIx (.d (.list I)) (.d (.int (z:Nat))) H=some (.d v,H))/\∀ H,xIx (.d v) (.d (.int 0)) H=some (.d s.dat,H):=fun z s e=>by
  obtain ⟨v,ev,q⟩:=iz z s e;refine ⟨v,fun H=>?_,q⟩;have a:atI I (z:Int)=some v:=bO ev;rw [CI.ix_l,a];rfl
 have nx:∀ z,z < ns.length->∀ H,xIx (.d (.list (ns.map nI))) (.d (.int (z:Nat))) H=some (.d (.int (gN ns z)),H):=fun z hz H=>by
  have a:atI (ns.map nI) (z:Int)=some (nI (gN ns z)):=bO (by simp [gN,nI,List.getD,hz]);rw [CI.ix_l,a];rfl
 have le:∀ H,aY [.d (.list I)] H=some (.d (.int I.length),H):=fun H=>by simp
 obtain ⟨hd,ehd⟩:∃ hd,hd=PyData.list I:=⟨_,rfl⟩;obtain ⟨nd,end_⟩:∃ nd,nd=PyData.list (ns.map nI):=⟨_,rfl⟩;obtain ⟨ld,eld⟩:∃ ld,ld=PyData.list (L.map fun x=>p2 (x,x+1)):=⟨_,rfl⟩;rw [<- ehd] at ix le;rw [<- end_] at nx;have mp:=fun acc=>CI.mpre_last h acc;have gl:=fun acc=>CI.get_last h (.l acc);have sl:=fun acc acc'=>CI.set_last h (.l acc) (.l acc');have lp:∃ δ',bJ (aO [YG 4,YG 5]) (cC (d+3)) none (L.map fun x=>p2 (x,x+1)) (L.map fun x=>p2 (x,x+1)) [some (.d hd),some (.d nd),some (.d ld),some (.c h.length),none,none,none,none] (h++[.l []])=some (.nx δ',h++[.l ([]++(L.map (fJ S)).flatten)])/\∃ x4 x5 x6 x7,δ'=[some (.d hd),some (.d nd),some (.d ld),some (.c h.length),x4,x5,x6,x7]:=by
  refine gI (fun x=>p2 (x,x+1)) (fJ S) (fun acc=>h++[.l acc]) (fun δ=>∃ x4 x5 x6 x7,δ=[some (.d hd),some (.d nd),some (.d ld),some (.c h.length),x4,x5,x6,x7]) 10000 120 (fun q=>Nat.le_trans (nU S q) hl) L [] _ ⟨_,_,_,_,rfl⟩ (by rw [List.length_nil];omega) ?_;rintro x hx acc δ ⟨x4,x5,x6,x7,rfl⟩ ha;obtain ⟨c,b,oc,fb,ex,ey,nq,uq⟩:=hp x hx;obtain ⟨v,v1,v2⟩:=ix (x+1) _ ey;have xl:x+1 < S.length:=(List.getElem?_eq_some_iff.mp ey).1;have cx:((x+1:Nat):Int)=(x:Int)+1:=by omega
  have cm:∀ H,aN (aO [YG 0,YG 1]) (aC true) (aB 0) none ((lfs c b).map ptD) ((lfs c b).map ptD) [none,none] H []=some (((lfs c b).map fun p=>(p.1:Int)).map .int,H):=fun H=>by
   rw [List.map_map];refine cmM ptD (PyData.int ∘ fun p:Nat×Int=>(p.1:Int)) (fun δ=>∃ u v,δ=[u,v]) _ _ ⟨_,_,rfl⟩ fun p hp δ hδ=>?_;obtain ⟨u,v,rfl⟩:=hδ;exact ⟨[some (.d (.int p.1)),some (.d (.int p.2))],by simp [ptD,aO,cD],⟨_,_,rfl⟩,rfl⟩
  simp only [cE,cH,cP,cO,cR,cS,cT,dC,dD,dE,cM,cN,cX,dB,cQ,cY,cZ,dA,bdi] at cm;have yi:∀ H,xIx (.d (Sk.ly c b).dat) (.d (.int 1)) H=some (.d (.tuple ((lfs c b).map ptD)),H):=fun H=>by
   have ed:(Sk.ly c b).dat=.tuple [.str (Str.ofString "lay"),.tuple ((lfs c b).map ptD)]:=rfl;rw [ed];simp
  have ct:=fun {s} hs H=>aE4 d H (c:=c) (b:=b) (x:=s) hs;obtain ⟨KD,hKD⟩:∃ KD,KD=((lfs c b).map fun p=>(p.1:Int)).map PyData.int:=⟨_,rfl⟩;rw [<- hKD] at ct;simp only [<- hKD] at cm;refine ⟨[some (.d hd),some (.d nd),some (.d ld),some (.c h.length),some (.d (nI x)),some (.d (nI (x+1))),x6,x7],by simp [p2,nI,aO,cD],?_⟩;unfold cC;have st:aR 6 (aK (xb (aM (xb (xb (xb (aB 0) (YXx (aB 5))) (YI 0)) (YI 1))) (YCp (aO [YG 0,YG 1]) (aC true) (aB 0) [none,none]))) [some (.d hd),some (.d nd),some (.d ld),some (.c h.length),some (.d (nI x)),some (.d (nI (x+1))),x6,x7] (h++[.l acc])=some (.nx [some (.d hd),some (.d nd),some (.d ld),some (.c h.length),some (.d (nI x)),some (.d (nI (x+1))),some (.d (.list KD)),x7],h++[.l acc]):=by
   generalize (lfs c b).map ptD=P at *;generalize (Sk.ly c b).dat=yd at *;rw [cx] at v1;simp [nI,v1,v2,yi,cm,aM]
  rw [st];show ∃ δ2,YP (YP _ _) YE=_/\_;refine ypF (((List.range S.length).map nI,none),h++[.l acc]) (by simp [le,er2,il,tR]) ?_;unfold YFr;refine yeE (exI (gI nI (fun z=>if (decide (z≠x+1)&&iX S x z)=true then [t3 x z] else []) (fun acc=>h++[.l acc]) (fun δ=>∃ x7,δ=[some (.d hd),some (.d nd),some (.d ld),some (.c h.length),some (.d (nI x)),some (.d (nI (x+1))),some (.d (.list KD)),x7]) 10200 1 (fun q=>by split<;>simp) _ _ _ ⟨_,rfl⟩ (by simp;omega) ?_) fun δ hδ=>by obtain ⟨x7,rfl⟩:=hδ;exact ⟨_,_,_,_,rfl⟩);rintro z hz acc δ ⟨x7,rfl⟩ ha;have hz:=List.mem_range.mp hz;refine ⟨[some (.d hd),some (.d nd),some (.d ld),some (.c h.length),some (.d (nI x)),some (.d (nI (x+1))),some (.d (.list KD)),some (.d (nI z))],rfl,[some (.d hd),some (.d nd),some (.d ld),some (.c h.length),some (.d (nI x)),some (.d (nI (x+1))),some (.d (.list KD)),some (.d (nI z))],?_,_,rfl⟩;have al:acc.length < 16777216:=by omega
  have es:S[z]?=some S[z]:=List.getElem?_eq_getElem hz;obtain ⟨u,u1,u2⟩:=ix z _ es;have ck:=fun H=>ct (so S[z] (List.getElem_mem hz)) H;have et:iX S x z=tch c b S[z]:=by unfold iX;rw [ey,es]
  have n1:=nx z (by omega);have n2:=nx x (by omega);have eb:(decide (z≠x+1)&&tch c b S[z])=(decide (gN ns z≠gN ns x)&&tch c b S[z]):=by
   by_cases q:gN ns z=gN ns x
   ·rcases uq z (by omega) q with q2 | q2
    ·subst q2;have:S[z]=.lk c:=by rw [ex] at es;exact (Option.some.inj es).symm
     rw [this];have e0:tch c b (.lk c)=false:=by simp [tch,wJ]
     rw [e0,Bool.and_false,Bool.and_false]
    ·subst q2;simp [q]
   ·have q2:z≠x+1:=fun e=>q (by rw [e,nq]);simp [q,q2]
  rw [et,eb];generalize S[z]=sz at *;generalize sz.dat=sd at *;generalize gN ns z=gz at *;generalize gN ns x=gx at *
  by_cases q:gz=gx
  ·simp [nI,n1,n2,q]
  ·have q':¬ (gz:Int)=gx:=by omega
   cases w:tch c b sz with
   | true =>
    rw [w] at ck;simp [nI,n1,n2,q,q',u1,u2,ck,mp,gl,sl,al,szl,t3]
   | false =>
    rw [w] at ck;simp [nI,n1,n2,q,q',u1,u2,ck]
 obtain ⟨_,e,x4,x5,x6,x7,rfl⟩:=lp;have ec:=fun z=>aQ (z:=z) (h:=h) (H:=h++[.l ((L.map (fJ S)).flatten)]) (fun i hi=>List.getElem?_append_left hi) (by simp);rw [List.nil_append] at e;rw [<- ehd,<- end_,<- eld,show d+4=(d+3)+1 from rfl,nK];refine sq (.rt (.d (.tuple ((L.map (fJ S)).flatten))),h++[.l ((L.map (fJ S)).flatten)]) ?_ (ec _);refine sy [some (.d hd),some (.d nd),some (.d ld),some (.c h.length),none,none,none,none] (h++[.l []]) (by simp) ?_;refine sy [some (.d hd),some (.d nd),some (.d ld),some (.c h.length),x4,x5,x6,x7] (h++[.l ((L.map (fJ S)).flatten)]) (ypS ((L.map fun x=>p2 (x,x+1),none),h++[.l []]) (by simp [eld,aM]) e) ?_;simp [aT,ref]
end K47

namespace K47
open PySem PySem.Spec PyProof.Rows L2 DL CI SJ
def enL (hs:List Dd) (l:List Nat):List (PyData×Nat):=(l.map fun i=>(lot hs i).map fun x=>(x,i)).flatten
noncomputable def enD (e:PyData×Nat):PyData:=.tuple [e.1,.int e.2]
def cP6 (hs:List Dd) (l:List Nat):(l.map (hW hs)).flatten=(enL hs l).map enD:=by
 unfold enL hW;rw [List.map_flatten,List.map_map]
 congr 1
 refine List.map_congr_left fun i _=>?_;simp [enD,Function.comp_def]
def cP7 (hs:List Dd) (l:List Nat):(l.map (lot hs)).flatten=(enL hs l).map (·.1):=by
 unfold enL;rw [List.map_flatten,List.map_map]
 congr 1
 refine List.map_congr_left fun i _=>?_;simp [Function.comp_def]
def cC2 (hs:List Dd) (l:List Nat):(l.map (jX hs)).flatten=(enL hs l).map fun e=>nI e.2:=by
 unfold enL jX;rw [List.map_flatten,List.map_map]
 congr 1
 refine List.map_congr_left fun i _=>?_;simp [Function.comp_def]
noncomputable def aE6:PyData:=.tuple [.int 0,.int 0,.int 0,.int 0,.int 0,.int 0,.int 0,.int 0]
def bW (hs:List Dd):List PyData:=((tk hs).map (lot hs)).flatten
def bR (hs:List Dd):List PyData:=((tk hs).map (jX hs)).flatten
def befL (hs:List Dd) (snap:Bool):List PyData:=if snap=true then cpF hs (tk hs) 0 else []
def trpL (hs:List Dd) (snap:Bool):List PyData:=if snap=true then ((lkF hs (tk hs) 0).map (fJ (skN hs (tk hs)))).flatten else []
def pbD (hs:List Dd) (snap:Bool):PyData:=.tuple [aE6,.tuple (bW hs),.tuple (befL hs snap),.tuple (trpL hs snap)]
def frD (hs:List Dd) (snap:Bool):PyData:=.tuple [.none,pbD hs snap,.tuple (bR hs)]
noncomputable def pw (snap:Bool):String:=if snap=true then "snap" else "stand"
def bF2 {hs:List Dd}:(tk hs).Nodup:=by
 refine (jW hs).nodup_iff.mpr ?_;unfold nums;exact List.Nodup.sublist List.filter_sublist List.nodup_range
def aS8 {hs:List Dd} (ok:HOk hs):∀ s∈skN hs (tk hs),s.ok:=fun s hs'=>by
 obtain ⟨L,hL,h⟩:=List.mem_flatten.mp hs';obtain ⟨i,hi,rfl⟩:=List.mem_map.mp hL;exact bQ6 ok (tX hi) s h
def uA {hs:List Dd} (ok:HOk hs):(skN hs (tk hs)).length<=120:=by
 rw [hH];have:=jY hs (tk hs);have:=jH ok;omega
theorem nV (hs:List Dd):∀ (l:List Nat) (k:Nat),(lkF hs l k).length<=l.length
 | [],k=>Nat.le_refl _
 | a::r,k=>by
  have:=nV hs r (k+(lot hs a).length);rw [lkF,List.length_append,List.length_cons];split<;>simp<;>omega
def zJ {hs:List Dd} (ok:HOk hs):∀ x∈lkF hs (tk hs) 0,Pl hs (tk hs) x:=fun x hx=>by
 have:=bF1 ok (fun i hi=>tX hi) bF2 hx
 rwa [Nat.sub_zero] at this
variable (d:Nat) (h:aA)
def bB7 {hs:List Dd} (ok:HOk hs) (snap:Bool):aD T (d+7) "frame" [.d (.tuple (hs.map Dd.dat)),.d (.str (Str.ofString (pw snap))),.d .none,.d (.list (((tk hs).map (hW hs)).flatten))] h=some (frD hs snap,h):=by
 have eS:∀ z:PyData,aJ h (.rt (.d z),h)=some (z,h):=fun z=>aQ (fun _ _=>rfl) (Nat.le_refl _);have tl:=jH ok;have ct:=aE5 d h (zI hs (tk hs)) (aS8 ok) (uA ok) (L:=lkF hs (tk hs) 0) (by have:=nV hs (tk hs) 0;omega) fun x hx=>by
  obtain ⟨c,b,oc,fb,_,ey,_⟩:=zJ ok x hx;exact ⟨c,b,oc,fb,ey⟩
 have cw:=cB7 (d+5) h (nsN hs (tk hs)) (by rw [lW];have:=jY hs (tk hs);omega);rw [rM hs (tk hs) 0 bF2,<- wI] at cw;have m1:aN (aO [YG 0,YG 1]) (aC true) (aB 0) none ((enL hs (tk hs)).map enD) ((enL hs (tk hs)).map enD) [none,none] h []=some (bW hs,h):=by
  have e:bW hs=(enL hs (tk hs)).map (·.1):=cP7 hs (tk hs);rw [e];refine cmM enD (fun e=>e.1) (fun δ=>∃ u v,δ=[u,v]) _ _ ⟨_,_,rfl⟩ fun e he δ hδ=>?_;obtain ⟨u,v,rfl⟩:=hδ;exact ⟨[some (.d e.1),some (.d (.int e.2))],by simp [enD,aO,cD],⟨_,_,rfl⟩,rfl⟩
 have m2:aN (aO [YG 0,YG 1]) (aC true) (aB 1) none ((enL hs (tk hs)).map enD) ((enL hs (tk hs)).map enD) [none,none] h []=some (bR hs,h):=by
  have e:bR hs=(enL hs (tk hs)).map fun e=>nI e.2:=cC2 hs (tk hs);rw [e];refine cmM enD (fun e=>nI e.2) (fun δ=>∃ u v,δ=[u,v]) _ _ ⟨_,_,rfl⟩ fun e he δ hδ=>?_;obtain ⟨u,v,rfl⟩:=hδ;exact ⟨[some (.d e.1),some (.d (.int e.2))],by simp [enD,aO,cD],⟨_,_,rfl⟩,rfl⟩
 have m3:aN (YG 0) (aC true) (xb (xPl (Y2 (aB 0) (xb (aB 0) (YB .Add 1)))) YT) none ((lkF hs (tk hs) 0).map nI) ((lkF hs (tk hs) 0).map nI) [none] h []=some (cpF hs (tk hs) 0,h):=by
  rw [pX];refine cmM nI (fun x=>p2 (x,x+1)) (fun δ=>∃ u,δ=[u]) _ _ ⟨_,rfl⟩ fun x hx δ hδ=>?_;obtain ⟨u,rfl⟩:=hδ;exact ⟨_,rfl,⟨_,rfl⟩,by simp [nI,p2,szl]⟩
 have e1:frD hs snap=.tuple [.none,.tuple [.tuple [.int 0,.int 0,.int 0,.int 0,.int 0,.int 0,.int 0,.int 0],.tuple (bW hs),.tuple (befL hs snap),.tuple (trpL hs snap)],.tuple (bR hs)]:=rfl;rw [e1,cP6];unfold befL trpL;have ct:aD T (d+6) (Str.ofString "triples_of") [.d (.tuple (bW hs)),.d (.list ((lkF hs (tk hs) 0).map nI))] h=some (.tuple (((lkF hs (tk hs) 0).map (fJ (skN hs (tk hs)))).flatten),h):=ct;have cw:aD T (d+6) (Str.ofString "looks_with_lays") [.d (.tuple (bR hs))] h=some (.list ((lkF hs (tk hs) 0).map nI),h):=cw;generalize ((lkF hs (tk hs) 0).map (fJ (skN hs (tk hs)))).flatten=TR at *;generalize cpF hs (tk hs) 0=CP at *;generalize (lkF hs (tk hs) 0).map nI=LK at *;generalize bW hs=I at *;generalize bR hs=N at *;generalize (enL hs (tk hs)).map enD=E at *;generalize PyData.tuple (hs.map Dd.dat)=hd at *;simp only [cE,cH,cP,cO,cR,cS,cT,dC,dD,dE,cM,cN,cX,dB,cQ,cY,cZ,dA,bdi] at m1 m2 m3;rw [show d+7=(d+6)+1 from rfl,aZ2];cases snap
 ·simp [pw,m1,m2,szl,eS]
 ·simp [pw,m1,m2,m3,ct,cw,szl,eS]
end K47

namespace K47
open PySem PySem.Spec PyProof.Rows L2 DL CI SJ
variable (d:Nat) (h:aA)
def aS9 {hs:List Dd} (ok:HOk hs) {H:aA} {ts:List (Pos×Str)} (ht:H[0]?=some (.t ts)) (hts:wD ts) (snap:Bool):aD T (d+8) "framed" [.d (.tuple (hs.map Dd.dat)),.d (.str (Str.ofString (pw snap)))] H=some (.list [frD hs snap],H.set 0 (.t tE)):=by
 have hl:=(List.getElem?_eq_some_iff.mp ht).1;obtain ⟨G,hG⟩:∃ G,G=H.set 0 (.t tE):=⟨_,rfl⟩;have eE:∀ z,aJ H (.rt (.d z),G)=some (z,G):=fun z=>by rw [hG];exact wE
 have e1:=bB5 (d+3) ok ht hts;rw [<- hG] at e1 ⊢;have e2:=bB7 d G ok snap;have e1:aD T (d+7) (Str.ofString "look_entries") [.d (.tuple (hs.map Dd.dat))] H=some (.list (((tk hs).map (hW hs)).flatten),G):=e1;generalize PyData.tuple (hs.map Dd.dat)=hd at *;generalize ((tk hs).map (hW hs)).flatten=E at *;generalize frD hs snap=R at *;rw [show d+8=(d+7)+1 from rfl,aN8];cases snap
 ·have hp:pw false="stand":=rfl;rw [hp] at e2 ⊢;simp [szl,xIn,ref,PyData.eqv,e1,e2,eE]
 ·have hp:pw true="snap":=rfl;rw [hp] at e2 ⊢;simp [szl,xIn,ref,PyData.eqv,e1,e2,eE]
def bB8 (snap:Bool):aD T (d+1) "check_promise" [.d (.str (Str.ofString (pw snap)))] h=some (.none,h):=by
 have eS:∀ δ:DSt,aJ h (.nx δ,h)=some (.none,h):=fun δ=>by
  rw [aN2,if_pos (dO h),List.take_of_length_le (Nat.le_refl _)]
 cases snap<;>simp [lK,isi,gJ,xIn,ref,PyData.eqv,eS,pw]
def uB {hs:List Dd} (ok:HOk hs) {H:aA} {ts:List (Pos×Str)} (ht:H[0]?=some (.t ts)) (hts:wD ts) (snap:Bool):aD T (d+12) "frames_of" [.d (.tuple (hs.map Dd.dat)),.d (.str (Str.ofString (pw snap)))] H=some (.list ([frD hs snap]),H.set 0 (.t tE)):=by
 have e1:=tS d H ok;have e2:=bB8 (d+10) H snap;have e3:=aS9 (d+3) ok ht hts snap;generalize PyData.tuple (hs.map Dd.dat)=hd at *;generalize W.d (.str (Str.ofString (pw snap)))=pr at *;rw [show d+12=(d+11)+1 from rfl,tI];have eE:∀ z,aJ H (.rt (.d z),H.set 0 (.t tE))=some (z,H.set 0 (.t tE)):=fun z=>wE;simp [e1,e2,e3,eE]
def pnD (hs:List Dd) (snap:Bool):PyData:=.tuple [.none,pbD hs snap]
def hJ {hs:List Dd} (ok:HOk hs) {H:aA} {ts:List (Pos×Str)} (ht:H[0]?=some (.t ts)) (hts:wD ts) (snap:Bool):callW T (d+13) "problems_of" [.d (.tuple (hs.map Dd.dat)),.d (.str (Str.ofString (pw snap)))] H=some (.c H.length,H.set 0 (.t tE)++[.l [pnD hs snap]]):=by
 have e1:=uB d ok ht hts snap;have fd:frD hs snap=.tuple [.none,pbD hs snap,.tuple (bR hs)]:=rfl;have m:aN (aO [YG 0,YG 1,YG 2]) (aC true) (xb (xPl (Y2 (aB 0) (aB 1))) YT) none [frD hs snap] [frD hs snap] [none,none,none] (H.set 0 (.t tE)) []=some ([pnD hs snap],H.set 0 (.t tE)):=by
  rw [fd];simp [aN,aO,cD,pnD,szl]
 generalize PyData.tuple (hs.map Dd.dat)=hd at *;simp only [cE,cH,cP,cO,cR,cS,cT,dC,dD,dE,cM,cN,cX,dB,cQ,cY,cZ,dA,bdi] at m;generalize W.d (.str (Str.ofString (pw snap)))=pr at *;rw [show d+13=(d+12)+1 from rfl,nE];simp [e1,m,iU]
def rP {hs:List Dd} (ok:HOk hs) {H:aA} {ts:List (Pos×Str)} (ht:H[0]?=some (.t ts)) (hts:wD ts) (snap:Bool):callW T (d+13) "deeds_of" [.d (.tuple (hs.map Dd.dat)),.d (.str (Str.ofString (pw snap)))] H=some (.c H.length,H.set 0 (.t tE)++[.l [.tuple (bR hs)]]):=by
 have e1:=uB d ok ht hts snap;have fd:frD hs snap=.tuple [.none,pbD hs snap,.tuple (bR hs)]:=rfl;have m:aN (aO [YG 0,YG 1,YG 2]) (aC true) (aB 2) none [frD hs snap] [frD hs snap] [none,none,none] (H.set 0 (.t tE)) []=some ([.tuple (bR hs)],H.set 0 (.t tE)):=by
  rw [fd];simp [aN,aO,cD]
 generalize PyData.tuple (hs.map Dd.dat)=hd at *;simp only [cE,cH,cP,cO,cR,cS,cT,dC,dD,dE,cM,cN,cX,dB,cQ,cY,cZ,dA,bdi] at m;generalize W.d (.str (Str.ofString (pw snap)))=pr at *;rw [show d+13=(d+12)+1 from rfl,tJ];simp [e1,m,iU]
end K47

namespace K47
open PySem PySem.Spec PyProof.Rows L2 DL CI SJ
mutual
theorem wK:∀ (n:Nat) (d:PyData),aG n d=true->CI.peq d d=true/\PyData.eqv d d=true
 | _,.none,_=>⟨rfl,by simp [PyData.eqv]⟩
 | _,.bool b,_=>⟨by simp [CI.peq],by simp [PyData.eqv]⟩
 | _,.int i,_=>⟨by simp [CI.peq],by simp [PyData.eqv]⟩
 | _,.str x,_=>⟨by simp [CI.peq],by simp [PyData.eqv]⟩
 | 0,.list _,h=>nomatch h
 | 0,.tuple _,h=>nomatch h
 | n+1,.list xs,h=>by
  have:=peqs_pl n xs h;exact ⟨by simpa [CI.peq] using this.1,by simpa [PyData.eqv] using this.2⟩
 | n+1,.tuple xs,h=>by
  have:=peqs_pl n xs h;exact ⟨by simpa [CI.peq] using this.1,by simpa [PyData.eqv] using this.2⟩
 | n,.dict _,h=>by cases n<;>cases h
theorem peqs_pl:∀ (n:Nat) (d:List PyData),plainsB n d=true->CI.peqs d d=true/\PyData.eqvAll d d=true
 | _,[],_=>⟨rfl,by simp [PyData.eqvAll]⟩
 | n,x::xs,h=>by
  rw [mU,Bool.and_eq_true] at h;have a:=wK n x h.1;have b:=peqs_pl n xs h.2;exact ⟨by simp [CI.peqs,a.1,b.1],by simp [PyData.eqvAll,a.2,b.2]⟩
end
theorem iP:∀ {n:Nat} {xs:List PyData},(∀ x∈xs,aG n x=true)->plainsB n xs=true
 | _,[],_=>aX8 _
 | n,x::xs,h=>by rw [mU,h x List.mem_cons_self,iP fun y hy=>h y (List.mem_cons_of_mem _ hy)];rfl
def zK (c:SJ.Call) (n:Nat):aG (n+3) c.dat=true:=by
 cases c with
 | one o=>exact aQ1 o (n+2)
 | span lo hi=>simp [Call.dat]
 | deal cs=>simp [Call.dat,rH]
def cC3 (t:Option SJ.Ans) (n:Nat):aG (n+3) (tD t)=true:=by
 cases t with
 | none=>simp [tD]
 | some a =>
  cases a with
  | one a=>exact wB a (n+2)
  | all ns=>simp [tD,Ans.dat,gZ]
  | each as=>simp [tD,Ans.dat,lR]
def zM {H:aA} {j:Nat} {xs:List PyData} (e:H[j]?=some (.l xs)) (p:plainsB 63 xs=true):xEq (.c j) (.d (.list xs)) H=some true:=by
 have:xEq (.c j) (.d (.list xs)) H=if (aG 64 (.list xs)&&aG 64 (.list xs))=true then some (PyData.eqv (.list xs) (.list xs)) else none:=by
  simp only [xEq,ref,e]
 have q:aG 64 (.list xs)=true:=p;rw [this,q,(wK 64 _ q).2];rfl
def bQ7 (b:SJ.Ans) (n:Nat):aG (n+3) b.dat=true:=by
 have:=cC3 (some b) n;exact this
def cC4 (c:SJ.Call) (b:SJ.Ans) (n:Nat):aG (n+3) (lvD c b)=true:=by
 have:plainsB (n+2) ((lfs c b).map ptD)=true:=iP fun x hx=>by
  obtain ⟨p,_,rfl⟩:=List.mem_map.mp hx;simp [ptD]
 exact this
def bQ8 {hs:List Dd} {i:Nat} (n:Nat):∀ v∈lot hs i,aG (n+5) v=true:=fun v hv=>by
 unfold lot at hv;cases ea:fU (gD hs i) with
 | none =>
  rw [ea] at hv;rw [List.mem_singleton.mp hv];have:=zK (gD hs i).call (n+1);simp [itC,this]
 | some b =>
  rw [ea] at hv;rcases List.mem_append.mp hv with q | q
  ·split at q
   ·rw [List.mem_singleton.mp q];have h1:=zK (gD hs i).call n;have h2:=bQ7 b (n+1);simp [itL,h1,h2]
   ·cases q
  ·split at q
   ·cases q
   ·rw [List.mem_singleton.mp q];have h1:=cC4 (gD hs i).call b n;simp [itY,h1]
def bQ9 (hs:List Dd) (n:Nat):plainsB (n+5) (bW hs)=true:=iP fun v hv=>by
 obtain ⟨L,hL,hv⟩:=List.mem_flatten.mp hv;obtain ⟨i,_,rfl⟩:=List.mem_map.mp hL;exact bQ8 n v hv
def bR0 (hs:List Dd) (snap:Bool) (n:Nat):plainsB (n+2) (befL hs snap)=true:=iP fun v hv=>by
 unfold befL at hv;split at hv
 ·rw [pX] at hv;obtain ⟨x,_,rfl⟩:=List.mem_map.mp hv;simp [p2]
 ·cases hv
def bR1 (hs:List Dd) (snap:Bool) (n:Nat):plainsB (n+2) (trpL hs snap)=true:=iP fun v hv=>by
 unfold trpL at hv;split at hv
 ·obtain ⟨L,hL,hv⟩:=List.mem_flatten.mp hv;obtain ⟨x,_,rfl⟩:=List.mem_map.mp hL;unfold fJ at hv;obtain ⟨L,hL,hv⟩:=List.mem_flatten.mp hv;obtain ⟨z,_,rfl⟩:=List.mem_map.mp hL;split at hv
  ·rw [List.mem_singleton.mp hv];simp [t3]
  ·cases hv
 ·cases hv
def cC5 (hs:List Dd) (snap:Bool) (n:Nat):aG (n+7) (pbD hs snap)=true:=by
 have h1:=bQ9 hs n;have h2:=bR0 hs snap (n+3);have h3:=bR1 hs snap (n+3);simp only [pbD];simp [aE6,h1,h2,h3]
def bR2 (hs:List Dd) (n:Nat):plainsB (n+1) (bR hs)=true:=iP fun v hv=>by
 unfold bR at hv;rw [cC2] at hv;obtain ⟨e,_,rfl⟩:=List.mem_map.mp hv;simp [nI]
def bF3 (hs:List Dd) (snap:Bool):plainsB 63 [pnD hs snap]=true:=by
 have:=cC5 hs snap 55;simp [pnD,this]
end K47

namespace K47
open PySem PySem.Spec PyProof.Rows L2 DL CI SJ
def bR3 {o:One} {a:An1} {p:Nat×Int} (h:lf o a=some p):p.1=o.key:=by
 cases o<;>cases a<;>simp [lf] at h<;>(subst h;rfl)
theorem aT1 {c:SJ.Call} (hc:c.ok) (b:SJ.Ans):∀ m,m<=(prts c).length->∀ p∈lvp c b m,p.1 < 8
 | 0,_,p,hp=>by cases hp
 | m+1,hm,p,hp=>by
  rw [pU] at hp;split at hp
  ·rename_i q e;rcases mem_putP hp with z | z
   ·exact aT1 hc b m (by omega) p z
   ·rw [z,bR3 e];exact bP7 hc (by omega)
  ·exact aT1 hc b m (by omega) p hp
def cC6 {c:SJ.Call} (hc:c.ok) (b:SJ.Ans):∀ p∈lfs c b,p.1 < 8:=fun p hp=>aT1 hc b _ (Nat.le_refl _) p ((eV _).mem_iff.mp hp)
def bR4 (c:SJ.Call) (b:SJ.Ans):((lfs c b).map (·.1)).Pairwise (· < ·):=by
 rw [List.pairwise_map];exact bA9 (nS c b _)
def bB9 {c:SJ.Call} (hc:c.ok) (b:SJ.Ans):(lfs c b).length<=8:=by
 have:=iO c b (prts c).length;have:=jV hc;unfold lfs;rw [(eV _).length_eq];unfold lft;omega
variable (d:Nat) (h:aA)
def nW (w:String) (hw:w="must"\/w="may"):xIn (.d (.str (Str.ofString w))) (.d (.tuple [.str (Str.ofString "must"),.str (Str.ofString "may"),.str (Str.ofString "out")])) h=some true:=by
 rcases hw with rfl | rfl<;>simp [xIn,ref,PyData.eqv]
def bC0 (b:SJ.Ans):aP b.dat "refused" 1=false:=by
 cases b with
 | one a=>cases a<;>simp [Ans.dat,An1.dat,aP]
 | all ns=>simp [Ans.dat,aP]
 | each as=>simp [Ans.dat,aP]
def cC7 {c:SJ.Call} (hc:c.ok):aD T (d+11) "is_item" [.d (itC c)] h=some (.bool true,h):=by
 have nd:nD (itC c)=true:=by simp [itC]
 have e0:=bB (d+9) (itC c) h 3 nd;have e1:=iN (d+2) c.dat h (nO hc) (rF c);rw [(eU hc).2.1] at e1;have ew:=nW h "may" (.inr rfl);simp only [itC] at e0 ⊢;generalize c.dat=cd at *;simp [kO,fE,e0,e1,isi,gJ,ew]
def cC8 {c:SJ.Call} (hc:c.ok) {b:SJ.Ans} (hf:Ans.fits c b):aD T (d+11) "is_item" [.d (itL c b)] h=some (.bool true,h):=by
 have na:=vW b;have nd:nD (itL c b)=true:=by simp [itL,na]
 have e0:=bB (d+9) (itL c b) h 3 nd;have e1:=fun d=>iN d (.tuple [.str (Str.ofString "look"),c.dat]) h (by
  cases c with
  | one o=>cases o<;>simp [SJ.Call.dat,One.dat,small]
  | span lo hi=>simp [SJ.Call.dat,small]
  | deal cs=>simp [SJ.Call.dat,small]) (by simp)
 rw [(aB9 hc).2.1] at e1;have eo:=fun d=>nN d b.dat h c na;rw [pG hf hc] at eo;have er:=dS (d+7) b.dat h "refused" 1 na;rw [bC0] at er;have ea:aD T (d+10) (Str.ofString "is_answer") [.d (.tuple [.str (Str.ofString "look"),c.dat]),.d b.dat] h=some (.bool true,h):=by
  have e1:=e1 (d+1);generalize c.dat=cd at *;generalize b.dat=t at *;have eo2:aD T (d+9) (Str.ofString "is_own_answer") [.d (.tuple [.str (Str.ofString "look"),cd]),.d t] h=some (.bool true,h):=by
   have eo:aD T (d+8) (Str.ofString "is_own_answer") [.d cd,.d t] h=some (.bool true,h):=eo (d+4);simp [aU,PyData.eqv,szl,eo]
  simp [iE,e1,er,eo2]
 have ew:=nW h "must" (.inl rfl);have isn:=yM b;have e1:=e1 (d+2);simp only [itL] at e0 ⊢;generalize b.dat=t at *;generalize PyData.tuple [.str (Str.ofString "look"),c.dat]=cd at *;simp [kO,fE,e0,e1,ea,isi,gJ,ew,isn]
def cC9 {c:SJ.Call} (hc:c.ok) {b:SJ.Ans} (ne:lfs c b≠[]):aD T (d+11) "is_item" [.d (itY c b)] h=some (.bool true,h):=by
 have el:lvD c b=.tuple ((lfs c b).map prP):=rfl;have l8:=bB9 hc b;have nl:nD (lvD c b)=true:=by
  rw [el];simp [prP]
 have nd:nD (itY c b)=true:=by simp [itY,nl]
 have e0:=bB (d+9) (itY c b) h 3 nd;have e1:=fun d=>vV d h ne (by omega) (cC6 hc b) (bR4 c b);rw [<- el] at e1;have ea:aD T (d+10) (Str.ofString "is_answer") [.d (.tuple [.str (Str.ofString "lay"),lvD c b]),.d (.tuple [.str (Str.ofString "done")])] h=some (.bool true,h):=by
  have e1:=e1 (d+1);generalize lvD c b=cd at *;have er:=dS (d+7) (.tuple [.str (Str.ofString "done")]) h "refused" 1 rfl;have eo2:aD T (d+9) (Str.ofString "is_own_answer") [.d (.tuple [.str (Str.ofString "lay"),cd]),.d (.tuple [.str (Str.ofString "done")])] h=some (.bool true,h):=by
   simp [aU,PyData.eqv,szl,aP]
  simp [iE,e1,er,eo2,aP]
 have ew:=nW h "must" (.inl rfl);have e1:=e1 (d+2);simp only [itY] at e0 ⊢;generalize PyData.tuple [.str (Str.ofString "lay"),lvD c b]=cd at *;simp [kO,fE,e0,e1,ea,isi,gJ,ew]
end K47

namespace K47
open PySem PySem.Spec PyProof.Rows L2 DL CI SJ
variable (d:Nat) (h:aA)
def bR5 {hs:List Dd} (ok:HOk hs) {v:PyData} (hv:v∈bW hs):∀ d h,aD T (d+11) "is_item" [.d v] h=some (.bool true,h):=by
 unfold bW at hv;obtain ⟨L,hL,hv⟩:=List.mem_flatten.mp hv;obtain ⟨i,hi,rfl⟩:=List.mem_map.mp hL;have o:=ok.ok _ (kR (tX hi));have f:=gH o;unfold lot at hv;cases ea:fU (gD hs i) with
 | none =>
  rw [ea] at hv;rw [List.mem_singleton.mp hv];exact fun d h=>cC7 d h o.call
 | some b =>
  rw [ea] at hv;rcases List.mem_append.mp hv with q | q
  ·split at q
   ·rw [List.mem_singleton.mp q];exact fun d h=>cC8 d h o.call (f b ea)
   ·cases q
  ·split at q
   ·cases q
   ·rename_i z;rw [List.mem_singleton.mp q];exact fun d h=>cC9 d h o.call (fun e=>z (by rw [e];rfl))
def zN {hs:List Dd}:(bW hs).length<=2*(tk hs).length:=by
 unfold bW;exact jZ (lot hs) 2 (lV hs) (tk hs)
def uC {hs:List Dd} (ok:HOk hs):aD T (d+12) "are_items" [.d (.tuple (bW hs))] h=some (.bool true,h):=by
 have hl:=zN (hs:=hs);have tl:=jH ok;have hl':((bW hs).length:Int)<=120:=by omega
 have mi:=fun v hv=>bR5 ok (v:=v) hv d h;generalize bW hs=I at *;have cm:aN (YG 0) (aC true) (xb (Y1 (aB 0)) (YF (d+11) "is_item")) none I I [none] h []=some (I.map fun _=>.bool true,h):=by
  refine mW (fun _=>.bool true) (fun δ=>∃ u,δ=[u]) _ _ ⟨_,rfl⟩ fun x hx' δ hδ=>?_;obtain ⟨u,rfl⟩:=hδ;refine ⟨_,rfl,⟨_,rfl⟩,?_⟩;simp [mi x hx']
 have bc:=gY true I;simp only [cE,cH,cP,cO,cR,cS,cT,dC,dD,dE,cM,cN,cX,dB,cQ,cY,cZ,dA,aZ1,bdi] at cm;simp [tK,isi,gJ,hl',aK,cm,bc]
def aE7 {ns:List Int} {n:Int} (hb:∀ x∈ns,0<=x/\x < n):aD T (d+3) "are_numbers" [.d (.tuple (ns.map .int)),.d (.int n)] h=some (.bool true,h):=by
 have cm:aN (YG 0) (aC true) (xb (Y3 (aB 0) (YJ 0) (xb (aB 1) (YB .Sub 1))) (YF (d+2) "is_between")) none (ns.map PyData.int) (ns.map PyData.int) [none,some (.d (.int n))] h []=some (ns.map fun _=>.bool true,h):=by
  refine cmM PyData.int (fun _=>.bool true) (fun δ=>∃ u,δ=[u,some (.d (.int n))]) _ _ ⟨_,rfl⟩ fun x hx' δ hδ=>?_;obtain ⟨u,rfl⟩:=hδ;refine ⟨_,rfl,⟨_,rfl⟩,?_⟩;have:=hb x hx';have cb:=gV d (.int x) h 0 (n - 1) rfl;have bt:eM (.int x) 0 (n - 1)=true:=by simp [eM];omega
  rw [bt] at cb;simp [cb]
 have bc:=gY true ns;simp only [cE,cH,cP,cO,cR,cS,cT,dC,dD,dE,cM,cN,cX,dB,cQ,cY,cZ,dA,aZ1,bdi] at cm;simp [oI,aK,cm,bc]
def aT2 {ns:List Int} (h:ns.Nodup):ST.dd ns=ns:=by
 unfold ST.dd
 suffices H:∀ (l ac:List Int),(ac++l).Nodup->l.foldl step_dedup ac=ac++l by simpa using H ns [] (by simpa using h)
 intro l;induction l with
 | nil=>simp
 | cons a r ih =>
  intro ac hn;rw [List.foldl_cons];have hna:a∉ac:=fun hm=>by
   have:=(List.nodup_append.mp hn).2.2 a hm a List.mem_cons_self;exact this rfl
  have e:step_dedup ac a=ac++[a]:=by
   unfold step_dedup;simp [hna]
  rw [e,ih (ac++[a]) (by simpa using hn)];simp
def lsT (xs:List PyData) (h:aA):xLS [.d (.tuple xs)] h=(match bD xs with | some ns=>if ns.length<=62 then some (.d (.int (ST.dd ns).length),h) else none | none=>none):=rfl
def uD {ns:List Int} {k n:Nat} (hk:ns.length=k) (k3:k<=62) (hb:∀ x∈ns,0<=x/\x < (n:Int)) (nd:ns.Nodup):aD T (d+4) "are_unlike" [.d (.tuple (ns.map .int)),.d (.int k),.d (.int n)] h=some (.bool true,h):=by
 have e:=aE7 d h hb;have dn:nD (.tuple (ns.map .int))=true:=by simp
 have e0:=bB (d+2) (.tuple (ns.map .int)) h k dn;have tt:fE (.tuple (ns.map .int)) (k:Int)=true:=by simp [fE,hk]
 rw [tt] at e0;have ls:xLS [.d (.tuple (ns.map .int))] h=some (.d (.int k),h):=by
  rw [lsT,qX];dsimp only;rw [aT2 nd,if_pos (by omega),hk]
 generalize PyData.tuple (ns.map .int)=t at *;simp [rC,e0,e,ls]
def uE {P:List PyData} {n:Nat} (hl:P.length<=4000) (hp:∀ z∈P,∃ x y,x < n/\y < n/\x≠y/\z=p2 (x,y)):aD T (d+5) "are_pairs" [.d (.tuple P),.d (.int n)] h=some (.bool true,h):=by
 have hl':¬ (4000:Int) < P.length:=by omega
 have cm:aN (YG 0) (aC true) (xb (Y3 (aB 0) (YJ 2) (aB 1)) (YF (d+4) "are_unlike")) none P P [none,some (.d (.int n))] h []=some (P.map fun _=>.bool true,h):=by
  refine mW (fun _=>.bool true) (fun δ=>∃ u,δ=[u,some (.d (.int n))]) _ _ ⟨_,rfl⟩ fun z hz δ hδ=>?_;obtain ⟨u,rfl⟩:=hδ;obtain ⟨x,y,hx,hy,hn,rfl⟩:=hp z hz;refine ⟨_,rfl,⟨_,rfl⟩,?_⟩;have:=uD d h (ns:=[(x:Int),y]) (k:=2) (n:=n) rfl (by decide) (by simp;omega) (by simp;omega);have:aD T (d+4) (Str.ofString "are_unlike") [.d (p2 (x,y)),.d (.int 2),.d (.int n)] h=some (.bool true,h):=this;generalize p2 (x,y)=t at *;simp [this]
 have bc:=gY true P;simp only [cE,cH,cP,cO,cR,cS,cT,dC,dD,dE,cM,cN,cX,dB,cQ,cY,cZ,dA,aZ1,bdi] at cm;simp [tL,isi,gJ,hl',aK,cm,bc]
def oN {P I:List PyData} (hl:P.length<=4000) (hp:∀ z∈P,∃ x y w:Nat,x < I.length/\y < I.length/\w < I.length/\x≠y/\x≠w/\y≠w/\z=.tuple [.int x,.int y,.int w]/\(∃ a b,I[x]?=some (.tuple [a,b,.str (Str.ofString "must")]))/\∃ a b,I[y]?=some (.tuple [a,b,.str (Str.ofString "must")])):aD T (d+5) "are_triples" [.d (.tuple P),.d (.tuple I)] h=some (.bool true,h):=by
 have hl':¬ (4000:Int) < P.length:=by omega
 have le:aY [.d (.tuple I)] h=some (.d (.int I.length),h):=by simp
 have ix:∀ (x:Nat) v,I[x]?=some v->xIx (.d (.tuple I)) (.d (.int x)) h=some (.d v,h):=fun x v e=>by
  rw [CI.ix_t,bO e];rfl
 obtain ⟨n,hn⟩:∃ n,n=I.length:=⟨_,rfl⟩;rw [<- hn] at hp le;have cm:aN (YG 0) (aC true) (xb (Y3 (aB 0) (YJ 3) (xb (Y1 (aB 1)) (YK aY))) (YF (d+4) "are_unlike")) none P P [none,some (.d (.tuple I))] h []=some (P.map fun _=>.bool true,h):=by
  refine mW (fun _=>.bool true) (fun δ=>∃ u,δ=[u,some (.d (.tuple I))]) _ _ ⟨_,rfl⟩ fun z hz δ hδ=>?_;obtain ⟨u,rfl⟩:=hδ;obtain ⟨x,y,w,hx,hy,hw,n1,n2,n3,rfl,_⟩:=hp z hz;refine ⟨_,rfl,⟨_,rfl⟩,?_⟩;have:=uD d h (ns:=[(x:Int),y,w]) (k:=3) (n:=n) rfl (by decide) (by simp;omega) (by simp;omega);have:aD T (d+4) (Str.ofString "are_unlike") [.d (.tuple [.int x,.int y,.int w]),.d (.int 3),.d (.int n)] h=some (.bool true,h):=this;generalize PyData.tuple I=t at *;simp [this,le]
 have bc:=gY true P;simp only [cE,cH,cP,cO,cR,cS,cT,dC,dD,dE,cM,cN,cX,dB,cQ,cY,cZ,dA,aZ1,bdi] at cm;rw [show d+5=(d+4)+1 from rfl,oJ];obtain ⟨t,et⟩:∃ t,t=PyData.tuple I:=⟨_,rfl⟩;rw [<- et] at cm ix ⊢;simp [isi,gJ,hl',aK,cm,bc];rw [mW (fun _=>.bool true) (fun δ=>∃ u v w,δ=[u,v,w,some (.d t)]) _ _ ⟨_,_,_,rfl⟩ ?_]
 ·simp [bc]
 ·intro z hz δ hδ;obtain ⟨u1,u2,u3,rfl⟩:=hδ;obtain ⟨x,y,w,hx,hy,hw,n1,n2,n3,rfl,⟨a1,b1,e1⟩,a2,b2,e2⟩:=hp z hz;refine ⟨[some (.d (.int x)),some (.d (.int y)),some (.d (.int w)),some (.d t)],by simp [aO,cD],⟨_,_,_,rfl⟩,?_⟩;have i1:=ix x _ e1;have i2:=ix y _ e2;simp [i1,i2,xEq,ref,PyData.eqv]
end K47

namespace K47
open PySem PySem.Spec PyProof.Rows L2 DL CI SJ
noncomputable def wSk:Sk->PyData
 | .cl _=>.str (Str.ofString "may")
 | _=>.str (Str.ofString "must")
noncomputable def st2:PyData->PyData
 | .tuple [_,_,w]=>w
 | _=>.none
def cD0 (hs:List Dd) (i:Nat):(lot hs i).map st2=(skl hs i).map wSk:=by
 unfold lot skl;cases fU (gD hs i) with
 | none=>rfl
 | some b =>
  simp only [rL,skC,List.map_append]
  congr 1
  ·split<;>rfl
  ·split<;>rfl
theorem bF4 (hs:List Dd):∀ l:List Nat,((l.map (lot hs)).flatten).map st2=(skN hs l).map wSk
 | []=>rfl
 | i::r=>by
  unfold skN;rw [List.map_cons,List.flatten_cons,List.map_append,bF4 hs r,List.map_cons,List.flatten_cons,List.map_append,cD0];rfl
def zO {hs:List Dd} {x:Nat} {s:Sk} (e:(skN hs (tk hs))[x]?=some s) (hw:wSk s=.str (Str.ofString "must")):∃ a b,(bW hs)[x]?=some (.tuple [a,b,.str (Str.ofString "must")]):=by
 have e2:((skN hs (tk hs)).map wSk)[x]?=some (.str (Str.ofString "must")):=by rw [List.getElem?_map,e,<- hw];rfl
 rw [<- bF4,List.getElem?_map] at e2;obtain ⟨v,ev,es⟩:=Option.map_eq_some_iff.mp e2;refine (?_:∃ a b,v=.tuple [a,b,.str (Str.ofString "must")]).elim fun a z=>z.elim fun b z=>⟨a,b,by rw [<- z];exact ev⟩
 match v,es with
 | .tuple [a,b,w],es=>exact ⟨a,b,by rw [show w=_ from es]⟩
 | .tuple [],es=>cases es
 | .tuple [_],es=>cases es
 | .tuple [_,_],es=>cases es
 | .tuple (_::_::_::_::_),es=>cases es
 | .none,es=>cases es
 | .bool _,es=>cases es
 | .int _,es=>cases es
 | .str _,es=>cases es
 | .list _,es=>cases es
 | .dict _,es=>cases es
def aT3 {hs:List Dd} (ok:HOk hs):∀ z∈befL hs true,∃ x y:Nat,x < (bW hs).length/\y < (bW hs).length/\x≠y/\z=p2 (x,y):=fun z hz=>by
 have hz:z∈cpF hs (tk hs) 0:=hz;rw [pX] at hz;obtain ⟨x,hx,rfl⟩:=List.mem_map.mp hz;obtain ⟨c,b,_,_,_,s2,_⟩:=zJ ok x hx;have:=(List.getElem?_eq_some_iff.mp s2).1;rw [hH] at this;exact ⟨x,x+1,by unfold bW;omega,this,by omega,rfl⟩
def bC1 {hs:List Dd} (ok:HOk hs):(befL hs true).length<=4000:=by
 have e:(befL hs true).length=(lkF hs (tk hs) 0).length:=by
  show (cpF hs (tk hs) 0).length=_;rw [pX,List.length_map]
 have:=nV hs (tk hs) 0;have:=jH ok;omega
def bR6 (c:SJ.Call) (b:SJ.Ans) (c':SJ.Call):tch c b (.lk c')=false:=by
 unfold tch;rw [List.any_eq_false];intro p _;simp [wJ]
def aT4 {hs:List Dd} (ok:HOk hs):∀ z∈trpL hs true,∃ x y w:Nat,x < (bW hs).length/\y < (bW hs).length/\w < (bW hs).length/\x≠y/\x≠w/\y≠w/\z=.tuple [.int x,.int y,.int w]/\(∃ a b,(bW hs)[x]?=some (.tuple [a,b,.str (Str.ofString "must")]))/\∃ a b,(bW hs)[y]?=some (.tuple [a,b,.str (Str.ofString "must")]):=fun z hz=>by
 obtain ⟨L,hL,hz⟩:=List.mem_flatten.mp (show z∈((lkF hs (tk hs) 0).map (fJ (skN hs (tk hs)))).flatten from hz);obtain ⟨x,hx,rfl⟩:=List.mem_map.mp hL;obtain ⟨c,b,_,_,s1,s2,_⟩:=zJ ok x hx;have hl:(skN hs (tk hs)).length=(bW hs).length:=hH hs (tk hs);unfold fJ at hz;obtain ⟨L,hL,hz⟩:=List.mem_flatten.mp hz;obtain ⟨w,hw,rfl⟩:=List.mem_map.mp hL;have hw:=List.mem_range.mp hw;split at hz
 ·rename_i q;rw [Bool.and_eq_true] at q;have q1:=of_decide_eq_true q.1;have q2:iX (skN hs (tk hs)) x w=true:=q.2;have hx1:=(List.getElem?_eq_some_iff.mp s2).1;refine ⟨x,x+1,w,by omega,by omega,by omega,by omega,fun e=>?_,fun e=>q1 e.symm,List.mem_singleton.mp hz,zO s1 rfl,zO s2 rfl⟩;subst e;unfold iX at q2;rw [s2,s1] at q2;have q3:tch c b (.lk c)=true:=q2;rw [bR6] at q3;cases q3
 ·cases hz
def bC2 {hs:List Dd} (h30:hs.length<=30):(trpL hs true).length<=4000:=by
 have t1:(tk hs).length<=30:=by
  rw [(jW hs).length_eq];unfold nums;have:=List.length_filter_le (fun i=>(gD hs i).keep) (List.range hs.length);rw [List.length_range] at this;exact Nat.le_trans this h30
 have l1:=nV hs (tk hs) 0;have l2:=zN (hs:=hs);have l3:(skN hs (tk hs)).length=(bW hs).length:=hH hs (tk hs);have:=jZ (fJ (skN hs (tk hs))) 60 (fun x=>Nat.le_trans (nU _ x) (by omega)) (lkF hs (tk hs) 0);show ((lkF hs (tk hs) 0).map (fJ (skN hs (tk hs)))).flatten.length<=_;omega
def bR7 {hs:List Dd} {v:PyData} (hv:v∈bW hs):nD v=true:=by
 obtain ⟨L,hL,hv⟩:=List.mem_flatten.mp (show v∈((tk hs).map (lot hs)).flatten from hv);obtain ⟨i,hi,rfl⟩:=List.mem_map.mp hL;unfold lot at hv;cases ea:fU (gD hs i) with
 | none =>
  rw [ea] at hv;rw [List.mem_singleton.mp hv];simp [itC]
 | some b =>
  rw [ea] at hv;have nb:=vW b;have nl:nD (lvD (gD hs i).call b)=true:=by
   show nD (.tuple ((lfs (gD hs i).call b).map prP))=true;simp [prP]
  rcases List.mem_append.mp hv with q | q
  ·split at q
   ·rw [List.mem_singleton.mp q];simp [itL,nb]
   ·cases q
  ·split at q
   ·cases q
   ·rw [List.mem_singleton.mp q];simp [itY,nl]
def rQ {hs:List Dd} (ok:HOk hs) (h30:hs.length<=30) (d:Nat) (h:aA):aD T (d+13) "is_problem" [.d (pbD hs true)] h=some (.bool true,h):=by
 have e2:=uC d h ok;have e3:=uE (d+7) h (bC1 ok) (aT3 ok);have e4:=oN (d+7) h (bC2 h30) (aT4 ok);have nd:nD (pbD hs true)=true:=by
  simp only [pbD,nDt,List.all_cons,List.all_nil,Bool.and_true,Bool.and_eq_true];refine ⟨rfl,?_,?_,?_⟩
  ·rw [List.all_eq_true];exact fun z hz=>bR7 hz
  ·rw [List.all_eq_true];intro z hz;obtain ⟨x,y,_,_,_,rfl⟩:=aT3 ok z hz;rfl
  ·rw [List.all_eq_true];intro z hz;obtain ⟨x,y,w,_,_,_,_,_,_,rfl,_⟩:=aT4 ok z hz;rfl
 have e0:=bB (d+11) (pbD hs true) h 4 nd;have e5:aD T (d+12) (Str.ofString "is_stand") [.d aE6] h=some (.bool true,h):=by
  have a:=bB (d+10) aE6 h 8 rfl;have b:=dR (d+9) h [.int 0,.int 0,.int 0,.int 0,.int 0,.int 0,.int 0,.int 0] rfl;simp only [aE6] at a ⊢;simp [vP,a,b,fE,gB]
 have li:aY [.d (.tuple (bW hs))] h=some (.d (.int (bW hs).length),h):=by simp
 simp only [pbD] at e0 ⊢;generalize befL hs true=P at *;generalize trpL hs true=R at *;generalize (bW hs).length=n at *;generalize PyData.tuple (bW hs)=I at *;generalize PyData.tuple P=P at *;generalize PyData.tuple R=R at *;generalize aE6=F at *;simp [rD,fE,e0,e2,e3,e4,e5,li]
end K47

namespace K47
open PySem PySem.Spec PyProof.Rows L2 DL CI SJ
def RT (x:Option (Fl×aA)):Prop:=∃ L,x=some (.rt (.d (.bool true)),.t tE::L)
def cP8 {ts:List (Pos×Str)} {x:Option (Fl×aA)} (e:RT x):x.bind (aJ [.t ts])=some (.bool true,[.t tE]):=by
 obtain ⟨L,rfl⟩:=e;have ok:okP [.t ts] (.t tE::L):=fun i c hi e'=>by
  have:i=0:=by simpa using hi
  subst this;simp at e';subst e';exact .inl (fun _ z=>nomatch z)
 rw [CI.bs,qY,if_pos ok];rfl
def cD1 {H:aA} {j:Nat} {xs:List PyData} (e:H[j]?=some (.l xs)) (p:plainsB 63 xs=true):xEq (.d (.list xs)) (.c j) H=some true:=by
 have:xEq (.d (.list xs)) (.c j) H=if (aG 64 (.list xs)&&aG 64 (.list xs))=true then some (PyData.eqv (.list xs) (.list xs)) else none:=by
  simp only [xEq,ref,e]
 have q:aG 64 (.list xs)=true:=p;rw [this,q,(wK 64 _ q).2];rfl
def bC3 (c:Int):∃ m:Nat,m<=30/\atI [PyData.int 4,.int 8,.int 20,.int 30] (c%4)=some (.int m):=by
 have:c%4=0\/c%4=1\/c%4=2\/c%4=3:=by omega
 rcases this with z | z | z | z<;>rw [z]
 ·exact ⟨4,by decide,by simp⟩
 ·exact ⟨8,by decide,by simp⟩
 ·exact ⟨20,by decide,by simp⟩
 ·exact ⟨30,by decide,by simp⟩
def dT (sd:PyData) (m:Nat) (hd:PyData) (x3 x4 x5 x6 x7:Option W):DSt:=[some (.d sd),some (.d (.int m)),some (.d hd),x3,x4,x5,x6,x7]
def bR8 (d:Nat) (S:List Int):aD T (d+14) "law" [.d (.list (S.map .int))] [.t []]=some (.bool true,[.t tE]):=by
 have e4:dP 4=true:=by decide
 have c1:∀ h,aD T (d+13) (Str.ofString "_law_cell_at") [.d (.list (S.map .int)),.d (.int 1)] h=some (.int (clS S 1),h):=fun h=>aO1 (d+12) h S 1;obtain ⟨m,hm,am⟩:=bC3 (clS S 1);obtain ⟨hn,h0,h6,eh⟩:∃ n:Nat,0 < n/\n<=6/\1+clS S 1 / 4%6=(n:Int):=⟨(1+clS S 1 / 4%6).toNat,by omega,by omega,by omega⟩;obtain ⟨hs,ok,sm1,hl,g1⟩:=aD3 (d+8) [.t []] S (f:=2) (by decide) (Nat.le_trans hm (by decide)) h0 h6;have g1:aD T (d+13) (Str.ofString "_law_history") [.d (.list (S.map .int)),.d (.int 2),.d (.int m),.d (.int hn)] [.t []]=some (.tuple (hs.map Dd.dat),[.t []]):=g1;have lo:=cB5 (d+9) [.t []] ok;have lt:=rO (d+9) [.t []] (zI hs (tk hs)) (aS8 ok) (uA ok) (L:=lkF hs (tk hs) 0) (ns:=nsN hs (tk hs)) (by rw [lW,hH]) (by have:=nV hs (tk hs) 0;have:=jH ok;omega) fun x hx=>zJ ok x hx;rw [<- wI,<- pX] at lt;have lo:aD T (d+13) (Str.ofString "_law_lot") [.d (.tuple (hs.map Dd.dat))] [.t []]=some (.tuple [.list (bW hs),.list (bR hs),.list (befL hs true)],[.t []]):=lo;have lt:aD T (d+13) (Str.ofString "_law_triples") [.d (.list (bW hs)),.d (.list (bR hs)),.d (.list (befL hs true))] [.t []]=some (.tuple (trpL hs true),[.t []]):=lt;have w1:callW T (d+13) (Str.ofString "problems_of") [.d (.tuple (hs.map Dd.dat)),.d (.str (Str.ofString "snap"))] [.t []]=some (.c 1,[.t tE,.l [pnD hs true]]):=hJ d ok (H:=[.t []]) (ts:=[]) rfl (.inl rfl) true;have w2:callW T (d+13) (Str.ofString "problems_of") [.d (.tuple (hs.map Dd.dat)),.d (.str (Str.ofString "snap"))] [.t tE,.l [pnD hs true]]=some (.c 2,[.t tE,.l [pnD hs true],.l [pnD hs true]]):=hJ d ok (H:=[.t tE,.l [pnD hs true]]) (ts:=tE) rfl (.inr rfl) true;have w3:callW T (d+13) (Str.ofString "deeds_of") [.d (.tuple (hs.map Dd.dat)),.d (.str (Str.ofString "snap"))] [.t tE,.l [pnD hs true],.l []]=some (.c 3,[.t tE,.l [pnD hs true],.l [],.l [.tuple (bR hs)]]):=rP d ok (H:=[.t tE,.l [pnD hs true],.l []]) (ts:=tE) rfl (.inr rfl) true;have w4:callW T (d+13) (Str.ofString "problems_of") [.d (.tuple (hs.map Dd.dat)),.d (.str (Str.ofString "snap"))] [.t tE,.l [pnD hs true],.l [],.l [.tuple (bR hs),.tuple []]]=some (.c 4,[.t tE,.l [pnD hs true],.l [],.l [.tuple (bR hs),.tuple []],.l [pnD hs true]]):=hJ d ok (H:=[.t tE,.l [pnD hs true],.l [],.l [.tuple (bR hs),.tuple []]]) (ts:=tE) rfl (.inr rfl) true;have w5:callW T (d+13) (Str.ofString "problems_of") [.d (.tuple (hs.map Dd.dat)),.d (.str (Str.ofString "stand"))] [.t tE,.l [pnD hs true],.l [],.l [.tuple (bR hs),.tuple []],.l [pnD hs true]]=some (.c 5,[.t tE,.l [pnD hs true],.l [],.l [.tuple (bR hs),.tuple []],.l [pnD hs true],.l [pnD hs false]]):=hJ d ok (H:=[.t tE,.l [pnD hs true],.l [],.l [.tuple (bR hs),.tuple []],.l [pnD hs true]]) (ts:=tE) rfl (.inr rfl) false;have w6:callW T (d+13) (Str.ofString "deeds_of") [.d (.tuple (hs.map Dd.dat)),.d (.str (Str.ofString "snap"))] [.t tE,.l [pnD hs true],.l [],.l [.tuple (bR hs),.tuple []],.l [pnD hs true],.l [pnD hs false]]=some (.c 6,[.t tE,.l [pnD hs true],.l [],.l [.tuple (bR hs),.tuple []],.l [pnD hs true],.l [pnD hs false],.l [.tuple (bR hs)]]):=rP d ok (H:=[.t tE,.l [pnD hs true],.l [],.l [.tuple (bR hs),.tuple []],.l [pnD hs true],.l [pnD hs false]]) (ts:=tE) rfl (.inr rfl) true;have w7:callW T (d+13) (Str.ofString "deeds_of") [.d (.tuple (hs.map Dd.dat)),.d (.str (Str.ofString "stand"))] [.t tE,.l [pnD hs true],.l [],.l [.tuple (bR hs),.tuple []],.l [pnD hs true],.l [pnD hs false],.l [.tuple (bR hs)]]=some (.c 7,[.t tE,.l [pnD hs true],.l [],.l [.tuple (bR hs),.tuple []],.l [pnD hs true],.l [pnD hs false],.l [.tuple (bR hs)],.l [.tuple (bR hs)]]):=rP d ok (H:=[.t tE,.l [pnD hs true],.l [],.l [.tuple (bR hs),.tuple []],.l [pnD hs true],.l [pnD hs false],.l [.tuple (bR hs)]]) (ts:=tE) rfl (.inr rfl) false;have q1:∀ {H:aA} {j:Nat},H[j]?=some (.l [pnD hs true])->xEq (.c j) (.d (.list [pnD hs true])) H=some true:=fun e=>zM e (bF3 hs true);have q2:∀ {H:aA} {j:Nat},H[j]?=some (.l [pnD hs false])->xEq (.c j) (.d (.list [pnD hs false])) H=some true:=fun e=>zM e (bF3 hs false);have pn:plainsB 63 [PyData.tuple (bR hs)]=true:=by have:=bR2 hs 61;simp [this]
 have q3:∀ {H:aA} {j:Nat},H[j]?=some (.l [.tuple (bR hs)])->xEq (.c j) (.d (.list [.tuple (bR hs)])) H=some true:=fun e=>zM e pn;have ipH:=fun H=>rQ ok (by omega) d H;have eb:pbD hs true=.tuple [.tuple [.int 0,.int 0,.int 0,.int 0,.int 0,.int 0,.int 0,.int 0],.tuple (bW hs),.tuple (befL hs true),.tuple (trpL hs true)]:=rfl;have en:pnD hs true=.tuple [.none,pbD hs true]:=rfl;have ef:pnD hs false=.tuple [.none,.tuple [.tuple [.int 0,.int 0,.int 0,.int 0,.int 0,.int 0,.int 0,.int 0],.tuple (bW hs),.tuple [],.tuple []]]:=rfl;obtain ⟨sd,esd⟩:∃ sd,sd=PyData.list (S.map .int):=⟨_,rfl⟩;rw [<- esd] at c1 g1;rw [<- esd,show d+14=(d+13)+1 from rfl,cA0];refine cP8 ?_;obtain ⟨hd,ehd⟩:∃ hd,hd=PyData.tuple (hs.map Dd.dat):=⟨_,rfl⟩;rw [<- ehd] at g1 lo w1 w2 w3 w4 w5 w6 w7;obtain ⟨I,hI⟩:∃ I,I=bW hs:=⟨_,rfl⟩;obtain ⟨N,hN⟩:∃ N,N=bR hs:=⟨_,rfl⟩;obtain ⟨C,hC⟩:∃ C,C=befL hs true:=⟨_,rfl⟩;obtain ⟨TR,hT⟩:∃ TR,TR=trpL hs true:=⟨_,rfl⟩;obtain ⟨st,hst⟩:∃ st,st=PyData.tuple [.int 0,.int 0,.int 0,.int 0,.int 0,.int 0,.int 0,.int 0]:=⟨_,rfl⟩;rw [<- hI,<- hN,<- hC] at lo lt;rw [<- hT] at lt;rw [<- hI,<- hC,<- hT,<- hst] at eb;rw [<- hI,<- hst] at ef;rw [<- hN] at w3 w4 w5 w6 w7 q3;refine syP [some (.d sd),some (.d (.int m)),none,none,none,none,none,none] [.t []] (by simp [c1,am,szl]) ?_;refine syP (dT sd m hd none none none none none) [.t []] (by simp [c1,e4,eh,g1,dT]) ?_;refine syP (dT sd m hd (some (.d (.list I))) (some (.d (.list N))) (some (.d (.list C))) none none) [.t []] (by simp [dT,lo,aO,cD]) ?_;refine syP (dT sd m hd (some (.d (.list I))) (some (.d (.list N))) (some (.d (.list C))) (some (.d st)) none) [.t []] (by simp [dT,szl,hst]) ?_;refine syP (dT sd m hd (some (.d (.list I))) (some (.d (.list N))) (some (.d (.list C))) (some (.d st)) (some (.d (pbD hs true)))) [.t []] (by rw [eb];simp [dT,szl,lt,aT,ref]) ?_;generalize pbD hs true=pb at *;have a1:=q1 (H:=[.t tE,.l [pnD hs true]]) (j:=1) rfl;refine syP (dT sd m hd (some (.d (.list I))) (some (.d (.list N))) (some (.d (.list C))) (some (.d st)) (some (.d pb))) [.t tE,.l [pnD hs true]] (by rw [en] at w1 a1 ⊢;simp [dT,w1,szl,a1,ipH]) ?_;refine syP (dT sd m hd (some (.d (.list I))) (some (.d (.list N))) (some (.d (.list C))) (some (.d st)) (some (.d pb))) [.t tE,.l [pnD hs true],.l []] (by simp [dT,w2,aG0]) ?_;refine syP (dT sd m hd (some (.d (.list I))) (some (.d (.list N))) (some (.d (.list C))) (some (.d st)) (some (.d pb))) [.t tE,.l [pnD hs true],.l [],.l [.tuple N,.tuple []]] (by simp [dT,w3,lG,szl]) ?_;have a2:=q1 (H:=[.t tE,.l [pnD hs true],.l [],.l [.tuple N,.tuple []],.l [pnD hs true]]) (j:=4) rfl;refine syP (dT sd m hd (some (.d (.list I))) (some (.d (.list N))) (some (.d (.list C))) (some (.d st)) (some (.d pb))) [.t tE,.l [pnD hs true],.l [],.l [.tuple N,.tuple []],.l [pnD hs true]] (by rw [en] at w4 a2 ⊢;simp [dT,w4,szl,a2]) ?_;have a3:=q2 (H:=[.t tE,.l [pnD hs true],.l [],.l [.tuple N,.tuple []],.l [pnD hs true],.l [pnD hs false]]) (j:=5) rfl;refine syP (dT sd m hd (some (.d (.list I))) (some (.d (.list N))) (some (.d (.list C))) (some (.d st)) (some (.d pb))) [.t tE,.l [pnD hs true],.l [],.l [.tuple N,.tuple []],.l [pnD hs true],.l [pnD hs false]] (by rw [ef] at w5 a3 ⊢;simp [dT,w5,szl,a3,aT,ref]) ?_;have pN:plainsB 63 [PyData.tuple N]=true:=by rw [hN];exact pn
 have a4:xEq (.c 6) (.d (.list [.tuple N])) [.t tE,.l [pnD hs true],.l [],.l [.tuple N,.tuple []],.l [pnD hs true],.l [pnD hs false],.l [.tuple N]]=some true:=zM rfl pN;have a5:xEq (.d (.list [.tuple N])) (.c 7) [.t tE,.l [pnD hs true],.l [],.l [.tuple N,.tuple []],.l [pnD hs true],.l [pnD hs false],.l [.tuple N],.l [.tuple N]]=some true:=cD1 rfl pN;refine ⟨[.l [pnD hs true],.l [],.l [.tuple N,.tuple []],.l [pnD hs true],.l [pnD hs false],.l [.tuple N],.l [.tuple N]],?_⟩;simp [dT,w6,w7,szl,a4,a5,aT,ref]
end K47

namespace K47
open PySem PySem.Spec PyProof.Rows L2 DL CI
def top (k:Nat):Stmt:=PySem.Challenge.pw_storejudge_k47_what_was_seen_and_laid.main.body.getD k (.Pass ⟨0,0,0,0⟩)
abbrev s_0:Stmt:=top 1
abbrev s_1:Stmt:=top 2
abbrev s_2:Stmt:=top 3
abbrev s_3:Stmt:=top 4
abbrev s_4:Stmt:=top 5
abbrev s_5:Stmt:=top 12
abbrev s_6:Stmt:=top 13
abbrev s_7:Stmt:=top 14
abbrev s_8:Stmt:=top 15
abbrev s_9:Stmt:=top 16
abbrev cD2:Stmt:=top 17
abbrev cD3:Stmt:=top 18
abbrev cD4:Stmt:=top 19
abbrev cD5:Stmt:=top 20
abbrev cD6:Stmt:=top 21
abbrev cD7:Stmt:=top 22
abbrev cD8:Stmt:=top 23
abbrev cD9:Stmt:=top 24
abbrev cE0:Stmt:=top 25
abbrev cE1:Stmt:=top 26
abbrev cE2:Stmt:=top 27
abbrev cE3:Stmt:=top 28
abbrev cE4:Stmt:=top 29
abbrev cE5:Stmt:=top 30
abbrev cE6:Stmt:=top 38
abbrev cE7:Stmt:=top 39
abbrev cE8:Stmt:=top 40
abbrev cE9:Stmt:=top 41
abbrev cF0:Stmt:=top 42
abbrev cF1:Stmt:=top 43
abbrev bR9:Stmt:=top 44
abbrev cF2:Stmt:=top 47
abbrev cF3:Stmt:=top 50
abbrev cF4:Stmt:=top 51
abbrev cF5:Stmt:=top 52
abbrev cF6:Stmt:=top 53
abbrev cF7:Stmt:=top 54
abbrev cF8:Stmt:=top 55
abbrev cF9:Stmt:=top 56
abbrev cG0:Stmt:=top 57
abbrev cG1:Stmt:=top 58
abbrev cG2:Stmt:=top 59
abbrev cG3:Stmt:=top 60
abbrev cG4:Stmt:=top 61
abbrev cG5:Stmt:=top 62
abbrev bS0:Stmt:=top 63
abbrev cG6:Stmt:=top 64
abbrev cG7:Stmt:=top 65
abbrev cG8:Stmt:=top 66
abbrev cG9:Stmt:=top 67
abbrev cH0:Stmt:=top 68
abbrev cH1:Stmt:=top 74
abbrev cH2:Stmt:=top 75
abbrev cH3:Stmt:=top 76
abbrev cH4:Stmt:=top 77
abbrev cH5:Stmt:=top 78
abbrev cH6:Stmt:=top 79
abbrev cH7:Stmt:=top 80
abbrev cH8:Stmt:=top 82
abbrev cH9:Stmt:=top 83
abbrev cI0:Stmt:=top 84
abbrev cI1:Stmt:=top 85
abbrev cI2:Stmt:=top 86
abbrev cI3:Stmt:=top 87
abbrev cI4:Stmt:=top 88
abbrev cI5:Stmt:=top 89
abbrev cI6:Stmt:=top 90
abbrev cI7:Stmt:=top 91
abbrev cI8:Stmt:=top 92
abbrev cI9:Stmt:=top 93
abbrev cJ0:Stmt:=top 94
abbrev cJ1:Stmt:=top 96
abbrev cJ2:Stmt:=top 97
abbrev cJ3:Stmt:=top 98
abbrev cJ4:Stmt:=top 99
abbrev uF:Stmt:=top 100
def cJ5:gcl body=([(Str.ofString "LAST_KEY",PyData.int 7),(Str.ofString "MOST_PARTS",PyData.int 4),(Str.ofString "CHANGING",PyData.tuple [PyData.str (Str.ofString "write"),PyData.str (Str.ofString "add"),PyData.str (Str.ofString "swap")]),(Str.ofString "REFUSED",PyData.tuple [PyData.str (Str.ofString "refused")]),(Str.ofString "LAST_HAND",PyData.int 5),(Str.ofString "MOST_DEEDS",PyData.int 60),(Str.ofString "FIRST",PyData.tuple [PyData.int 0,PyData.int 0,PyData.int 0,PyData.int 0,PyData.int 0,PyData.int 0,PyData.int 0,PyData.int 0]),(Str.ofString "PROMISES",PyData.tuple [PyData.str (Str.ofString "real"),PyData.str (Str.ofString "row"),PyData.str (Str.ofString "any"),PyData.str (Str.ofString "snap"),PyData.str (Str.ofString "stand"),PyData.str (Str.ofString "hand"),PyData.str (Str.ofString "thing"),PyData.str (Str.ofString "kept")]),(Str.ofString "WORDS",PyData.tuple [PyData.str (Str.ofString "must"),PyData.str (Str.ofString "may"),PyData.str (Str.ofString "out")]),(Str.ofString "MOST_ITEMS",PyData.int 120),(Str.ofString "MOST_PAIRS",PyData.int 4000),(Str.ofString "MOST_TRIPLES",PyData.int 4000)]:List (Str×PyData)):=by kernel_rfl
def cJ6:tkl body=([(Str.ofString "NUMBERS_BEHIND",[(Str.ofString "read",PyData.int 0),(Str.ofString "write",PyData.int 1),(Str.ofString "add",PyData.int 1),(Str.ofString "swap",PyData.int 2)])]:List (Str×List (Str×PyData))):=by kernel_rfl
abbrev DFL:List (Str×Stmt):=[(Str.ofString "is_whole",s_0),(Str.ofString "is_between",s_1),(Str.ofString "is_tuple_of",s_2),(Str.ofString "are_whole",s_3),(Str.ofString "are_rising",s_4),(Str.ofString "is_key",s_5),(Str.ofString "word_of",s_6),(Str.ofString "is_worded",s_7),(Str.ofString "is_single",s_8),(Str.ofString "is_span",s_9),(Str.ofString "is_deal",cD2),(Str.ofString "is_call",cD3),(Str.ofString "is_look",cD4),(Str.ofString "is_value_pair",cD5),(Str.ofString "is_lay",cD6),(Str.ofString "is_step",cD7),(Str.ofString "is_answer",cD8),(Str.ofString "is_own_answer",cD9),(Str.ofString "may_change",cE0),(Str.ofString "keys_of",cE1),(Str.ofString "parts_of",cE2),(Str.ofString "value_left",cE3),(Str.ofString "left_by",cE4),(Str.ofString "part_on",cE5),(Str.ofString "is_time",cE6),(Str.ofString "is_deed",cE7),(Str.ofString "times_of",cE8),(Str.ofString "ended_below",cE9),(Str.ofString "go_together",cF0),(Str.ofString "look_over",cF1),(Str.ofString "really_ahead",bR9),(Str.ofString "is_stand",cF2),(Str.ofString "check_promise",cF3),(Str.ofString "problems_of",cF4),(Str.ofString "deeds_of",cF5),(Str.ofString "frames_of",cF6),(Str.ofString "framed",cF7),(Str.ofString "frame",cF8),(Str.ofString "taking_part",cF9),(Str.ofString "entry",cG0),(Str.ofString "whole_entries",cG1),(Str.ofString "look_entries",cG2),(Str.ofString "hand_entries",cG3),(Str.ofString "key_entries",cG4),(Str.ofString "writes_alone",cG5),(Str.ofString "ahead_by_hand",bS0),(Str.ofString "pairs_where",cG6),(Str.ofString "looks_with_lays",cG7),(Str.ofString "triples_of",cG8),(Str.ofString "change_one_key",cG9),(Str.ofString "keys_changed",cH0),(Str.ofString "is_item",cH1),(Str.ofString "are_items",cH2),(Str.ofString "are_numbers",cH3),(Str.ofString "are_unlike",cH4),(Str.ofString "are_pairs",cH5),(Str.ofString "are_triples",cH6),(Str.ofString "is_problem",cH7),(Str.ofString "_law_cell_at",cH8),(Str.ofString "_law_drawn",cH9),(Str.ofString "_law_plain_call",cI0),(Str.ofString "_law_call",cI1),(Str.ofString "_law_done_plainly",cI2),(Str.ofString "_law_done",cI3),(Str.ofString "_law_bent",cI4),(Str.ofString "_law_moved",cI5),(Str.ofString "_law_history",cI6),(Str.ofString "_law_parts",cI7),(Str.ofString "_law_answers",cI8),(Str.ofString "_law_changes",cI9),(Str.ofString "_law_by_begins",cJ0),(Str.ofString "_law_left",cJ1),(Str.ofString "_law_lot",cJ2),(Str.ofString "_law_touched",cJ3),(Str.ofString "_law_triples",cJ4),(Str.ofString "law",uF)]
def cJ7:dfl body=DFL:=by kernel_rfl
def bC4:T.defs "law"=some uF:=by kernel_rfl
def cJ8:parsOf uF=([Str.ofString "_law_script"]:List Str):=by kernel_rfl
abbrev T0:Top:=bE0 body (fun _=>[]) cv 100000 60 wf (qn:=qn)
def all_mk {l:PySem.W.OpenLaw} {w:World} {os:OsState} {K:PySem.W.Frag} {h:Heap} {mg:Str->Option Value} {fa:Addr} (X:K.In h) (G:h.Ns mainGlobals mg) (hfa:mg "law"=some (.ref fa))
  (a0:FI K "is_whole" s_0)
  (a1:FI K "is_between" s_1)
  (a2:FI K "is_tuple_of" s_2)
  (a3:FI K "are_whole" s_3)
  (a4:FI K "are_rising" s_4)
  (a5:FI K "is_key" s_5)
  (a6:FI K "word_of" s_6)
  (a7:FI K "is_worded" s_7)
  (a8:FI K "is_single" s_8)
  (a9:FI K "is_span" s_9)
  (a10:FI K "is_deal" cD2)
  (a11:FI K "is_call" cD3)
  (a12:FI K "is_look" cD4)
  (a13:FI K "is_value_pair" cD5)
  (a14:FI K "is_lay" cD6)
  (a15:FI K "is_step" cD7)
  (a16:FI K "is_answer" cD8)
  (a17:FI K "is_own_answer" cD9)
  (a18:FI K "may_change" cE0)
  (a19:FI K "keys_of" cE1)
  (a20:FI K "parts_of" cE2)
  (a21:FI K "value_left" cE3)
  (a22:FI K "left_by" cE4)
  (a23:FI K "part_on" cE5)
  (a24:FI K "is_time" cE6)
  (a25:FI K "is_deed" cE7)
  (a26:FI K "times_of" cE8)
  (a27:FI K "ended_below" cE9)
  (a28:FI K "go_together" cF0)
  (a29:FI K "look_over" cF1)
  (a30:FI K "really_ahead" bR9)
  (a31:FI K "is_stand" cF2)
  (a32:FI K "check_promise" cF3)
  (a33:FI K "problems_of" cF4)
  (a34:FI K "deeds_of" cF5)
  (a35:FI K "frames_of" cF6)
  (a36:FI K "framed" cF7)
  (a37:FI K "frame" cF8)
  (a38:FIT K "taking_part" cF9 301)
  (a39:FI K "entry" cG0)
  (a40:FI K "whole_entries" cG1)
  (a41:FI K "look_entries" cG2)
  (a42:FI K "hand_entries" cG3)
  (a43:FI K "key_entries" cG4)
  (a44:FI K "writes_alone" cG5)
  (a45:FI K "ahead_by_hand" bS0)
  (a46:FI K "pairs_where" cG6)
  (a47:FI K "looks_with_lays" cG7)
  (a48:FI K "triples_of" cG8)
  (a49:FI K "change_one_key" cG9)
  (a50:FI K "keys_changed" cH0)
  (a51:FI K "is_item" cH1)
  (a52:FI K "are_items" cH2)
  (a53:FI K "are_numbers" cH3)
  (a54:FI K "are_unlike" cH4)
  (a55:FI K "are_pairs" cH5)
  (a56:FI K "are_triples" cH6)
  (a57:FI K "is_problem" cH7)
  (a58:FI K "_law_cell_at" cH8)
  (a59:FI K "_law_drawn" cH9)
  (a60:FI K "_law_plain_call" cI0)
  (a61:FI K "_law_call" cI1)
  (a62:FI K "_law_done_plainly" cI2)
  (a63:FI K "_law_done" cI3)
  (a64:FI K "_law_bent" cI4)
  (a65:FI K "_law_moved" cI5)
  (a66:FI K "_law_history" cI6)
  (a67:FI K "_law_parts" cI7)
  (a68:FI K "_law_answers" cI8)
  (a69:FI K "_law_changes" cI9)
  (a70:FI K "_law_by_begins" cJ0)
  (a71:FI K "_law_left" cJ1)
  (a72:FI K "_law_lot" cJ2)
  (a73:FI K "_law_touched" cJ3)
  (a74:FI K "_law_triples" cJ4)
  (a75:FI K "law" uF)
  {tg0:Tok} (cg0:PySem.W.nsIn K mainGlobals "LAST_KEY"=some (some (.int 7 tg0)))
  {tg1:Tok} (cg1:PySem.W.nsIn K mainGlobals "MOST_PARTS"=some (some (.int 4 tg1)))
  {q2:Addr} {nq2:Nat} {tq2_0 tq2_1 tq2_2:Tok} (aQ2:PySem.W.nsIn K mainGlobals "CHANGING"=some (some (.ref q2))) (lQ2:K.lookup q2=some ⟨.type "tuple",none,.seq #[.str "write" tq2_0,.str "add" tq2_1,.str "swap" tq2_2] nq2,#[]⟩)
  {q3:Addr} {nq3:Nat} {tq3_0:Tok} (aQ3:PySem.W.nsIn K mainGlobals "REFUSED"=some (some (.ref q3))) (lQ3:K.lookup q3=some ⟨.type "tuple",none,.seq #[.str "refused" tq3_0] nq3,#[]⟩)
  {tg4:Tok} (cg4:PySem.W.nsIn K mainGlobals "LAST_HAND"=some (some (.int 5 tg4)))
  {tg5:Tok} (cg5:PySem.W.nsIn K mainGlobals "MOST_DEEDS"=some (some (.int 60 tg5)))
  {q6:Addr} {nq6:Nat} {tq6_0 tq6_1 tq6_2 tq6_3 tq6_4 tq6_5 tq6_6 tq6_7:Tok} (aQ6:PySem.W.nsIn K mainGlobals "FIRST"=some (some (.ref q6))) (lQ6:K.lookup q6=some ⟨.type "tuple",none,.seq #[.int 0 tq6_0,.int 0 tq6_1,.int 0 tq6_2,.int 0 tq6_3,.int 0 tq6_4,.int 0 tq6_5,.int 0 tq6_6,.int 0 tq6_7] nq6,#[]⟩)
  {q7:Addr} {nq7:Nat} {tq7_0 tq7_1 tq7_2 tq7_3 tq7_4 tq7_5 tq7_6 tq7_7:Tok} (aQ7:PySem.W.nsIn K mainGlobals "PROMISES"=some (some (.ref q7))) (lQ7:K.lookup q7=some ⟨.type "tuple",none,.seq #[.str "real" tq7_0,.str "row" tq7_1,.str "any" tq7_2,.str "snap" tq7_3,.str "stand" tq7_4,.str "hand" tq7_5,.str "thing" tq7_6,.str "kept" tq7_7] nq7,#[]⟩)
  {q8:Addr} {nq8:Nat} {tq8_0 tq8_1 tq8_2:Tok} (aQ8:PySem.W.nsIn K mainGlobals "WORDS"=some (some (.ref q8))) (lQ8:K.lookup q8=some ⟨.type "tuple",none,.seq #[.str "must" tq8_0,.str "may" tq8_1,.str "out" tq8_2] nq8,#[]⟩)
  {tg9:Tok} (cg9:PySem.W.nsIn K mainGlobals "MOST_ITEMS"=some (some (.int 120 tg9)))
  {tg10:Tok} (cg10:PySem.W.nsIn K mainGlobals "MOST_PAIRS"=some (some (.int 4000 tg10)))
  {tg11:Tok} (cg11:PySem.W.nsIn K mainGlobals "MOST_TRIPLES"=some (some (.int 4000 tg11)))
  {p0:Addr} {n0:Nat} {hh0_0 hh0_1 hh0_2 hh0_3:Int} {tk0_0 tv0_0 tk0_1 tv0_1 tk0_2 tv0_2 tk0_3 tv0_3:Tok} (aT0:PySem.W.nsIn K mainGlobals "NUMBERS_BEHIND"=some (some (.ref p0))) (lT0:K.lookup p0=some ⟨.type "dict",none,.dict #[⟨hh0_0,.str "read" tk0_0,.int 0 tv0_0⟩,⟨hh0_1,.str "write" tk0_1,.int 1 tv0_1⟩,⟨hh0_2,.str "add" tk0_2,.int 1 tv0_2⟩,⟨hh0_3,.str "swap" tk0_3,.int 2 tv0_3⟩] n0,#[]⟩) (kT0:PySem.W.KeysLit w.params [⟨hh0_0,.str "read" tk0_0,.int 0 tv0_0⟩,⟨hh0_1,.str "write" tk0_1,.int 1 tv0_1⟩,⟨hh0_2,.str "add" tk0_2,.int 1 tv0_2⟩,⟨hh0_3,.str "swap" tk0_3,.int 2 tv0_3⟩]) (sT0:(p0==sysModules)=false)
  (zb:∀ b∈blAll,PySem.W.nsIn K mainGlobals b=some none) :
  ∃ fd:FuncData,(∀ (s:Shared) (v:Value),BindsTo s fd ⟨[v],[]⟩ [("_law_script",v)])/\∀ base:Heap,K.In base->base.Ns mainGlobals mg->base.BuiltinsAt mg 301->FnS ⟨l.prog,w,K,mg,base,os,#[],301⟩ 14 fa fd ["_law_script"] (toW (aD T 14 "law")):=by
 have aL:=a75;obtain ⟨f75,od75,an75,sl75,oc75,kV75,dc75,pm75,cd75,ct75,b75,l75,c75,kk75⟩:=aL;have e:=hfa.symm.trans (PySem.W.mg_of X G b75);cases e;have F75:=aM5 (st:=uF) l75 c75 kk75;refine ⟨PySem.W.fnOf "law" "law" (cF uF) (bC uF) (defScope uF) .none kV75 dc75 pm75 an75 cd75 ct75,fun s v=>.of_eq rfl,fun base XB GB BM=>?_⟩;have aW:=a38.fi;have TT:TopOk T0 ⟨l.prog,w,K,mg,base,os,#[],301⟩:=by
  refine ⟨fun x hx=>?_,fun x z hz=>?_,fun x f hf=>?_,fun x s hs=>?_,fun x C s hs=>?_,fun x C s hs=>?_,fun C f hf=>?_,fun x q hs=>?_⟩
  ·have hx:blAll.contains x=true:=hx;rw [List.contains_iff_mem] at hx;exact PySem.W.mg_none_of XB GB (zb x hx)
  ·have hm:=bN0 (show bM7 body x=some z from hz);rw [cJ5] at hm;simp only [List.mem_cons,List.not_mem_nil,or_false,Prod.mk.injEq] at hm;rcases hm with ⟨rfl,rfl⟩ | ⟨rfl,rfl⟩ | ⟨rfl,rfl⟩ | ⟨rfl,rfl⟩ | ⟨rfl,rfl⟩ | ⟨rfl,rfl⟩ | ⟨rfl,rfl⟩ | ⟨rfl,rfl⟩ | ⟨rfl,rfl⟩ | ⟨rfl,rfl⟩ | ⟨rfl,rfl⟩ | ⟨rfl,rfl⟩
   ·exact ⟨_,PySem.W.mg_of XB GB cg0,rep_i.mpr ⟨tg0,rfl⟩⟩
   ·exact ⟨_,PySem.W.mg_of XB GB cg1,rep_i.mpr ⟨tg1,rfl⟩⟩
   ·exact ⟨_,PySem.W.mg_of XB GB aQ2,qW (ws:=["write","add","swap"]) XB lQ2 (.cons ⟨⟨_,rfl⟩,by decide +kernel⟩ (.cons ⟨⟨_,rfl⟩,by decide +kernel⟩ (.cons ⟨⟨_,rfl⟩,by decide +kernel⟩ .nil))) (show 3<=16777216 by decide)⟩
   ·exact ⟨_,PySem.W.mg_of XB GB aQ3,qW (ws:=["refused"]) XB lQ3 (.cons ⟨⟨_,rfl⟩,by decide +kernel⟩ .nil) (show 1<=16777216 by decide)⟩
   ·exact ⟨_,PySem.W.mg_of XB GB cg4,rep_i.mpr ⟨tg4,rfl⟩⟩
   ·exact ⟨_,PySem.W.mg_of XB GB cg5,rep_i.mpr ⟨tg5,rfl⟩⟩
   ·exact ⟨_,PySem.W.mg_of XB GB aQ6,bN3 (ws:=[0,0,0,0,0,0,0,0]) XB lQ6 (.cons ⟨_,rfl⟩ (.cons ⟨_,rfl⟩ (.cons ⟨_,rfl⟩ (.cons ⟨_,rfl⟩ (.cons ⟨_,rfl⟩ (.cons ⟨_,rfl⟩ (.cons ⟨_,rfl⟩ (.cons ⟨_,rfl⟩ .nil)))))))) (show 8<=16777216 by decide)⟩
   ·exact ⟨_,PySem.W.mg_of XB GB aQ7,qW (ws:=["real","row","any","snap","stand","hand","thing","kept"]) XB lQ7 (.cons ⟨⟨_,rfl⟩,by decide +kernel⟩ (.cons ⟨⟨_,rfl⟩,by decide +kernel⟩ (.cons ⟨⟨_,rfl⟩,by decide +kernel⟩ (.cons ⟨⟨_,rfl⟩,by decide +kernel⟩ (.cons ⟨⟨_,rfl⟩,by decide +kernel⟩ (.cons ⟨⟨_,rfl⟩,by decide +kernel⟩ (.cons ⟨⟨_,rfl⟩,by decide +kernel⟩ (.cons ⟨⟨_,rfl⟩,by decide +kernel⟩ .nil)))))))) (show 8<=16777216 by decide)⟩
   ·exact ⟨_,PySem.W.mg_of XB GB aQ8,qW (ws:=["must","may","out"]) XB lQ8 (.cons ⟨⟨_,rfl⟩,by decide +kernel⟩ (.cons ⟨⟨_,rfl⟩,by decide +kernel⟩ (.cons ⟨⟨_,rfl⟩,by decide +kernel⟩ .nil))) (show 3<=16777216 by decide)⟩
   ·exact ⟨_,PySem.W.mg_of XB GB cg9,rep_i.mpr ⟨tg9,rfl⟩⟩
   ·exact ⟨_,PySem.W.mg_of XB GB cg10,rep_i.mpr ⟨tg10,rfl⟩⟩
   ·exact ⟨_,PySem.W.mg_of XB GB cg11,rep_i.mpr ⟨tg11,rfl⟩⟩
  ·obtain ⟨t,hm,rfl⟩:=bN1 (show bM9 body x=some f from hf);rw [cJ6] at hm;simp only [List.mem_cons,List.not_mem_nil,or_false,Prod.mk.injEq] at hm;rcases hm with ⟨rfl,rfl⟩
   ·refine ⟨p0,PySem.W.mg_of XB GB aT0,⟨⟨_,n0,lT0,kT0,fun y i hy=>?_,fun y hy=>?_⟩,sT0⟩⟩
    ·repeat rw [sW]
     simp only [List.lookup] at hy;split at hy
     ·rename_i q;rw [if_pos (eq_of_beq q).symm];cases hy;exact ⟨_,rfl,rep_i.mpr ⟨_,rfl⟩⟩
     rename_i q;rw [if_neg (fun z=>(beq_eq_false_iff_ne.mp q) z.symm)];clear q;split at hy
     ·rename_i q;rw [if_pos (eq_of_beq q).symm];cases hy;exact ⟨_,rfl,rep_i.mpr ⟨_,rfl⟩⟩
     rename_i q;rw [if_neg (fun z=>(beq_eq_false_iff_ne.mp q) z.symm)];clear q;split at hy
     ·rename_i q;rw [if_pos (eq_of_beq q).symm];cases hy;exact ⟨_,rfl,rep_i.mpr ⟨_,rfl⟩⟩
     rename_i q;rw [if_neg (fun z=>(beq_eq_false_iff_ne.mp q) z.symm)];clear q;split at hy
     ·rename_i q;rw [if_pos (eq_of_beq q).symm];cases hy;exact ⟨_,rfl,rep_i.mpr ⟨_,rfl⟩⟩
     rename_i q;rw [if_neg (fun z=>(beq_eq_false_iff_ne.mp q) z.symm)];clear q;cases hy
    ·repeat rw [sW]
     simp only [List.lookup] at hy
     repeat (split at hy;(cases hy);(rename_i q;rw [if_neg (fun z=>(beq_eq_false_iff_ne.mp q) z.symm)]))
     rfl
  ·have hm:=bN2 (show vM body x=some s from hs);rw [cJ7] at hm;have key:∀ p∈DFL,FR K mg p.1 p.2:=by
    repeat (refine cM4 (P:=FR K mg) ?_ ?_;(first | exact FI.ok1 (by assumption) XB GB (by kernel_rfl) (fun _ =>fun _ _ _ _ _ _=>rfl) | exact FI.ok2 (by assumption) XB GB (by kernel_rfl) (fun _ _ =>fun _ _ _ _ _ _=>rfl) | exact FI.ok3 (by assumption) XB GB (by kernel_rfl) (fun _ _ _ =>fun _ _ _ _ _ _=>rfl) | exact FI.ok4 (by assumption) XB GB (by kernel_rfl) (fun _ _ _ _ =>fun _ _ _ _ _ _=>rfl) | exact FI.ok5 (by assumption) XB GB (by kernel_rfl) (fun _ _ _ _ _ =>fun _ _ _ _ _ _=>rfl)))
    exact cM3
   exact key _ hm
  ·have h:(none:Option (Addr×Stmt))=some (C,s):=hs;cases h
  ·have h:(none:Option (Addr×Stmt))=some (C,s):=hs;cases h
  ·have h:false=true:=hf;cases h
  ·have h:(if x="taking_part" then some ((("taking_part.<locals>.":Str),(⟨200,31,200,64⟩:Pos))) else none)=some q:=hs;split at h
   ·rename_i e;cases h;subst e;exact ⟨by kernel_rfl,by kernel_rfl,fun s f fd F hf=>⟨by decide +kernel,a38.code (S:=⟨l.prog,w,K,mg,base,os,#[],301⟩) XB GB F hf rfl BM _⟩⟩
   ·cases h
 have TF:TopOk T ⟨l.prog,w,K,mg,base,os,#[],301⟩:=CI.TopOk.fv TT fun x hx=>by
  rw [List.contains_iff_mem] at hx;simp only [List.mem_cons,List.not_mem_nil,or_false] at hx;rcases hx with rfl | rfl
  ·exact ⟨bR9,by kernel_rfl⟩
  ·exact ⟨bS0,by kernel_rfl⟩
 have q:=bN4 (k:=13) TF bC4 F75 (by kernel_rfl);rw [cJ8] at q;exact q
def walk {l:PySem.W.OpenLaw} {q:Program} {loose:List Str} {XP:(Str->Option Value)->Heap->Prop} {YP:World->Heap->Prop} {d:DefRec} {K:Params->PySem.W.Frag} {c0:Addr} (hn:l.most=some 63) (hdf:d.params.defaults=[])
  (hY:∀ (w:World) (h:Heap),YP w h->(K w.params).In h/\h.get? 301=some (PySem.W.tabObj #[])) (hKP:∀ w:World,(K w.params).lookup 301=none) (hcd:∀ w:World,PySem.W.codeHdIn (K w.params) c0 301=true)
  (F:∀ (w:World) (mg:Str->Option Value) (fa:Addr) (h:Heap) (os:OsState),(K w.params).In h->h.Ns mainGlobals mg->mg d.name=some (.ref fa) ->
   ∃ fd:FuncData,(∀ (s:Shared) (u:Value),BindsTo s fd ⟨[u],[]⟩ [("_law_script",u)])/\∀ base:Heap,(K w.params).In base->base.Ns mainGlobals mg->base.BuiltinsAt mg 301->FnS ⟨l.prog,w,K w.params,mg,base,os,#[],301⟩ 14 fa fd ["_law_script"] (toW (aD T 14 "law"))) :
  PySem.W.WalkO q loose XP YP l.row.toRowW d [] (fun f vs=>PySem.call f vs) :=
 aM6 (n:=63) (k:=14) (x:="_law_script") (m:=aD T 14 "law") hn (by decide) hdf ⟨rfl,by decide,by decide⟩ hY hKP hcd F fun ns _=>⟨_,bR8 0 ns⟩
end K47

open PySem PySem.W PyProof.Rows
theorem PySem.Challenge.cw_storejudge_k47_what_was_seen_and_laid_holds : PySem.Challenge.rw_storejudge_k47_what_was_seen_and_laid.Holds := by
 refine hd ?_
 k_fill
 refine K47.walk (l:=PySem.Challenge.rw_storejudge_k47_what_was_seen_and_laid) rfl rfl (fun w h Y=>⟨PySem.W.km_in_of Y,PySem.W.km_tabs_of Y 301 (by simp)⟩) (c0:=303) (fun w=>by kernel_rfl) (fun w=>by kernel_rfl) ?F
 case F =>
  intro w mg fa h os KX G hmg;refine' K47.all_mk KX G hmg ?a0 ?a1 ?a2 ?a3 ?a4 ?a5 ?a6 ?a7 ?a8 ?a9 ?a10 ?a11 ?a12 ?a13 ?a14 ?a15 ?a16 ?a17 ?a18 ?a19 ?a20 ?a21 ?a22 ?a23 ?a24 ?a25 ?a26 ?a27 ?a28 ?a29 ?a30 ?a31 ?a32 ?a33 ?a34 ?a35 ?a36 ?a37 ?a38 ?a39 ?a40 ?a41 ?a42 ?a43 ?a44 ?a45 ?a46 ?a47 ?a48 ?a49 ?a50 ?a51 ?a52 ?a53 ?a54 ?a55 ?a56 ?a57 ?a58 ?a59 ?a60 ?a61 ?a62 ?a63 ?a64 ?a65 ?a66 ?a67 ?a68 ?a69 ?a70 ?a71 ?a72 ?a73 ?a74 ?a75 ?cg0 ?cg1 ?aQ2 ?lQ2 ?aQ3 ?lQ3 ?cg4 ?cg5 ?aQ6 ?lQ6 ?aQ7 ?lQ7 ?aQ8 ?lQ8 ?cg9 ?cg10 ?cg11 ?aT0 ?lT0 ?kT0 ?sT0 ?zb
  (case a38=>refine' CI.fit_mk (c0:=303) ?a ?l ?c ?k ?hd;(case a=>k_is);(case l=>k_is);(case c=>k_is);(case k=>k_is);(case hd=>kernel_rfl))
  all_goals try (refine' CI.fi_mk ?a ?l ?c ?k;(case a=>k_is);(case l=>k_is);(case c=>k_is);(case k=>k_is))
  (case cg0=>k_is)
  (case cg1=>k_is)
  (case aQ2=>k_is);(case lQ2=>k_is)
  (case aQ3=>k_is);(case lQ3=>k_is)
  (case cg4=>k_is)
  (case cg5=>k_is)
  (case aQ6=>k_is);(case lQ6=>k_is)
  (case aQ7=>k_is);(case lQ7=>k_is)
  (case aQ8=>k_is);(case lQ8=>k_is)
  (case cg9=>k_is)
  (case cg10=>k_is)
  (case cg11=>k_is)
  (case aT0=>k_is);(case lT0=>k_is);(case kT0=>k_keys);(case sT0=>first | rfl | decide | k_is)
  (case zb=>intro b hb;simp only [CI.blAll,List.mem_cons,List.not_mem_nil,or_false] at hb;rcases hb with rfl | rfl | rfl | rfl | rfl | rfl | rfl | rfl | rfl | rfl | rfl | rfl | rfl | rfl | rfl | rfl | rfl | rfl | rfl | rfl<;>k_is)
