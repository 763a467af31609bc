import PyProof.Rows.All
import Wide.All
import OpenK.AllK
import Wide.FinOn
import Lean
import PyProof.EqAt
import PyProof.EqKinds
import PyProof.TupleCall
import PyProof.TupleKey
import PyProof.Rows.TupTab
import PyProof.ListRange
import PyProof.Conv_int_bool
import PyProof.SetRoads
import PyProof.Rows.SetFrom
import PyProof.WalksMore
import KE.KLam
import KE.KNestM
import KE.KRevSl
import PyProof.ZipIter
import PyProof.EnumIter
import PyProof.EnumFor
import PyProof.EnumStmt
import PyProof.TupleOfSeq
import KE.KTryMore
import PyProof.EqLayable
import PySem.Challenge.RW_storejudge_k24_the_fault_of_a_list
set_option genInjectivity false
set_option compiler.extract_closed false
set_option bootstrap.genMatcherCode false
set_option genSizeOf false
section
open PySem PySem.W PyProof.Rows
set_option Elab.async false
set_option maxRecDepth 100000
set_option maxHeartbeats 0
structure PySem.W.Fast:Prop where
 (tw13789960641523281025 tw861502493610598483 tw15802509698472376305 tw7774113678449685934 tw383286445209900924 tw8174326144747286996 tw11954087425409555486 tw3636596134837014001 tw17426987436379436081 tw10390936311373634846 tw4939483507329107499 tw13284263994228856263 tw15541240446876304647 tw3998647374267775353 tw9496870631314116199 tw17710873009340938204 tw9757595895972200118 tw9368122197164973604 tw8448305426059154538 tw17590705303994421779 tw2407462832516094465 tw8997383693586321770 tw9615563845995560447 tw9592521066531166775 tw16773468814595293053 tw12528533614272120300 tw15621415185263527259 tw599730875272715187 tw1158361714356455011 tw140001813534094272 tw5872530126848033075 tw209982475168477708 tw18262670878535919901 tw2567597102152627588 tw8865387616306378214 tw5323657890516693427 tw18383651708701053236 tw2259672571474061568 tw17348111734160510231 tw10297410513487048360 tw8318101203651539667 tw11429584451438056573 tw13462424878891718212 tw14963028359598502718 tw18146532975450069615 tw18157406047293677543 tw9331231397406362311 tw3110587219445414310 tw15240619367488684849 tw10510019762269167821 tw890339118813698166 tw15925456577456769635 tw8186657734068701312 tw5002640475654186023 tw16860917588515726111 tw12917704675397863716 tw17318462890700432884 tw10295913840692754127 tw247591363613054380 tw3215387988796971590 tw4436474186459923750 tw18031968618487185184 tw16721508838639397229 tw7086961617601330827 tw256976265262469064 tw1401067106901849026 tw7921390202802761869 tw17170472223608059050 tw16108870410212019532 tw5622701340561072331 tw1922157984580058403 tw1205604411410820431 tw13135312941875745310 tw6690350156832105676 tw5101696844757716304 tw6702445572142316249 tw4046790133079468173 tw6162269159774324313 tw7212858340449540239 tw8285278889055680438 tw8080008513338510535 tw18183970276198133131 tw4334401890000744311 tw13669536469129627823 tw2827255003249426055 tw16217903435359918192 tw3300257896294614128 tw2931988195819169919 tw8498532028676091811 tw15227483606004533461 tw15685335758407661847 tw3992765435912101610 tw9689729476882780088 tw17435391645217708394 tw9947508896943372755 tw14022695629967993375 tw12297992134047619483 tw1835071406663858368 tw5362036446546632119 tw10551173667578312727 tw6822071536725586909 tw11373181179767321252 tw10698057553749749337 tw13674586047789940208 tw542563422162235373 tw16203965252921439515 tw8157277791214410489 tw14424681132571578402 tw12431713363859531893 tw12727641955093265886 tw8733291241859026926 tw14993981098963755598 tw5344687154915797982 tw14226173905949225808 tw14243238205550065757 tw14958820412457663293 tw17013487888433625170 tw6278996535519779258 tw866717566613908145 tw772564365185477556 tw5000232492035539693 tw11898673842065290130 tw18293242582946804979 tw8422229294311615681 tw4635989785427082552 tw16864618592142003386 tw17852080271459398996 tw1717767836212652739 tw13437419889732721216 tw740290905518256060 tw4884199854448574 tw3721919958574915784 tw15235614512728720 tw12954591660760965231 tw11907897558876765624 tw13622603851894308203 tw1207101557538958131 tw1725486776273817318 tw6170744672141170255 tw12099505692703838030 tw6472337539984862722 tw12740759652641322565 tw6549852094080907030 tw5217270863462422736 tw3985964047577975286 tw10510056951384868246 tw14961746396406840608 tw896239598344801917 tw4039707410889071942 tw4490611911172417597 tw5832305185047221409 tw3308634892276815127 tw11024694936033576346 tw2694234056635809718 tw10842938092177581297 tw10826640976665885199 tw15401437161963490237 tw14842496431369740429 tw615563214671542189 tw10258873121960336067 tw18328257000508772394 tw13547939009206843870 tw13831308528885131752 tw2295934692909999376 tw1864683662541468164 tw10792498714594961201 tw523537741815420091 tw8949853181751564097 tw3235425350174046738 tw16140922888777852060 tw1937721966566455358 tw855453113358079251 tw384561282630992784 tw16919654943277366748 tw2358075552688931204 tw16873086082458093902 tw2144661209622563809 tw6128106870883400570 tw3919386906821981792 tw17613222154834848340 tw539538531456391632 tw13810262117814702294 tw13160504802963445071 tw12903330217458380548 tw5289818103960998278 tw12652081859355081885 tw15402603294489630176 tw4562827626845409882 tw726351398001015727 tw14404928986312190071 tw13385558918117058561 tw7046044490832178742 tw11153475782318119604 tw17260811203177919210 tw12138319994727072339 tw6105849179199505303 tw2080317491765294665 tw13855379610559885079 tw14664691819916384248 tw1000662321505670351 tw8535803893964050539 tw2353497105660221152 tw9461873434466728008 tw2340837018749705212 tw8995945545434573385 tw5072417060200589145 tw16756451883985382160 tw3303267245142563540 tw6060609690816243450 tw2595585439558603231 tw14261769069557060686 tw3681537716864247207 tw17334828202450815106 tw12798174099139212305 tw4804111812005502284 tw6248682570935725439 tw14611616552423853409 tw12330612334027959195 tw7322748291113730364 tw514280064592716601 tw9919008367099125623 tw8760152093665844161 tw3238445694619138142 tw14904681115217272601 tw16053306600634468012 tw17267597263503486738 tw13769103115541136327 tw16226643914720891334 tw5444512763150141072 tw6858818405166986180 tw6030501089693204938 tw8159993647027272844 tw2400638427578300857 tw15554417296805563061 tw11408881796089955267 tw1142673529048489019 tw15831126876759372255 tw5725222548895626118 tw16607193741793207195 tw12843764043397292189 tw6798380500665416597 tw11066385474520676512 tw17483705464198625004 tw11513857634932158529 tw866652123128751154 tw14703100239697439463 tw2576523973992343609 tw15214748959534726111 tw4849480874435393781 tw5285915839522022235 tw2646887283097553488 tw9806118890596472461 tw15861351967447197489 tw547895379624588593 tw16682895059504647277 tw1708089923452030704 tw3953844824629472508 tw8297923619242306668 tw18367749455379333440 tw16409965706819354750 tw11502921971960690029 tw16822532161544500889 tw10988312798546598065 tw8219003486749837733 tw9630203353718772412 tw9387514328989991554 tw12887044766017154078 tw1950803216711332702 tw8972062959192195235 tw2314633323536394700 tw14219159868682941630 tw2403389108928632939 tw14074196154385387334 tw7867829370405329436 tw1383625962624193546 tw13946496683202179788 tw13343918040275786880 tw10876078143196172821 tw2941924889016668590 tw2692750590507578028 tw13421457143807847188 tw3897268976836264337 tw3099597729799864441 tw5890639436620234070 tw3049343062529576306 tw6056707288978253535 tw16279288168775177219 tw1825952489489211193 tw5537553045615171315 tw3778530596728393105 tw11662115353561507501 tw14689541978594310382 tw3543459598558145280 tw10741264400317747893 tw9784134513789038367 tw938635154573522699 tw1293241653719404408 tw10624116801336726872 tw13053770412826190925 tw4015202173357781934 tw14727194681476072466 tw17678831435119133177 tw15779231459743154856 tw2261719852989239553 tw9860861378791804195 tw14520296925931582552 tw18101783494082082527 tw4953865588907285216 tw1599053048872161195 tw16728255500844073214 tw14172470266813156586 tw12770481643036789091 tw5739107532880200772 tw643336161829623379 tw10374632558016547081:True)
open_top hd for PySem.Challenge.rw_storejudge_k24_the_fault_of_a_list
end
noncomputable section
theorem ZR0 (h:True:=by rfl):True:=h
def ZR:Lean.Syntax:=ZR0._auto_1
theorem ZD0 (h:True:=by decide):True:=h
def ZD:Lean.Syntax:=ZD0._auto_1
theorem ZI0 (h:True:=by intro _;rfl):True:=h
def ZI:Lean.Syntax:=ZI0._auto_1
theorem ZW0 (h:True:=by with_unfolding_all rfl):True:=h
def ZW:Lean.Syntax:=ZW0._auto_1
set_option Elab.async false
set_option linter.all false
set_option maxRecDepth 100000
set_option maxHeartbeats 4000000
namespace L2
open PySem PySem.Spec PyProof.Rows

abbrev Key:=Sum Int Str
noncomputable def pB:Key->Value->Bool
 | .inl k,v=>Value.isInt k v
 | .inr x,v=>Value.isStrOf x v
noncomputable def cK1 (w:World):Key->Int
 | .inl k=>hashInt k
 | .inr x=>hashStr w x
theorem keyIs_shape:∀ {k:Key} {v:Value},pB k v=true->(∃ i t,k=Sum.inl i/\v=Value.int i t)\/(∃ x t,k=Sum.inr x/\v=Value.str x t)
 | .inl i,v,h=>by
  obtain ⟨t,e⟩:=Value.isInt_shape (k:=i) (v:=v) h;exact .inl ⟨i,t,rfl,e⟩
 | .inr x,v,h=>by
  obtain ⟨t,e⟩:=Value.isStrOf_shape (x:=x) (v:=v) h;exact .inr ⟨x,t,rfl,e⟩
def kR (i:Int) (t:Tok):pB (.inl i) (.int i t)=true:=by simp [pB,Value.isInt]
def kS (x:Str) (t:Tok):pB (.inr x) (.str x t)=true:=by simp [pB,Value.isStrOf]
def bC4 (a b:Int):decide ((Sum.inl a:Key)=Sum.inl b)=(a==b):=by
 by_cases e:a=b
 ·subst e;simp
 ·have h:¬ (Sum.inl a:Key)=Sum.inl b:=fun q=>e (Sum.inl.inj q);rw [decide_eq_false h];exact (beq_eq_false_iff_ne.mpr e).symm
def bC5 (a b:Str):decide ((Sum.inr a:Key)=Sum.inr b)=decide (a=b):=by
 by_cases e:a=b
 ·subst e;simp
 ·have h:¬ (Sum.inr a:Key)=Sum.inr b:=fun q=>e (Sum.inr.inj q);rw [decide_eq_false h,decide_eq_false e]
def bC6 (a:Int) (b:Str):decide ((Sum.inl a:Key)=Sum.inr b)=false:=decide_eq_false (fun q=>nomatch q)
def bC7 (a:Str) (b:Int):decide ((Sum.inr a:Key)=Sum.inl b)=false:=decide_eq_false (fun q=>nomatch q)

def bQ (prog:Program) (w:World):PySem.KeyKind prog w Key where
 is:=pB
 hash:=cK1 w
 inj:=fun v a b ha hb=>by
  rcases keyIs_shape ha with ⟨i,t,rfl,rfl⟩ | ⟨x,t,rfl,rfl⟩
  ·rcases keyIs_shape hb with ⟨j,u,rfl,e⟩ | ⟨y,u,rfl,e⟩
   ·injection e with e1 _;rw [e1]
   ·exact nomatch e
  ·rcases keyIs_shape hb with ⟨j,u,rfl,e⟩ | ⟨y,u,rfl,e⟩
   ·exact nomatch e
   ·injection e with e1 _;rw [e1]
 byValue:=fun k v h=>by
  rcases keyIs_shape h with ⟨i,t,rfl,rfl⟩ | ⟨x,t,rfl,rfl⟩<;>rfl
 pyHash:=fun hv h=>by
  rcases keyIs_shape hv with ⟨i,t,rfl,rfl⟩ | ⟨x,t,rfl,rfl⟩
  ·exact wpAny_pyHash_int h
  ·exact wpAny_pyHash_str h
 eqBool:=fun hu hv h=>by
  rcases keyIs_shape hu with ⟨i,t,rfl,rfl⟩ | ⟨x,t,rfl,rfl⟩
  ·rcases keyIs_shape hv with ⟨j,u,rfl,rfl⟩ | ⟨y,u,rfl,rfl⟩
   ·rw [bC4] at h;exact wpAny_eqBool_int h
   ·rw [bC6] at h;exact SeqAt.EqAt.int_str i t y u _ _ _ _ h
  ·rcases keyIs_shape hv with ⟨j,u,rfl,rfl⟩ | ⟨y,u,rfl,rfl⟩
   ·rw [bC7] at h;exact SeqAt.EqAt.str_int x t j u _ _ _ _ h
   ·rw [bC5] at h;exact wpAny_eqBool_str h
 «strs»:=fun k x t v h=>by
  rcases keyIs_shape h with ⟨i,u,rfl,e⟩ | ⟨y,u,rfl,e⟩
  ·exact nomatch e
  ·injection e with e1 _
   subst e1;cases v<;>rfl

def lT (prog:Program) (w:World) (i:Int) (t:Tok):(bQ prog w).is (.inl i) (.int i t)=true:=kR i t
def tA (prog:Program) (w:World) (x:Str) (t:Tok):(bQ prog w).is (.inr x) (.str x t)=true:=kS x t
end L2

namespace HT
open PySem PyProof.Rows

section
open PySem.SeqAt
open PySem.AutoSeq1 (wpAny_loadPart')
open PySem.MeetsSeq PySem.MeetsSeq2 PySem.MeetsSeq3

end

section
variable {prog:Program} {w:World} {A:Around} {E:Value->Shared->Prop} {s:Shared}

def cat_tup {t b:Addr} {vs ws:List Value} {Q:Value->Shared->Prop} (ht:IsTup s.heap t vs.toArray) (hb:IsTup s.heap b ws.toArray) (hv:vs≠[])
  (h1:ws=[]->Q (.ref t) s) (h2:ws≠[]->Q (.ref s.heap.objs.size) { s with heap:=s.heap.push { cls:=.type "tuple",data:=.seq (vs++ws).toArray } })
  (hsz:vs.length+ws.length<=sizeLine):wpAny (model prog w) A (binaryOp .Add (.ref t) (.ref b)) Q E s:=by
 obtain ⟨⟨cls,dd,data,sl⟩,ho,hc,n,hd⟩:=id ht;obtain ⟨⟨cls2,dd2,data2,sl2⟩,ho2,hc2,n2,hd2⟩:=id hb;simp only at hc hd hc2 hd2;subst hc hd hc2 hd2;have e:vs.toArray++ws.toArray=(vs++ws).toArray:=by simp
 by_cases hw:ws=[]
 ·exact concat_meets ⟨_,ho,rfl⟩ ⟨_,ho2,rfl⟩ noFill_tuple_add seq_tuple_add PySem.F.slot_tuple_add PySem.F.entry_tuple_add (PySem.F.args_tuple_add_2 _ _)
   (tuple_addW1 t b vs.toArray ws.toArray n n2 dd dd2 sl sl2 (by simpa using hv) (by simp [hw])) ⟨ho,ho2,h1 hw⟩
 ·refine concat_meets ⟨_,ho,rfl⟩ ⟨_,ho2,rfl⟩ noFill_tuple_add seq_tuple_add PySem.F.slot_tuple_add PySem.F.entry_tuple_add (PySem.F.args_tuple_add_2 _ _)
   (tuple_addW2 t b vs.toArray ws.toArray n n2 dd dd2 sl sl2 (by simpa using hv) (by simpa using hw) (by rw [List.size_toArray,List.size_toArray];exact hsz)) ⟨ho,ho2,?_⟩
  rw [e];exact h2 hw

noncomputable def sIx (n d:Nat):Option Int->Nat
 | none=>d
 | some v=>if v < 0 then (v+(n:Int)).toNat else min v.toNat n
def bC8 (n d:Nat) (hd:d<=n) (o:Option Int):sIx n d o<=n:=by
 cases o with
 | none=>exact hd
 | some v =>
  show (if v < 0 then (v+(n:Int)).toNat else min v.toNat n)<=n
  by_cases hv:v < 0
  ·rw [if_pos hv];omega
  ·rw [if_neg hv];exact Nat.min_le_right _ _
def wV (v:Int) (n d:Nat):(if v < 0 then max (v+(n:Int)) 0 else min v (n:Int))=((sIx n d (some v):Nat):Int):=by
 show (if v < 0 then max (v+(n:Int)) 0 else min v (n:Int))=(((if v < 0 then (v+(n:Int)).toNat else min v.toNat n):Nat):Int)
 by_cases hv:v < 0
 ·simp only [if_pos hv];omega
 ·simp only [if_neg hv];omega
def uS (lo hi:Option Int) (n:Nat):Builtin.Slice.sliceAdjust lo hi 1 (n:Int)=(((sIx n 0 lo:Nat):Int),((sIx n n hi:Nat):Int)):=by
 have h1:¬ ((1:Int) < 0):=by omega
 unfold Builtin.Slice.sliceAdjust;simp only [h1,if_false];refine Prod.ext ?_ ?_
 ·cases lo with
  | none=>rfl
  | some v=>exact wV v n 0
 ·cases hi with
  | none=>rfl
  | some v=>exact wV v n n
def uT (i j:Nat):Builtin.Slice.slicePlaces (i:Int) (j:Int) 1=j - i:=by
 unfold Builtin.Slice.slicePlaces;have h1:(1:Int) > 0:=by omega
 simp only [h1,if_true,Int.ediv_one];split<;>omega
def mX {v:Value} {o:Option Int} {Q:Option Int->Shared->Prop} (p:IsPart v o) (h:Q o s):wpAny (model prog w) A (Builtin.Slice.slicePartIndex v) Q E s:=by
 cases p with
 | none=>exact slicePart_none h
 | int i t=>exact slicePart_int h
def sliceApplied_gen {sl:Addr} {vl vu:Value} {lo hi:Option Int} {n:Nat} {Q:Int×Int×Nat->Shared->Prop} (hs:s.heap.IsSliceOf sl vl vu .none) (pl:IsPart vl lo) (pu:IsPart vu hi)
  (h:Q (((sIx n 0 lo:Nat):Int),1,sIx n n hi - sIx n 0 lo) s):wpAny (model prog w) A (Builtin.Slice.sliceApplied (.ref sl) (pure (n:Int))) Q E s:=by
 obtain ⟨os,hos,hcs,hds⟩:=id hs;unfold Builtin.Slice.sliceApplied Builtin.Slice.sliceFields;refine wpAny_bind (wpAny_bind (wpAny_field hos hds (x:=vl) rfl (wpAny_bind (wpAny_field hos hds (x:=vu) rfl (wpAny_bind (wpAny_field hos hds (x:=.none) rfl (wpAny_pure ?_)))))));refine wpAny_bind (slicePart_none ?_);show wpAny _ _ (if ((1:Int)==0)=true then _ else _) _ _ s;rw [if_neg (by decide)];refine wpAny_bind (mX pl (wpAny_bind (mX pu (wpAny_bind (wpAny_pure ?_)))));show wpAny _ _ (match Builtin.Slice.sliceAdjust lo hi 1 (n:Int) with | (lo,hi)=>pure (lo,(1:Int),Builtin.Slice.slicePlaces lo hi 1)) _ _ s;rw [uS lo hi n];show wpAny _ _ (pure (((sIx n 0 lo:Nat):Int),(1:Int),Builtin.Slice.slicePlaces ((sIx n 0 lo:Nat):Int) ((sIx n n hi:Nat):Int) 1)) _ _ s;rw [uT];exact wpAny_pure h
def aD2 (xs:Array Value) (i k:Nat):((List.range k).filterMap fun (m:Nat)=>xs[((i:Int)+(m:Int)*1).toNat]?).toArray=((xs.toList.drop i).take k).toArray:=by
 have e:(fun (m:Nat)=>xs[((i:Int)+(m:Int)*1).toNat]?)=fun m=>xs[i+m]?:=by
  funext m
  have:((i:Int)+(m:Int)*1).toNat=i+m:=by omega
  rw [this]
 rw [e];have:=pick_run xs i k;rw [List.filterMap_map] at this;have e2:((fun x=>xs[x]?) ∘ fun x=>i+x)=fun m=>xs[i+m]?:=rfl;rw [e2] at this;rw [this]

def getItem_tuple_cut {t sl:Addr} {items:Array Value} {vl vu:Value} {lo hi:Option Int} {Q:Value->Shared->Prop} (ht:IsTup s.heap t items) (hs:s.heap.IsSliceOf sl vl vu .none) (pl:IsPart vl lo) (pu:IsPart vu hi)
  (hw:¬ (sIx items.size 0 lo=0/\sIx items.size items.size hi=items.size))
  (h:Q (.ref s.heap.objs.size) { s with heap:=s.heap.push { cls:=.type "tuple",data:=.seq ((items.toList.drop (sIx items.size 0 lo)).take (sIx items.size items.size hi - sIx items.size 0 lo)).toArray } })
  (hsz:items.size<=sizeLine):wpAny (model prog w) A (getItem (.ref t) (.ref sl)) Q E s:=by
 have htake:sizeOk (.seq ((items.toList.drop (sIx items.size 0 lo)).take (sIx items.size items.size hi - sIx items.size 0 lo)).toArray):=by
  show ((items.toList.drop (sIx items.size 0 lo)).take (sIx items.size items.size hi - sIx items.size 0 lo)).toArray.size<=sizeLine;rw [List.size_toArray,List.length_take,List.length_drop,Array.length_toList];omega
 have hj:sIx items.size items.size hi<=items.size:=bC8 _ _ (Nat.le_refl _) hi;obtain ⟨os,hos,hcs,hds⟩:=id hs;have hTs:s.TypeIs (.ref sl) "slice":=⟨os,hos,hcs⟩;unfold getItem;try with_reducible refine wpAny_holding ?_
 first | refine wpAny_bind (wpAny_pure ?_) | skip
 refine wpAny_bind (wpAny_sequenceKey ht.typeIs (by decide) ?_);refine wpAny_bind (wpAny_callSpecial?_slot (name:=Str.ofString "__getitem__") ht.typeIs PyProof.Rows.slot_tuple_getitem
  (wpAny_call_entry PyProof.Rows.slot_tuple_getitem ht.typeIs entry_tuple_getitem ?_ (args_tuple_getitem _ _)))
 show wpAny _ _ (Builtin.Tuple.tupleItemsOf (.ref t) >>= _) _ _ s;refine wpAny_bind (tupleItemsOf_ ht ?_);refine wpAny_bind (wpAny_typeOf hTs ?_);rw [if_pos (by decide)];refine wpAny_bind (sliceApplied_gen hs pl pu ?_);have hno:¬ ((((sIx items.size 0 lo:Nat):Int)==0&&(1:Int)==1&&(sIx items.size items.size hi - sIx items.size 0 lo)==items.size)=true):=by
  intro q;rw [Bool.and_eq_true,Bool.and_eq_true] at q;have q1:((sIx items.size 0 lo:Nat):Int)=0:=eq_of_beq q.1.1;have q2:sIx items.size items.size hi - sIx items.size 0 lo=items.size:=eq_of_beq q.2;exact hw ⟨by omega,by omega⟩
 show wpAny _ _ (if (((sIx items.size 0 lo:Nat):Int)==0&&(1:Int)==1&&(sIx items.size items.size hi - sIx items.size 0 lo)==items.size)=true then _ else _) _ _ s;rw [if_neg hno,aD2]
 first
  | exact wpAny_bind (m:=Builtin.Tuple.tupleExact _) (wpAny_newObj_type (wpAny_pure ⟨_,rfl,wpAny_pure h⟩) htake)
  | exact wpAny_bind (m:=Builtin.Tuple.tupleExact _) (wpAny_newObj_type (wpAny_bind (wpAny_pure (wpAny_pure ⟨_,rfl,wpAny_pure h⟩))) htake)
  | exact wpAny_bind (wpAny_bind (m:=Builtin.Tuple.tupleExact _) (wpAny_newObj_type (wpAny_pure (wpAny_pure ⟨_,rfl,wpAny_pure h⟩)) htake))
  | exact wpAny_bind (wpAny_bind (m:=Builtin.Tuple.tupleExact _) (wpAny_newObj_type (wpAny_pure ⟨_,rfl,wpAny_pure h⟩) htake))
end
end HT

namespace DL
open PySem PySem.Spec PyProof.Rows L2
set_option genInjectivity true in
inductive W where
 | d (x:PyData)
 | c (i:Nat)
set_option genInjectivity true in
inductive Cell where
 | l (xs:List PyData)
 | k (kvs:List (PyData×PyData))
 | o (C:Addr) (fs:List (Str×W))
 | r (is:List Nat)
 | n (kvs:List (PyData×PyData))
 | t (qs:List (Pos×Str))
abbrev aA:=List Cell
abbrev DSt:=List (Option W)
noncomputable def cC:PyData->Option Key
 | .int i=>some (.inl i)
 | .str x=>if PyData.strOk x=true then some (.inr x) else none
 | _=>none
section
variable {α β γ:Type} {F G:α->β->Prop}
theorem tB (f:∀ a b,F a b->G a b):∀ {l:List α} {r:List β},Paired F l r->Paired G l r
 | _,_,.nil=>.nil
 | _,_,.cons h t=>.cons (f _ _ h) (tB f t)
theorem mY:∀ {l:List α} {r:List β} {i:Nat} {a:α},Paired F l r->l[i]?=some a->∃ b,r[i]?=some b/\F a b
 | _,_,_,_,.nil,e=>by simp at e
 | _,_,0,_,.cons h _,e=>by simp at e;subst e;exact ⟨_,rfl,h⟩
 | _,_,i+1,a,.cons _ t,e=>by
  obtain ⟨b,h1,h2⟩:=mY (i:=i) (a:=a) t (by simpa using e);exact ⟨b,by simpa using h1,h2⟩
theorem bQ7 {a:α} {b:β} (h:F a b):∀ {l:List α} {r:List β} (i:Nat),Paired F l r->Paired F (l.set i a) (r.set i b)
 | _,_,_,.nil=>.nil
 | _,_,0,.cons _ t=>.cons h t
 | _,_,i+1,.cons q t=>.cons q (bQ7 h i t)
theorem zE:∀ {l l':List α} {r r':List β},Paired F l r->Paired F l' r'->Paired F (l++l') (r++r')
 | _,_,_,_,.nil,s=>s
 | _,_,_,_,.cons h t,s=>.cons h (zE t s)
theorem aD3:∀ {l:List α} {r:List β} (n:Nat),Paired F l r->Paired F (l.take n) (r.take n)
 | _,_,0,_=>.nil
 | _,_,_+1,.nil=>.nil
 | _,_,n+1,.cons h t=>.cons h (aD3 n t)
theorem aD4:∀ {l:List α} {r:List β} (n:Nat),Paired F l r->Paired F (l.drop n) (r.drop n)
 | _,_,0,h=>h
 | _,_,_+1,.nil=>.nil
 | _,_,n+1,.cons _ t=>aD4 n t
theorem aD5:∀ {l:List α} {r:List β} (n:Nat),Paired F l r->Paired F (l.eraseIdx n) (r.eraseIdx n)
 | _,_,_,.nil=>.nil
 | _,_,0,.cons _ t=>t
 | _,_,n+1,.cons h t=>.cons h (aD5 n t)
def cK2 {l:List α} {r:List β} (h:Paired F l r):Paired F l.reverse r.reverse:=by
 induction h with
 | nil=>exact .nil
 | cons a _ ih=>rw [List.reverse_cons,List.reverse_cons];exact Paired.snoc ih a
theorem aD6 {f:γ->α}:∀ {l:List γ} {r:List β},Paired (fun a b=>F (f a) b) l r->Paired F (l.map f) r
 | _,_,.nil=>.nil
 | _,_,.cons h t=>.cons h (aD6 t)
theorem wW {f:γ->α}:∀ {l:List γ} {r:List β},Paired F (l.map f) r->Paired (fun a b=>F (f a) b) l r
 | [],_,h=>by cases h;exact .nil
 | _::_,_,h=>by cases h with | cons h t=>exact .cons h (wW t)
end
structure Sx where
 P:Program
 w:World
 K:PySem.W.Frag
 mg:Str->Option Value
 base:Heap
 os:OsState
 tb:Array Value
 tp:Addr
abbrev Zm:=Addr->Option Obj
structure Mp where
 Z:Zm
 m:List (Addr×Addr)
abbrev Kp:=Addr->Option (Bool×Obj)
def SqO (n:String) (o:Obj) (us:List Value):Prop:=(∃ k,o={ cls:=.type n,data:=.seq us.toArray k })/\us.length<=sizeLine
def DcO (S:Sx) (a:Addr) (o:Obj) (vs:List (Key×Value)):Prop:=(a==sysModules)=false/\vs.length<=sizeLine/\∀ h:Heap,h.get? a=some o->h.DictOf (bQ S.P S.w) a vs
mutual
noncomputable def Rep (S:Sx) (Z:Zm):PyData->Value->Prop
 | .none,u=>u=.none
 | .bool b,u=>u=.bool b
 | .int i,u=>∃ t,u=.int i t
 | .str x,u=>(∃ t,u=.str x t)/\PyData.strOk x=true
 | .list xs,u=>∃ a o us,u=.ref a/\Z a=some o/\SqO "list" o us/\Reps S Z xs us
 | .tuple xs,u=>∃ a o us,u=.ref a/\Z a=some o/\SqO "tuple" o us/\Reps S Z xs us
 | .dict kvs,u=>∃ a o vs,u=.ref a/\Z a=some o/\DcO S a o vs/\RepKs S Z kvs vs
noncomputable def Reps (S:Sx) (Z:Zm):List PyData->List Value->Prop
 | [],us=>us=[]
 | x::xs,us=>∃ u r,us=u::r/\Rep S Z x u/\Reps S Z xs r
noncomputable def RepKs (S:Sx) (Z:Zm):List (PyData×PyData)->List (Key×Value)->Prop
 | [],vs=>vs=[]
 | p::kvs,vs=>∃ q r,vs=q::r/\RepP S Z p q/\RepKs S Z kvs r
noncomputable def RepP (S:Sx) (Z:Zm):PyData×PyData->Key×Value->Prop
 | (k,x),q=>cC k=some q.1/\Rep S Z x q.2
end
section
variable {S:Sx} {Z Z':Zm}
theorem reps_iff:∀ {xs:List PyData} {us:List Value},Reps S Z xs us ↔ Paired (Rep S Z) xs us
 | [],us=>by rw [Reps];exact ⟨fun e=>e ▸ .nil,fun h=>by cases h;rfl⟩
 | x::xs,us=>by
  rw [Reps];exact ⟨fun ⟨u,r,e,h,t⟩=>e ▸ .cons h (reps_iff.mp t),fun h=>by cases h with | cons h t=>exact ⟨_,_,rfl,h,reps_iff.mpr t⟩⟩
abbrev RepK (S:Sx) (Z:Zm):List (PyData×PyData)->List (Key×Value)->Prop:=Paired fun p q=>cC p.1=some q.1/\Rep S Z p.2 q.2
theorem repks_iff:∀ {xs:List (PyData×PyData)} {us:List (Key×Value)},RepKs S Z xs us ↔ RepK S Z xs us
 | [],us=>by rw [RepKs];exact ⟨fun e=>e ▸ .nil,fun h=>by cases h;rfl⟩
 | (k,x)::xs,us=>by
  rw [RepKs];exact ⟨fun ⟨u,r,e,h,t⟩=>by rw [RepP] at h;exact e ▸ .cons h (repks_iff.mp t),fun h=>by cases h with | cons h t=>exact ⟨_,_,rfl,by rw [RepP];exact h,repks_iff.mpr t⟩⟩
def rep_l {xs:List PyData} {u:Value}:Rep S Z (.list xs) u ↔ ∃ a o us,u=.ref a/\Z a=some o/\SqO "list" o us/\Paired (Rep S Z) xs us:=by rw [Rep];simp only [reps_iff]
def rep_t {xs:List PyData} {u:Value}:Rep S Z (.tuple xs) u ↔ ∃ a o us,u=.ref a/\Z a=some o/\SqO "tuple" o us/\Paired (Rep S Z) xs us:=by rw [Rep];simp only [reps_iff]
def rep_d {xs:List (PyData×PyData)} {u:Value}:Rep S Z (.dict xs) u ↔ ∃ a o vs,u=.ref a/\Z a=some o/\DcO S a o vs/\RepK S Z xs vs:=by rw [Rep];simp only [repks_iff]
def bQ8 {u:Value}:Rep S Z .none u ↔ u=.none:=by rw [Rep]
def rep_b {b:Bool} {u:Value}:Rep S Z (.bool b) u ↔ u=.bool b:=by rw [Rep]
def rep_i {i:Int} {u:Value}:Rep S Z (.int i) u ↔ ∃ t,u=.int i t:=by rw [Rep]
def rep_s {x:Str} {u:Value}:Rep S Z (.str x) u ↔ (∃ t,u=.str x t)/\PyData.strOk x=true:=by rw [Rep]
mutual
theorem Rep.go (hs:∀ a o,Z a=some o->Z' a=some o):∀ {d:PyData} {v:Value},Rep S Z d v->Rep S Z' d v
 | .none,_,h=>by rw [Rep] at h ⊢;exact h
 | .bool _,_,h=>by rw [Rep] at h ⊢;exact h
 | .int _,_,h=>by rw [Rep] at h ⊢;exact h
 | .str _,_,h=>by rw [Rep] at h ⊢;exact h
 | .list xs,_,h=>by rw [Rep] at h ⊢;obtain ⟨a,o,us,e,z,q,r⟩:=h;exact ⟨a,o,us,e,hs _ _ z,q,Reps.go hs r⟩
 | .tuple xs,_,h=>by rw [Rep] at h ⊢;obtain ⟨a,o,us,e,z,q,r⟩:=h;exact ⟨a,o,us,e,hs _ _ z,q,Reps.go hs r⟩
 | .dict xs,_,h=>by rw [Rep] at h ⊢;obtain ⟨a,o,us,e,z,q,r⟩:=h;exact ⟨a,o,us,e,hs _ _ z,q,RepKs.go hs r⟩
theorem Reps.go (hs:∀ a o,Z a=some o->Z' a=some o):∀ {ds:List PyData} {vs:List Value},Reps S Z ds vs->Reps S Z' ds vs
 | [],_,h=>by rw [Reps] at h ⊢;exact h
 | x::xs,_,h=>by rw [Reps] at h ⊢;obtain ⟨v,r,e,h1,h2⟩:=h;exact ⟨v,r,e,Rep.go hs h1,Reps.go hs h2⟩
theorem RepKs.go (hs:∀ a o,Z a=some o->Z' a=some o):∀ {ds:List (PyData×PyData)} {vs:List (Key×Value)},RepKs S Z ds vs->RepKs S Z' ds vs
 | [],_,h=>by rw [RepKs] at h ⊢;exact h
 | x::xs,_,h=>by rw [RepKs] at h ⊢;obtain ⟨v,r,e,h1,h2⟩:=h;exact ⟨v,r,e,RepP.go hs h1,RepKs.go hs h2⟩
theorem RepP.go (hs:∀ a o,Z a=some o->Z' a=some o):∀ {p:PyData×PyData} {q:Key×Value},RepP S Z p q->RepP S Z' p q
 | (k,x),q,h=>by rw [RepP] at h ⊢;exact ⟨h.1,Rep.go hs h.2⟩
end
end
def RepW (S:Sx) (M:Mp):W->Value->Prop
 | .d x,u=>Rep S M.Z x u
 | .c i,u=>∃ p,M.m[i]?=some p/\u=.ref p.1
abbrev Reps' (S:Sx) (M:Mp):List PyData->List Value->Prop:=Paired (Rep S M.Z)
abbrev RepWs (S:Sx) (M:Mp):List W->List Value->Prop:=Paired (RepW S M)
structure Le (M M':Mp):Prop where
 z:∀ a o,M.Z a=some o->M'.Z a=some o
 m:∃ n,M'.m=M.m++n
def Le.refl {M:Mp}:Le M M:=⟨fun _ _ e=>e,[],by simp⟩
def Le.trans {M N O:Mp} (a:Le M N) (b:Le N O):Le M O:=⟨fun x o e=>b.z x o (a.z x o e),let ⟨n,e⟩:=a.m;let ⟨k,q⟩:=b.m;⟨n++k,by rw [q,e,List.append_assoc]⟩⟩
def Le.at {M M':Mp} (l:Le M M') {i:Nat} {p:Addr×Addr} (e:M.m[i]?=some p):M'.m[i]?=some p:=by
 obtain ⟨n,q⟩:=l.m;rw [q,List.getElem?_append_left (List.getElem?_eq_some_iff.mp e).1,e]
section
variable {S:Sx} {M M':Mp}
def RepW.go (l:Le M M') {w:W} {u:Value} (r:RepW S M w u):RepW S M' w u:=by
 cases w with
 | d x=>exact Rep.go l.z r
 | c i=>obtain ⟨p,e,q⟩:=r;exact ⟨p,l.at e,q⟩
def RepWs.go (l:Le M M') {w:List W} {u:List Value} (r:RepWs S M w u):RepWs S M' w u:=tB (fun _ _ h=>h.go l) r
def Reps'.go (l:Le M M') {w:List PyData} {u:List Value} (r:Reps' S M w u):Reps' S M' w u:=tB (fun _ _ h=>Rep.go l.z h) r
def RepK.go (l:Le M M') {w:List (PyData×PyData)} {u:List (Key×Value)} (r:RepK S M.Z w u):RepK S M'.Z w u:=tB (fun _ _ h=>⟨h.1,Rep.go l.z h.2⟩) r
end
def RelO (S:Sx) (M:Mp):Option W->Option Value->Prop
 | some v,some u=>RepW S M v u
 | none,none=>True
 | _,_=>False
theorem RelO.go {S:Sx} {M M':Mp} (l:Le M M'):∀ {a:Option W} {b:Option Value},RelO S M a b->RelO S M' a b
 | some _,some _,h=>RepW.go l h
 | none,none,h=>h
 | some _,none,h=>h.elim
 | none,some _,h=>h.elim
end DL

namespace CI
open PySem
mutual
noncomputable def aN:Nat->PyData->Bool
 | _,.none=>true
 | _,.bool _=>true
 | _,.int _=>true
 | _,.str _=>true
 | n+1,.list xs=>plainsB n xs
 | n+1,.tuple xs=>plainsB n xs
 | _,_=>false
noncomputable def plainsB:Nat->List PyData->Bool
 | _,[]=>true
 | n,x::xs=>aN n x&&plainsB n xs
end
mutual
noncomputable def peq:PyData->PyData->Bool
 | .none,.none=>true
 | .bool a,.bool b=>a==b
 | .int a,.int b=>a==b
 | .str a,.str b=>a==b
 | .list a,.list b=>peqs a b
 | .tuple a,.tuple b=>peqs a b
 | _,_=>false
noncomputable def peqs:List PyData->List PyData->Bool
 | [],[]=>true
 | x::a,y::b=>peq x y&&peqs a b
 | _,_=>false
end
end CI
namespace DL
open PySem PySem.Spec PyProof.Rows L2 CI
section
variable {S:Sx}
mutual
theorem Rep.reads {Z:Zm} {hp:Heap} (k:∀ a o,Z a=some o->hp.get? a=some o):∀ {d:PyData} {u:Value} (n:Nat),Rep S Z d u->aN n d=true->(∃ as,Reads hp u d as)/\d.canLay0=true/\d.depth<=n
 | .none,_,n,h,_=>by rw [Rep] at h;subst h;exact ⟨⟨_,Reads.none⟩,by simp [PyData.canLay0,PyData.depth]⟩
 | .bool _,_,n,h,_=>by rw [Rep] at h;subst h;exact ⟨⟨_,Reads.bool _⟩,by simp [PyData.canLay0,PyData.depth]⟩
 | .int _,_,n,h,_=>by rw [Rep] at h;obtain ⟨t,rfl⟩:=h;exact ⟨⟨_,Reads.int _ _⟩,by simp [PyData.canLay0,PyData.depth]⟩
 | .str _,_,n,h,_=>by rw [Rep] at h;obtain ⟨⟨t,rfl⟩,z⟩:=h;exact ⟨⟨_,Reads.str _ _⟩,by simp [PyData.canLay0,PyData.depth,z]⟩
 | .list xs,_,0,_,p=>by cases p
 | .tuple xs,_,0,_,p=>by cases p
 | .list xs,_,n+1,h,p=>by
  rw [Rep] at h;obtain ⟨a,o,us,rfl,z,⟨⟨m,rfl⟩,_⟩,r⟩:=h;obtain ⟨⟨as,q⟩,c,l⟩:=Reps.reads k n r (show plainsB n xs=true from p);exact ⟨⟨_,Reads.list (k _ _ z) rfl rfl (by simpa using q)⟩,by simp [PyData.canLay0,PyData.depth,c,l]⟩
 | .tuple xs,_,n+1,h,p=>by
  rw [Rep] at h;obtain ⟨a,o,us,rfl,z,⟨⟨m,rfl⟩,_⟩,r⟩:=h;obtain ⟨⟨as,q⟩,c,l⟩:=Reps.reads k n r (show plainsB n xs=true from p);exact ⟨⟨_,Reads.tuple (k _ _ z) rfl rfl (by simpa using q)⟩,by simp [PyData.canLay0,PyData.depth,c,l]⟩
 | .dict _,_,n,_,p=>by cases n<;>cases p
theorem Reps.reads {Z:Zm} {hp:Heap} (k:∀ a o,Z a=some o->hp.get? a=some o):∀ {d:List PyData} {u:List Value} (n:Nat),Reps S Z d u->plainsB n d=true->(∃ as,ReadsAll hp u d as)/\PyData.canLayAll0 d=true/\PyData.depthAll d<=n
 | [],_,n,h,_=>by rw [Reps] at h;subst h;exact ⟨⟨_,ReadsAll.nil⟩,by simp [PyData.canLayAll0,PyData.depthAll]⟩
 | x::xs,_,n,h,p=>by
  rw [Reps] at h;obtain ⟨v,r,rfl,h1,h2⟩:=h
  replace p:(aN n x&&plainsB n xs)=true:=p
  rw [Bool.and_eq_true] at p;obtain ⟨⟨as,q1⟩,c1,l1⟩:=Rep.reads k n h1 p.1;obtain ⟨⟨bs,q2⟩,c2,l2⟩:=Reps.reads k n h2 p.2;refine ⟨⟨_,ReadsAll.cons q1 q2⟩,?_⟩;simp [PyData.canLayAll0,PyData.depthAll,c1,c2];omega
end
end
end DL

namespace DL
open PySem PySem.Spec PyProof.Rows L2 CI
mutual
noncomputable def hkB:Nat->PyData->Bool
 | _,.int _=>true
 | _,.str x=>PyData.strOk x
 | n+1,.tuple xs=>hksB n xs
 | _,_=>false
noncomputable def hksB:Nat->List PyData->Bool
 | _,[]=>true
 | n,x::xs=>hkB n x&&hksB n xs
end
theorem qT {n:Nat} {x:PyData}:∀ {xs:List PyData},hksB n xs=true->x∈xs->hkB n x=true
 | y::ys,h,m=>by
  rw [hksB,Bool.and_eq_true] at h;rcases List.mem_cons.mp m with rfl | m
  ·exact h.1
  ·exact qT h.2 m
mutual
theorem hV:∀ {n m:Nat} {a b:PyData},hkB n a=true->hkB m b=true->PyData.eqv a b=peq a b/\(peq a b=true ↔ a=b)
 | _,_,.int i,.int j,_,_=>⟨rfl,by show (i==j)=true ↔ _;simp⟩
 | _,_,.int i,.str j,_,_=>⟨rfl,fun h=>(by cases h),fun h=>(by cases h)⟩
 | _,_,.int i,.tuple j,_,_=>⟨rfl,fun h=>(by cases h),fun h=>(by cases h)⟩
 | _,_,.str i,.int j,_,_=>⟨rfl,fun h=>(by cases h),fun h=>(by cases h)⟩
 | _,_,.str i,.str j,_,_=>⟨rfl,by show (i==j)=true ↔ _;simp⟩
 | _,_,.str i,.tuple j,_,_=>⟨rfl,fun h=>(by cases h),fun h=>(by cases h)⟩
 | _,_,.tuple i,.int j,_,_=>⟨rfl,fun h=>(by cases h),fun h=>(by cases h)⟩
 | _,_,.tuple i,.str j,_,_=>⟨rfl,fun h=>(by cases h),fun h=>(by cases h)⟩
 | n+1,m+1,.tuple i,.tuple j,h1,h2=>by
  rw [hkB] at h1 h2;obtain ⟨e1,e2⟩:=hks_peq h1 h2;exact ⟨e1,by show peqs i j=true ↔ _;rw [e2];simp⟩
 | 0,_,.tuple _,_,h,_=>by simp [hkB] at h
 | _,0,_,.tuple _,_,h=>by simp [hkB] at h
 | _,_,.none,_,h,_=>by simp [hkB] at h
 | _,_,.bool _,_,h,_=>by simp [hkB] at h
 | _,_,.list _,_,h,_=>by simp [hkB] at h
 | _,_,.dict _,_,h,_=>by simp [hkB] at h
 | _,_,_,.none,_,h=>by simp [hkB] at h
 | _,_,_,.bool _,_,h=>by simp [hkB] at h
 | _,_,_,.list _,_,h=>by simp [hkB] at h
 | _,_,_,.dict _,_,h=>by simp [hkB] at h
theorem hks_peq:∀ {n m:Nat} {a b:List PyData},hksB n a=true->hksB m b=true->PyData.eqvAll a b=peqs a b/\(peqs a b=true ↔ a=b)
 | _,_,[],[],_,_=>⟨rfl,fun _=>rfl,fun _=>rfl⟩
 | _,_,[],_::_,_,_=>⟨rfl,fun h=>(by cases h),fun h=>(by cases h)⟩
 | _,_,_::_,[],_,_=>⟨rfl,fun h=>(by cases h),fun h=>(by cases h)⟩
 | n,m,x::xs,y::ys,h1,h2=>by
  rw [hksB,Bool.and_eq_true] at h1 h2;obtain ⟨e1,e2⟩:=hV h1.1 h2.1;obtain ⟨e3,e4⟩:=hks_peq h1.2 h2.2;show (PyData.eqv x y&&PyData.eqvAll xs ys)=(peq x y&&peqs xs ys)/\((peq x y&&peqs xs ys)=true ↔ _);rw [e1,e3];exact ⟨rfl,by rw [Bool.and_eq_true,e2,e4,List.cons.injEq]⟩
end
abbrev HK:={ d:PyData // hkB 4 d=true }
noncomputable instance:DecidableEq HK:=fun x y=>if h:peq x.1 y.1=true then isTrue (Subtype.ext ((hV x.2 y.2).2.mp h)) else isFalse fun e=>h ((hV x.2 y.2).2.mpr (congrArg Subtype.val e))
def bQ9 (x y:HK):PyData.eqv x.1 y.1=decide (x=y):=by
 rw [(hV x.2 y.2).1,Bool.eq_iff_iff,(hV x.2 y.2).2,decide_eq_true_iff];exact Subtype.ext_iff.symm
mutual
theorem mZ:∀ {n:Nat} {a:PyData},hkB n a=true->aN n a=true
 | _,.int _,_=>by simp [aN]
 | _,.str _,_=>by simp [aN]
 | n+1,.tuple xs,h=>by rw [hkB] at h;rw [aN];exact hks_plain h
 | 0,.tuple _,h=>by simp [hkB] at h
 | _,.none,h=>by simp [hkB] at h
 | _,.bool _,h=>by simp [hkB] at h
 | _,.list _,h=>by simp [hkB] at h
 | _,.dict _,h=>by simp [hkB] at h
theorem hks_plain:∀ {n:Nat} {a:List PyData},hksB n a=true->plainsB n a=true
 | _,[],_=>by simp [plainsB]
 | n,x::xs,h=>by
  rw [hksB,Bool.and_eq_true] at h;rw [plainsB,mZ h.1,hks_plain h.2];rfl
end
mutual
noncomputable def hkH (w:World):PyData->Int
 | .int i=>hashInt i
 | .str x=>hashStr w x
 | .tuple xs=>reduceHash (Builtin.Tuple.tupleHashOf (hksH w xs))
 | _=>0
noncomputable def hksH (w:World):List PyData->List Int
 | []=>[]
 | x::xs=>hkH w x::hksH w xs
end
mutual
noncomputable def hkD:PyData->Nat
 | .tuple xs=>hksD xs+1
 | _=>1
noncomputable def hksD:List PyData->Nat
 | []=>0
 | x::xs=>hkD x+hksD xs
end
theorem nB (w:World) (x:PyData):∀ xs:List PyData,hksH w (xs++[x])=hksH w xs++[hkH w x]
 | []=>by simp [hksH]
 | y::ys=>by rw [List.cons_append,hksH,hksH,nB w x ys];rfl
theorem nC (x:PyData):∀ xs:List PyData,hksD (xs++[x])=hksD xs+hkD x
 | []=>by simp [hksD]
 | y::ys=>by rw [List.cons_append,hksD,hksD,nC x ys];omega
section
variable {S:Sx} {A:Around} {E:Value->Shared->Prop} {s:Shared}
def qU {Z:Zm} {xs:List PyData} {v:Value} (r:Rep S Z (.tuple xs) v):∃ a n us,v=.ref a/\Z a=some { cls:=.type "tuple",data:=.seq us.toArray n }/\Paired (Rep S Z) xs us:=by
 obtain ⟨a,o,us,rfl,z,⟨⟨n,rfl⟩,_⟩,rr⟩:=rep_t.mp r;exact ⟨a,n,us,rfl,z,rr⟩
def aR4:∀ (n:Nat) {d:PyData} {v:Value} {A:Around} {s:Shared} {Q:Int->Shared->Prop},hkB n d=true->Rep S s.heap.get? d v->A.units+n < cLine->Q (hkH S.w d) { s with toks:=s.toks+hkD d }->wpAny (model S.P S.w) A (pyHash v) Q E s:=by
 intro n;induction n with
 | zero =>
  intro d v A s Q hd r hu h;cases d with
  | int i=>obtain ⟨t,rfl⟩:=rep_i.mp r;exact (bQ S.P S.w).pyHash (k:=.inl i) (kR i t) (by simp only [hkD,hkH] at h;exact h)
  | str x=>obtain ⟨⟨t,rfl⟩,_⟩:=rep_s.mp r;exact (bQ S.P S.w).pyHash (k:=.inr x) (kS x t) (by simp only [hkD,hkH] at h;exact h)
  | _=>simp [hkB] at hd
 | succ n ih =>
  intro d v A s Q hd r hu h;cases d with
  | int i=>obtain ⟨t,rfl⟩:=rep_i.mp r;exact (bQ S.P S.w).pyHash (k:=.inl i) (kR i t) (by simp only [hkD,hkH] at h;exact h)
  | str x=>obtain ⟨⟨t,rfl⟩,_⟩:=rep_s.mp r;exact (bQ S.P S.w).pyHash (k:=.inr x) (kS x t) (by simp only [hkD,hkH] at h;exact h)
  | tuple xs =>
   rw [hkB] at hd;obtain ⟨a,k,us,rfl,ho,rr⟩:=qU r;have hT:s.TypeIs (.ref a) "tuple":=⟨_,ho,rfl⟩;unfold pyHash
   first | unfold pyHashByItsType | skip
   first | refine wpAny_bind (wpAny_cRoomFor_or (.inr (by omega)) ?_) | skip
   refine wpAny_bind (wpAny_specialOf hT F.slot_tuple_hash.lookup ?_);show wpAny _ _ (if (some (Value.builtin "tuple.__hash__")==some Value.none)=true then _ else _) Q E s;rw [if_neg (by rw [beq_builtin_none];exact Bool.false_ne_true)];refine wpAny_bind (wpAny_specialOf hT F.slot_tuple_hash.lookup ?_);show wpAny _ _ (callSpecialIfBoundUnlessNone? (.ref a) "__hash__" _ >>= _) Q E s;refine wpAny_bind (wpAny_callSpecialIfBoundUnlessNone?_slot hT F.slot_tuple_hash (wpAny_call_entry F.slot_tuple_hash hT F.entry_tuple_hash ?_ (F.args_tuple_hash_1 _)));show wpAny _ _ (Builtin.Tuple.tupleItemsOf (.ref a) >>= _) _ _ s;refine wpAny_bind (wpAny_tupleItemsOf ho rfl ?_);refine wpAny_bind ?_;rw [<- Array.forIn_toList];refine wpAny_forIn_list _
    (fun rest (b:Array Int) s'=>∃ done left,xs=done++left/\Paired (Rep S s.heap.get?) left rest/\b.toList=hksH S.w done/\s'={ s with toks:=s.toks+hksD done })
    _ ?_ ?_ _ _ ⟨[],xs,rfl,rr,by simp [hksH],by simp [hksD]⟩
   ·rintro x rest b s' ⟨done,left,rfl,hl,hb,rfl⟩;cases hl with
    | @cons y _ ys _ h1 hl' =>
     refine wpAny_bind (ih (qT hd (by simp)) h1 (by first | exact Nat.lt_of_le_of_lt (Nat.le_of_eq (by show A.units+1+n=A.units+(n+1);omega)) hu | omega) ?_)
     first
      | exact wpAny_pure ⟨done++[y],ys,by simp,hl',by rw [nB];simp [hb],by rw [nC,Nat.add_assoc]⟩
      | exact wpAny_bind (wpAny_pure (wpAny_pure ⟨done++[y],ys,by simp,hl',by rw [nB];simp [hb],by rw [nC,Nat.add_assoc]⟩))
   ·rintro b s' ⟨done,left,rfl,hl,hb,rfl⟩;cases hl;rw [List.append_nil] at h;show wpAny _ _ (retInt (Builtin.Tuple.tupleHashOf b.toList)) _ _ _;rw [hb];refine wpAny_ret_mkInt ?_;show wpAny _ _ (if (decide (-(2:Int)^63<=Builtin.Tuple.tupleHashOf (hksH S.w done))&&decide (Builtin.Tuple.tupleHashOf (hksH S.w done) < 2^63))=true then _ else _) Q E _;rw [hkH,hkD] at h;unfold reduceHash at h
    by_cases hr:(decide (-(2:Int)^63<=Builtin.Tuple.tupleHashOf (hksH S.w done))&&decide (Builtin.Tuple.tupleHashOf (hksH S.w done) < 2^63))=true
    ·rw [if_pos hr];rw [if_pos hr] at h;exact wpAny_pure (by simpa [Nat.add_assoc] using h)
    ·rw [if_neg hr];rw [if_neg hr] at h;exact wpAny_bind (wpAny_rule (wpAny_pure (by simpa [Nat.add_assoc] using h)))
  | _=>simp [hkB] at hd
def aD7:∀ (n m:Nat) {d:PyData} {v:Value} {s:Shared} {Q:Bool->Shared->Prop},n<=m->hkB n d=true->Rep S s.heap.get? d v->Q true s->wpAny (model S.P S.w) A (eqIsQuiet m v) Q E s:=by
 intro n;induction n with
 | zero =>
  intro m d v s Q _ hd r h;cases d with
  | int i=>obtain ⟨t,rfl⟩:=rep_i.mp r;rw [eqIsQuiet_byValue _ rfl];exact wpAny_pure h
  | str x=>obtain ⟨⟨t,rfl⟩,_⟩:=rep_s.mp r;rw [eqIsQuiet_byValue _ rfl];exact wpAny_pure h
  | _=>simp [hkB] at hd
 | succ n ih =>
  intro m d v s Q hm hd r h;cases d with
  | int i=>obtain ⟨t,rfl⟩:=rep_i.mp r;rw [eqIsQuiet_byValue _ rfl];exact wpAny_pure h
  | str x=>obtain ⟨⟨t,rfl⟩,_⟩:=rep_s.mp r;rw [eqIsQuiet_byValue _ rfl];exact wpAny_pure h
  | tuple xs =>
   rw [hkB] at hd;obtain ⟨a,k,us,rfl,ho,rr⟩:=qU r;have hT:s.TypeIs (.ref a) "tuple":=⟨_,ho,rfl⟩;obtain ⟨m,rfl⟩:∃ k,m=k+1:=⟨m - 1,by omega⟩;unfold eqIsQuiet;refine wpAny_bind (wpAny_specialOf hT F.slot_tuple_eq.lookup ?_);show wpAny _ _ (isInstance (.ref a) (.type "tuple") >>= _) _ _ s;refine wpAny_bind (wpAny_isInstance hT isSubtype_tuple_tuple ?_);simp only [Bool.not_true,Bool.false_eq_true,if_false];refine wpAny_bind (wpAny_seqItems ho rfl ?_);refine wpAny_bind ?_;show wpAny _ _ (forIn us.toArray _ _) _ _ s;rw [<- Array.forIn_toList];refine wpAny_forIn_list _ (fun rest r s'=>r.1=none/\s'=s/\∃ done left,xs=done++left/\Paired (Rep S s.heap.get?) left rest) _ ?_ ?_ _ _ ⟨rfl,rfl,[],xs,rfl,rr⟩
   ·rintro v rest r s' ⟨hr,rfl,done,left,rfl,hl⟩;cases hl with
    | @cons y _ ys _ h1 hl' =>
     refine wpAny_bind (ih m (by omega) (qT hd (by simp)) h1 ?_);simp only [Bool.not_true,Bool.false_eq_true,if_false];exact wpAny_pure ⟨rfl,rfl,done++[y],ys,by simp,hl'⟩
   ·rintro ⟨r1,r2⟩ s' ⟨hr,rfl,_⟩;simp only at hr;subst hr;exact wpAny_pure h
  | _=>simp [hkB] at hd
def aR5 {Z Z':Zm} (k:∀ a o us n,Z a=some o->o.data=.seq us n->Z' a=some o):∀ (n:Nat) {d:PyData} {v:Value},hkB n d=true->Rep S Z d v->Rep S Z' d v:=by
 intro n;induction n with
 | zero =>
  intro d v hd r;cases d with
  | int i=>exact rep_i.mpr (rep_i.mp r)
  | str x=>exact rep_s.mpr (rep_s.mp r)
  | _=>simp [hkB] at hd
 | succ n ih =>
  intro d v hd r;cases d with
  | int i=>exact rep_i.mpr (rep_i.mp r)
  | str x=>exact rep_s.mpr (rep_s.mp r)
  | tuple xs =>
   rw [hkB] at hd;obtain ⟨a,o,us,rfl,z,⟨⟨m,rfl⟩,hz⟩,rr⟩:=rep_t.mp r;refine rep_t.mpr ⟨a,_,us,rfl,k _ _ _ _ z rfl,⟨⟨m,rfl⟩,hz⟩,?_⟩;clear r z hz;induction rr with
   | nil=>exact .nil
   | cons h1 _ ih2 =>
    rw [hksB,Bool.and_eq_true] at hd;exact .cons (ih hd.1 h1) (ih2 hd.2)
  | _=>simp [hkB] at hd
def bC9 {Z:Zm}:∀ (n m:Nat) {a b:PyData} {v:Value},hkB n a=true->hkB m b=true->Rep S Z a v->Rep S Z b v->a=b:=by
 intro n;induction n with
 | zero =>
  intro m a b v ha hb ra rb;cases a with
  | int i =>
   obtain ⟨t,rfl⟩:=rep_i.mp ra;cases b with
   | int j=>obtain ⟨t',e⟩:=rep_i.mp rb;cases e;rfl
   | str x=>obtain ⟨⟨t',e⟩,_⟩:=rep_s.mp rb;cases e
   | tuple x=>obtain ⟨_,_,_,e,_⟩:=rep_t.mp rb;cases e
   | _=>simp [hkB] at hb
  | str x =>
   obtain ⟨⟨t,rfl⟩,_⟩:=rep_s.mp ra;cases b with
   | int j=>obtain ⟨t',e⟩:=rep_i.mp rb;cases e
   | str x=>obtain ⟨⟨t',e⟩,_⟩:=rep_s.mp rb;cases e;rfl
   | tuple x=>obtain ⟨_,_,_,e,_⟩:=rep_t.mp rb;cases e
   | _=>simp [hkB] at hb
  | _=>simp [hkB] at ha
 | succ n ih =>
  intro m a b v ha hb ra rb;cases a with
  | int i =>
   obtain ⟨t,rfl⟩:=rep_i.mp ra;cases b with
   | int j=>obtain ⟨t',e⟩:=rep_i.mp rb;cases e;rfl
   | str x=>obtain ⟨⟨t',e⟩,_⟩:=rep_s.mp rb;cases e
   | tuple x=>obtain ⟨_,_,_,e,_⟩:=rep_t.mp rb;cases e
   | _=>simp [hkB] at hb
  | str x =>
   obtain ⟨⟨t,rfl⟩,_⟩:=rep_s.mp ra;cases b with
   | int j=>obtain ⟨t',e⟩:=rep_i.mp rb;cases e
   | str x=>obtain ⟨⟨t',e⟩,_⟩:=rep_s.mp rb;cases e;rfl
   | tuple x=>obtain ⟨_,_,_,e,_⟩:=rep_t.mp rb;cases e
   | _=>simp [hkB] at hb
  | tuple xs =>
   obtain ⟨a,k,us,rfl,z,rr⟩:=qU ra;cases b with
   | int j=>obtain ⟨t',e⟩:=rep_i.mp rb;cases e
   | str x=>obtain ⟨⟨t',e⟩,_⟩:=rep_s.mp rb;cases e
   | tuple ys =>
    cases m with
    | zero=>simp [hkB] at hb
    | succ m =>
     rw [hkB] at ha hb;obtain ⟨a',k',us',e,z',rr'⟩:=qU rb;cases e;rw [z] at z';injection z' with z'
     injection z' with _ _ z' _
     injection z' with z' _
     have e2:us=us':=by have:=congrArg Array.toList z';simpa using this
     subst e2;clear z z' ra rb
     congr 1
     induction rr generalizing ys with
     | nil=>cases rr';rfl
     | cons h1 _ ih2 =>
      cases rr' with
      | cons h2 t2 =>
       rw [hksB,Bool.and_eq_true] at ha hb;rw [ih m ha.1 hb.1 h1 h2,ih2 ha.2 _ hb.2 t2]
   | _=>simp [hkB] at hb
  | _=>simp [hkB] at ha
def hW (S:Sx):HeapKind S.P S.w HK where
 is:=fun h k a=>Rep S h.get? k.1 (.ref a)
 hash:=fun k=>hkH S.w k.1
 draws:=fun k=>hkD k.1
 room:=fun A=>A.units+5 < cLine
 inj:=fun {h a x y} hx hy=>Subtype.ext (bC9 4 4 x.2 y.2 hx hy)
 keeps:=fun {h h' k a d o es ep} hk ho hd hs=>aR5 (fun b ob us n e q=>(hs.2 b fun z=>by rw [z,ho] at e;cases e;rw [hd] at q;cases q).trans e) 4 k.2 hk
 pyHash:=fun {A E s k a Q} hu hk h=>aR4 4 k.2 hk (by omega) h
 eqBool:=fun {A E s x y a b Q} hu hx hy h=>by
  obtain ⟨⟨as,r1⟩,c1,d1⟩:=Rep.reads (hp:=s.heap) (fun _ _ e=>e) 4 hx (mZ x.2);obtain ⟨⟨bs,r2⟩,c2,d2⟩:=Rep.reads (hp:=s.heap) (fun _ _ e=>e) 4 hy (mZ y.2);exact SeqAt.eqBoolOverData _ _ A E s _ _ _ _ as bs Q r1 r2 c1 c2 (by have:=Nat.min_le_left x.1.depth y.1.depth;omega) (by rw [bQ9];exact h)
 quiet:=fun {A E s k a Q} hk h=>aD7 4 8 (by decide) k.2 hk h
end
end DL

namespace DL
open PySem PySem.Spec PyProof.Rows L2
noncomputable def bR0:List (Pos×Str)->List Addr->List Value
 | q::qs,c::cs=>rawInt q.1.line::rawInt q.1.col::.ref c::bR0 qs cs
 | _,_=>[]
def bR1 (Z:Zm) (q:Pos×Str) (c:Addr):Prop:=∃ o vs t,Z c=some o/\o.data=.fields vs/\vs[1]?=some (.str q.2 t)
def NdO (S:Sx) (h:Heap) (d:Addr) (xs:List (HK×Addr×Value)):Prop:=∃ o es ep,h.get? d=some o/\o.ExactDict/\o.data=.dict es ep/\es.toList=xs.map (entryOfKey (hW S))/\(xs.map (·.1)).Nodup
def iX (S:Sx) (Z:Zm):List (PyData×PyData)->List (HK×Addr×Value)->Prop:=Paired fun q x=>q.1=x.1.1/\Rep S Z q.1 (.ref x.2.1)/\Rep S Z q.2 x.2.2
abbrev cM (us:List Value) (n:Nat):Obj:={ cls:=.type "list",data:=.seq us.toArray n }
def CellOk (S:Sx) (M:Mp) (h:Heap) (p:Addr×Addr):Cell->Prop
 | .l xs=>∃ us n,h.get? p.1=some (cM us n)/\us.length<=sizeLine/\Reps' S M xs us
 | .r is=>∃ us n,h.get? p.1=some (cM us n)/\us.length<=sizeLine/\RepWs S M (is.map .c) us
 | .k kvs=>∃ vs,h.DictOf (bQ S.P S.w) p.1 vs/\RepK S M.Z kvs vs/\(p.1==sysModules)=false/\vs.length<=sizeLine
 | .n kvs=>∃ xs,NdO S h p.1 xs/\iX S M.Z kvs xs/\(p.1==sysModules)=false/\xs.length<=sizeLine
 | .t qs=>∃ cs,h.get? p.1=some { cls:=.none,data:=.fields (S.tb++(bR0 qs cs).toArray) }/\Paired (bR1 M.Z) qs cs/\p=(S.tp,S.tp)
 | .o C fs=>p.2≠p.1/\fs.length<=1000/\h.get? p.1=some (PySem.W.instObj C p.2)/\∃ mA,h.Ns1 p.2 mA/\(∀ f,RelO S M (fs.lookup f) (mA f))/\PySem.Within mA (fs.map (·.1))
def CellOk.go {S:Sx} {M M':Mp} {h h':Heap} {p:Addr×Addr} {c:Cell} (l:Le M M') (k:∀ a o,(a=p.1\/a=p.2)->h.get? a=some o->h'.get? a=some o) (x:CellOk S M h p c):CellOk S M' h' p c:=by
 cases c with
 | l xs=>obtain ⟨us,n,e,z,r⟩:=x;exact ⟨us,n,k _ _ (.inl rfl) e,z,r.go l⟩
 | r xs=>obtain ⟨us,n,e,z,r⟩:=x;exact ⟨us,n,k _ _ (.inl rfl) e,z,r.go l⟩
 | k xs=>obtain ⟨vs,⟨o,es,ep,e,q⟩,r,z⟩:=x;exact ⟨vs,⟨o,es,ep,k _ _ (.inl rfl) e,q⟩,r.go l,z⟩
 | t qs=>obtain ⟨cs,e,r,ep⟩:=x;exact ⟨cs,k _ _ (.inl rfl) e,tB (fun _ _ ⟨o,vs,t,a,b⟩=>⟨o,vs,t,l.z _ _ a,b⟩) r,ep⟩
 | n xs=>obtain ⟨vs,⟨o,es,ep,e,q⟩,r,z⟩:=x;exact ⟨vs,⟨o,es,ep,k _ _ (.inl rfl) e,q⟩,tB (fun _ _ t=>⟨t.1,Rep.go l.z t.2.1,Rep.go l.z t.2.2⟩) r,z⟩
 | o C fs=>obtain ⟨a,b,e,mA,⟨o,es,ep,e2,q⟩,r,z⟩:=x;exact ⟨a,b,k _ _ (.inl rfl) e,mA,⟨o,es,ep,k _ _ (.inr rfl) e2,q⟩,fun f=>(r f).go l,z⟩
def bV (κ:Kp) (M:Mp) (a:Addr):Prop:=M.Z a=none/\κ a=none/\∀ p∈M.m,p.1≠a/\p.2≠a
structure Mem (S:Sx) (κ:Kp) (M:Mp) (h:aA) (s:Shared):Prop where
 z:∀ a o,M.Z a=some o->s.heap.get? a=some o
 k:∀ a b o,κ a=some (b,o)->(b=true->s.heap.get? a=some o)/\(∃ sl,s.heap.get? a=some { o with slots:=sl })/\M.Z a=none
 len:M.m.length=h.length
 ap:∀ (i j:Nat) (p q:Addr×Addr),M.m[i]?=some p->M.m[j]?=some q->i≠j->p.1≠q.1/\p.1≠q.2/\p.2≠q.1/\p.2≠q.2
 off:∀ p∈M.m,∀ a,a=p.1\/a=p.2->M.Z a=none/\κ a=none/\∃ o,s.heap.get? a=some o
 cel:∀ (i:Nat) p c,M.m[i]?=some p->h[i]?=some c->CellOk S M s.heap p c
 base:∀ a o,S.base.get? a=some o->M.Z a=some o
 bare:AllBare s.gens
 os:s.os=S.os
section
variable {S:Sx} {κ:Kp} {M M':Mp} {h:aA} {s s':Shared} {h':Heap} {a:Addr} {o:Obj}
def Mem.bk (R:Mem S κ M h s):∀ b o,S.base.get? b=some o->s.heap.get? b=some o:=fun b o e=>R.z b o (R.base b o e)
def Mem.new (R:Mem S κ M h s) (e:s.heap.get? a=none):bV κ M a:=by
 refine ⟨?_,?_,fun p hp=>?_⟩
 ·cases q:M.Z a with
  | none=>rfl
  | some o=>rw [R.z a o q] at e;cases e
 ·cases q:κ a with
  | none=>rfl
  | some x=>obtain ⟨_,⟨_,z⟩,_⟩:=R.k a x.1 x.2 q;rw [z] at e;cases e
 ·refine ⟨fun z=>?_,fun z=>?_⟩
  ·obtain ⟨_,_,_,q⟩:=R.off p hp a (.inl z.symm);rw [q] at e;cases e
  ·obtain ⟨_,_,_,q⟩:=R.off p hp a (.inr z.symm);rw [q] at e;cases e
def Mem.size (R:Mem S κ M h s):bV κ M s.heap.objs.size:=R.new (Heap.get?_none_of_le (Nat.le_refl _))
def Mem.keep (R:Mem S κ M h s) (k:∀ b o,s.heap.get? b=some o->¬ bV κ M b->s'.heap.get? b=some o) (hg:AllBare s'.gens) (ho:s'.os=s.os):Mem S κ M h s' where
 z:=fun b o e=>k b o (R.z b o e) fun f=>by rw [f.1] at e;cases e
 k:=fun b t o e=>by
  have nf:¬ bV κ M b:=fun f=>by rw [f.2.1] at e;cases e
  obtain ⟨h1,⟨sl,h2⟩,h3⟩:=R.k b t o e;exact ⟨fun z=>k b o (h1 z) nf,⟨sl,k b _ h2 nf⟩,h3⟩
 len:=R.len
 ap:=R.ap
 off:=fun p hp b hb=>by
  obtain ⟨h1,h2,o,h3⟩:=R.off p hp b hb;exact ⟨h1,h2,o,k b o h3 fun f=>by rcases hb with e | e;exact (f.2.2 p hp).1 e.symm;exact (f.2.2 p hp).2 e.symm⟩
 cel:=fun i p c e1 e2=>(R.cel i p c e1 e2).go .refl fun b o hb q=>k b o q fun f=>by
  have hp:=List.mem_of_getElem? e1;rcases hb with e | e;exact (f.2.2 p hp).1 e.symm;exact (f.2.2 p hp).2 e.symm
 base:=R.base
 bare:=hg
 os:=ho.trans R.os
def Mem.kept {t:Nat} (R:Mem S κ M h s) (k:∀ b o,s.heap.get? b=some o->h'.get? b=some o):Mem S κ M h { s with heap:=h',toks:=t }:=R.keep (fun b o e _=>k b o e) R.bare rfl
def Mem.tok (R:Mem S κ M h s) (t:Nat):Mem S κ M h { s with toks:=t }:=R.kept (h':=s.heap) fun _ _ e=>e
noncomputable def Mp.add (M:Mp) (a:Addr) (o:Obj):Mp:=⟨fun b=>if b=a then some o else M.Z b,M.m⟩
def nD:(M.add a o).Z a=some o:=if_pos rfl
def Le.add (f:M.Z a=none):Le M (M.add a o):=⟨fun b u e=>by
 show (if b=a then some o else M.Z b)=some u;rw [if_neg (fun z=>by rw [z,f] at e;cases e)];exact e,[],by simp [Mp.add]⟩
def Mem.frz (R:Mem S κ M h s) (f:bV κ M a) (e:s.heap.get? a=some o):Mem S κ (M.add a o) h s where
 z:=fun b u q=>by
  by_cases hb:b=a
  ·subst hb;rw [nD] at q;cases q;exact e
  ·exact R.z b u (by rw [<- q];exact (if_neg hb).symm)
 k:=fun b t u q=>by
  obtain ⟨h1,h2,h3⟩:=R.k b t u q;refine ⟨h1,h2,?_⟩;show (if b=a then some o else M.Z b)=none;rw [if_neg (fun z=>by rw [z,f.2.1] at q;cases q)];exact h3
 len:=R.len
 ap:=R.ap
 off:=fun p hp b hb=>by
  obtain ⟨h1,h2,h3⟩:=R.off p hp b hb;refine ⟨?_,h2,h3⟩;show (if b=a then some o else M.Z b)=none;rw [if_neg (fun z=>by rcases hb with e | e;exact (f.2.2 p hp).1 (e.symm.trans z);exact (f.2.2 p hp).2 (e.symm.trans z))];exact h1
 cel:=fun i p c e1 e2=>(R.cel i p c e1 e2).go (.add f.1) fun _ _ _ q=>q
 base:=fun b u q=>(Le.add f.1).z b u (R.base b u q)
 bare:=R.bare
 os:=R.os
noncomputable def Mp.cel (M:Mp) (p:Addr×Addr):Mp:=⟨M.Z,M.m++[p]⟩
def Le.cel {p:Addr×Addr}:Le M (M.cel p):=⟨fun _ _ e=>e,[p],rfl⟩
def snoc_at {α:Type} {l:List α} {x y:α} {i:Nat} (e:(l++[x])[i]?=some y):l[i]?=some y\/(i=l.length/\y=x):=by
 by_cases hi:i < l.length
 ·rw [List.getElem?_append_left hi] at e;exact .inl e
 ·rw [List.getElem?_append_right (by omega)] at e;have:i - l.length=0:=by
   have:=(List.getElem?_eq_some_iff.mp e).1;simp at this;omega
  rw [this] at e;exact .inr ⟨by omega,by simpa using e.symm⟩
def Mem.add {p:Addr×Addr} {c:Cell} (R:Mem S κ M h s) (f:bV κ M p.1) (g:bV κ M p.2) (ep:(∃ o,s.heap.get? p.1=some o)/\∃ o,s.heap.get? p.2=some o) (x:CellOk S (M.cel p) s.heap p c):Mem S κ (M.cel p) (h++[c]) s where
 z:=R.z
 k:=R.k
 len:=by show (M.m++[p]).length=_;simp [R.len]
 ap:=fun i j q r e1 e2 ne=>by
  rcases snoc_at (show (M.m++[p])[i]?=some q from e1) with z1 | ⟨z1,y1⟩<;>rcases snoc_at (show (M.m++[p])[j]?=some r from e2) with z2 | ⟨z2,y2⟩
  ·exact R.ap i j q r z1 z2 ne
  ·have hq:=List.mem_of_getElem? z1;rw [y2];exact ⟨(f.2.2 q hq).1,(g.2.2 q hq).1,(f.2.2 q hq).2,(g.2.2 q hq).2⟩
  ·have hq:=List.mem_of_getElem? z2;rw [y1];exact ⟨(f.2.2 r hq).1.symm,(f.2.2 r hq).2.symm,(g.2.2 r hq).1.symm,(g.2.2 r hq).2.symm⟩
  ·omega
 off:=fun q hq b hb=>by
  rcases List.mem_append.mp (show q∈M.m++[p] from hq) with hq | hq
  ·exact R.off q hq b hb
  ·rw [List.mem_singleton.mp hq] at hb;rcases hb with e | e
   ·subst e;exact ⟨f.1,f.2.1,ep.1⟩
   ·subst e;exact ⟨g.1,g.2.1,ep.2⟩
 cel:=fun i q d e1 e2=>by
  rcases snoc_at (show (M.m++[p])[i]?=some q from e1) with e3 | ⟨e3,rfl⟩
  ·rw [List.getElem?_append_left (by rw [<- R.len];exact (List.getElem?_eq_some_iff.mp e3).1)] at e2;exact (R.cel i q d e3 e2).go .cel fun _ _ _ q=>q
  ·rcases snoc_at e2 with e2 | ⟨e2,rfl⟩
   ·have:=(List.getElem?_eq_some_iff.mp e2).1;rw [<- R.len] at this;omega
   ·exact x
 base:=R.base
 bare:=R.bare
 os:=R.os
def Mem.wr {i:Nat} {p:Addr×Addr} {c:Cell} (R:Mem S κ M h s) (ei:M.m[i]?=some p) (k:∀ b o,b≠p.1->b≠p.2->s.heap.get? b=some o->s'.heap.get? b=some o) (ep:(∃ o,s'.heap.get? p.1=some o)/\∃ o,s'.heap.get? p.2=some o)
  (hg:AllBare s'.gens) (ho:s'.os=s.os) (x:CellOk S M s'.heap p c):Mem S κ M (h.set i c) s':=by
 have hp:=List.mem_of_getElem? ei;have o1:=R.off p hp p.1 (.inl rfl);have o2:=R.off p hp p.2 (.inr rfl);refine ⟨fun b u e=>k b u (fun z=>?_) (fun z=>?_) (R.z b u e),fun b t u e=>?_,by rw [List.length_set];exact R.len,R.ap,fun q hq b hb=>?_,fun j q d e1 e2=>?_,R.base,hg,ho.trans R.os⟩
 ·rw [z,o1.1] at e;cases e
 ·rw [z,o2.1] at e;cases e
 ·obtain ⟨h1,⟨sl,h2⟩,h3⟩:=R.k b t u e;have n1:b≠p.1:=fun z=>by rw [z,o1.2.1] at e;cases e
  have n2:b≠p.2:=fun z=>by rw [z,o2.2.1] at e;cases e
  exact ⟨fun z=>k b u n1 n2 (h1 z),⟨sl,k b _ n1 n2 h2⟩,h3⟩
 ·obtain ⟨h1,h2,u,h3⟩:=R.off q hq b hb;refine ⟨h1,h2,?_⟩
  by_cases z1:b=p.1
  ·rw [z1];exact ep.1
  by_cases z2:b=p.2
  ·rw [z2];exact ep.2
  exact ⟨u,k b u z1 z2 h3⟩
 ·by_cases ij:i=j
  ·subst ij;rw [ei] at e1;cases e1;rw [List.getElem?_set_self (by rw [<- R.len];exact (List.getElem?_eq_some_iff.mp ei).1)] at e2;cases e2;exact x
  ·rw [List.getElem?_set_ne ij] at e2;obtain ⟨a1,a2,a3,a4⟩:=R.ap i j p q ei e1 ij;refine (R.cel j q d e1 e2).go .refl fun b u hb e=>k b u ?_ ?_ e
   ·rcases hb with z | z;exact fun y=>a1 (y.symm.trans z);exact fun y=>a2 (y.symm.trans z)
   ·rcases hb with z | z;exact fun y=>a3 (y.symm.trans z);exact fun y=>a4 (y.symm.trans z)
def Mem.less {κ':Kp} (R:Mem S κ' M h s) (k:∀ a x,κ a=some x->κ' a=some x):Mem S κ M h s :=
 ⟨R.z,fun a b o e=>R.k a b o (k a _ e),R.len,R.ap,fun p hp a ha=>(by
  obtain ⟨h1,h2,h3⟩:=R.off p hp a ha;refine ⟨h1,?_,h3⟩;cases q:κ a with
  | none=>rfl
  | some x=>rw [k a x q] at h2;cases h2),R.cel,R.base,R.bare,R.os⟩
noncomputable def Kp.up (κ:Kp) (a:Addr) (x:Bool×Obj):Kp:=fun b=>if b=a then some x else κ b
def nE {x:Bool×Obj}:κ.up a x a=some x:=if_pos rfl
def dT {x:Bool×Obj} {b:Addr} (h:b≠a):κ.up a x b=κ b:=if_neg h
def Mem.more {b:Bool} (R:Mem S κ M h s) (f:M.Z a=none/\∀ p∈M.m,p.1≠a/\p.2≠a) (e:s.heap.get? a=some o):Mem S (κ.up a (b,o)) M h s :=
 ⟨R.z,fun c t u q=>by
  by_cases hc:c=a
  ·subst hc;rw [nE] at q;cases q;exact ⟨fun _=>e,⟨_,e⟩,f.1⟩
  ·rw [dT hc] at q;exact R.k c t u q,R.len,R.ap,fun p hp c hc=>(by
  obtain ⟨h1,h2,h3⟩:=R.off p hp c hc;refine ⟨h1,?_,h3⟩;rw [dT fun z=>?_];exact h2;rcases hc with q | q;exact (f.2 p hp).1 (q.symm.trans z);exact (f.2 p hp).2 (q.symm.trans z)),R.cel,R.base,R.bare,R.os⟩
def Mem.kc {x:Bool×Obj} (R:Mem S κ M h s) (ea:κ a=some x):∀ p∈M.m,p.1≠a/\p.2≠a:=fun p hp =>
 have t:∀ b,b=p.1\/b=p.2->b≠a:=fun b hb z=>by
  have:=(R.off p hp b hb).2.1;rw [z,ea] at this;cases this
 ⟨t _ (.inl rfl),t _ (.inr rfl)⟩
def Mem.own {x:Bool×Obj} {b:Bool} (R:Mem S κ M h s) (ea:κ a=some x) (k:∀ b o,b≠a->s.heap.get? b=some o->s'.heap.get? b=some o) (e:s'.heap.get? a=some o) (hg:AllBare s'.gens) (ho:s'.os=s.os):Mem S (κ.up a (b,o)) M h s':=by
 have za:=(R.k a x.1 x.2 ea).2.2;have ca:∀ p∈M.m,p.1≠a/\p.2≠a:=R.kc ea;refine ⟨fun c u q=>k c u (fun z=>by rw [z,za] at q;cases q) (R.z c u q),fun c t u q=>?_,R.len,R.ap,fun p hp c hc=>?_,fun i p d e1 e2=>?_,R.base,hg,ho.trans R.os⟩
 ·by_cases hc:c=a
  ·subst hc;rw [nE] at q;cases q;exact ⟨fun _=>e,⟨_,e⟩,za⟩
  ·rw [dT hc] at q;obtain ⟨h1,⟨sl,h2⟩,h3⟩:=R.k c t u q;exact ⟨fun z=>k c u hc (h1 z),⟨sl,k c _ hc h2⟩,h3⟩
 ·obtain ⟨h1,h2,u,h3⟩:=R.off p hp c hc;have hca:c≠a:=by rcases hc with q | q;exact q ▸ (ca p hp).1;exact q ▸ (ca p hp).2
  exact ⟨h1,by rw [dT hca];exact h2,u,k c u hca h3⟩
 ·have hp:=List.mem_of_getElem? e1;refine (R.cel i p d e1 e2).go .refl fun c u hc q=>k c u ?_ q;rcases hc with q | q;exact q ▸ (ca p hp).1;exact q ▸ (ca p hp).2
end
end DL

namespace L2
open PySem
noncomputable def cP (s:Stmt):Arguments:=match s with
 | .FunctionDef _ a _ _ _ _ _ _ _ _=>a
 | _=>{ posonlyargs:=[],args:=[],vararg:=none,kwonlyargs:=[],kw_defaults:=[],kwarg:=none,defaults:=[] }
noncomputable def aX (s:Stmt):List Stmt:=match s with
 | .FunctionDef _ _ b _ _ _ _ _ _ _=>b
 | _=>[]
noncomputable def defScope (s:Stmt):Scope:=match s with
 | .FunctionDef _ _ _ _ _ _ sc _ _ _=>sc
 | _=>{ kind:=.module,names:=[],isGenerator:=false,isCoroutine:=false,more:=[] }
noncomputable def ixN (n:Nat) (i:Int):Option Nat:=if 0<=i then (if i < n then some i.toNat else none) else if -(n:Int)<=i then some (i+n).toNat else none
def atI {α:Type} (xs:List α) (i:Int):Option α:=(ixN xs.length i).bind fun j=>xs[j]?
end L2
namespace ST
open PySem PyProof.Rows
noncomputable def dd (ns:List Int):List Int:=ns.foldl step_dedup []
noncomputable def srt (ns:List Int):List Int:=ns.mergeSort fun a b=>decide (a<=b)
end ST
namespace DL
open PySem PySem.Spec PyProof.Rows L2
noncomputable def ref (h:aA):W->Option PyData
 | .d x=>some x
 | .c i=>match h[i]? with
  | some (.l xs)=>some (.list xs)
  | some (.k kvs)=>some (.dict kvs)
  | _=>none
noncomputable def bR2:W->List Nat
 | .c i=>[i]
 | _=>[]
def cRefs:Cell->List Nat
 | .o _ fs=>(fs.map fun p=>bR2 p.2).flatten
 | .r is=>is
 | _=>[]
def okP (h h1:aA):Prop:=∀ (i:Nat) (c:Cell),i < h.length->h1[i]?=some c->(∀ j∈cRefs c,j < h.length)\/h[i]?=some c
noncomputable def isSame:PyData->PyData->Option Bool
 | .none,.none=>some true
 | .bool a,.bool b=>some (a==b)
 | .none,.bool _=>some false
 | .bool _,.none=>some false
 | .int _,.none=>some false
 | .int _,.bool _=>some false
 | .str _,.none=>some false
 | .str _,.bool _=>some false
 | .list _,.none=>some false
 | .list _,.bool _=>some false
 | .tuple _,.none=>some false
 | .tuple _,.bool _=>some false
 | _,_=>none
noncomputable def eT:List PyData->Option (List Bool)
 | []=>some []
 | .bool b::r=>(eT r).map (b::·)
 | _::_=>none
noncomputable def dU:PyData->String
 | .none=>"NoneType"
 | .bool _=>"bool"
 | .int _=>"int"
 | .str _=>"str"
 | .list _=>"list"
 | .tuple _=>"tuple"
 | .dict _=>"dict"
def isi (d:PyData) (T:String):Bool:=dU d==T||(dU d=="bool"&&T=="int")
def mL (kvs:List (PyData×PyData)) (k v:PyData):List (PyData×PyData) :=
 if (kvs.any fun p=>decide (cC p.1=cC k))=true then kvs.map (fun p=>if cC p.1=cC k then (p.1,v) else p) else kvs++[(k,v)]
def putN (kvs:List (PyData×PyData)) (k v:PyData):List (PyData×PyData) :=
 if (kvs.any fun p=>CI.peq p.1 k)=true then kvs.map (fun p=>if CI.peq p.1 k=true then (p.1,v) else p) else kvs++[(k,v)]
noncomputable def fY:PyData->Bool
 | .tuple _=>true
 | _=>false
noncomputable def fF (f:Str) (w:W):List (Str×W)->List (Str×W)
 | []=>[(f,w)]
 | (g,x)::r=>if g=f then (g,w)::r else (g,x)::fF f w r
def cut (xs:List PyData) (lo hi:Option Int):List PyData:=(xs.drop (HT.sIx xs.length 0 lo)).take (HT.sIx xs.length xs.length hi - HT.sIx xs.length 0 lo)
noncomputable def aY (ixs:List (Option Nat)) (δ:DSt):DSt:=ixs.map fun o=>o.bind fun i=>(δ[i]?).bind id
noncomputable def dI (N:List Str) (ws:List W):DSt:=ws.map some++List.replicate (N.length - ws.length) none
noncomputable def rng (lo:Int) (n:Nat):List PyData:=(List.range n).map fun (i:Nat)=>.int (lo+(i:Int))
noncomputable def jJ:W->Option (List PyData)
 | .d (.list xs)=>some xs
 | .d (.tuple xs)=>some xs
 | _=>none
noncomputable def kT (xs ys:List PyData):List PyData:=List.zipWith (fun x y=>.tuple [x,y]) xs ys
noncomputable def enumF (k:Nat):List PyData->List PyData
 | []=>[]
 | x::r=>.tuple [.int k,x]::enumF (k+1) r
def bF (xs:List PyData):List PyData:=enumF 0 xs
noncomputable def dQ:List PyData->Option (List Int)
 | []=>some []
 | .int i::r=>(dQ r).map (i::·)
 | _=>none
noncomputable def gI:List W->Option (List PyData)
 | []=>some []
 | .d x::r=>(gI r).map (x::·)
 | _::_=>none
end DL

namespace CI
open PySem PySem.Spec PyProof.Rows L2 DL ST

abbrev XR (α:Type):=DSt->aA->Option (α×aA)
set_option genInjectivity true in
inductive Fl where
 | nx (δ:DSt) | rt (w:W) | bk (δ:DSt) | ct (δ:DSt)
abbrev XS:=DSt->aA->Option (Fl×aA)
abbrev XG:=W->DSt->aA->Option (DSt×aA)
abbrev XF:=List W->aA->Option (PyData×aA)
abbrev XFW:=List W->aA->Option (W×aA)
structure ObS where
 fnW:Str->Option XFW
 cls:Str->Option (Addr×XFW)
 om:Str->Option (Addr×XFW)
 fo:Addr->Str->Bool
noncomputable def xno {α:Type}:XR α:=fun _ _=>none
noncomputable def aD {α:Type} (a:α):XR α:=fun _ h=>some (a,h)
noncomputable def xb {α β:Type} (x:XR α) (f:α->XR β):XR β:=fun δ h=>(x δ h).bind fun p=>f p.1 δ p.2
structure Sta where
 bl:List Str
 gc:Str->Option PyData
 tk:Str->Option (Str->Option Int)
 fn:Str->Option XF
 ac:Str->List Nat
 cv:List Str
 N:List Str
 S:Scope
 top:Bool
 fuel:Nat
 ob:ObS
 qn:Option (Str×Pos)
structure Evs where
 E:Sta->Expr->XR W
 T:Sta->Expr->XR Bool
 F:Sta->Expr->XR (List PyData)
 G:Sta->Expr->XG
 S:Sta->Stmt->XS
def Evs.no:Evs:=⟨fun _ _=>xno,fun _ _=>xno,fun _ _=>xno,fun _ _ _ _ _=>none,fun _ _ _ _=>none⟩

noncomputable def cG (x:Str):Bool:=!(x==("__debug__":Str))&&(!(x==("__classdict__":Str))&&!(x==("__name__":Str)))
noncomputable def bD0 (S:Scope) (x:Str):Bool:=match S.names.lookup x with
 | some .local=>true
 | some .cell=>true
 | some .free=>true
 | _=>false
noncomputable def oS (S:Scope) (x:Str):Bool:=match S.names.lookup x with
 | some .local=>true
 | some .cell=>true
 | _=>false
noncomputable def dJ (S:Scope) (x:Str):Bool:=match S.names.lookup x with
 | some .local=>true
 | _=>false
noncomputable def glB (S:Scope) (x:Str):Bool:=match S.names.lookup x with
 | some .globalImplicit=>true
 | _=>false
noncomputable def slot (st:Sta) (x:Str):Option Nat:=st.N.findIdx? (·==x)
noncomputable def aB (i:Nat):XR W:=fun δ h=>match δ[i]? with
 | some (some w)=>some (w,h)
 | _=>none
def dF (st:Sta) (x:Str):Bool:=cG x&&glB st.S x
def aD8 (st:Sta) (x:Str):XR W:=if cG x=true then
  (match slot st x with
   | some i=>if bD0 st.S x=true then aB i else xno
   | none=>(match st.gc x with
    | some d=>if glB st.S x=true then aD (.d d) else xno
    | none=>xno))
 else xno
def aD9:Const->XR W
 | .none=>aD (.d .none)
 | .bool b=>aD (.d (.bool b))
 | .int i=>aD (.d (.int i))
 | .str x=>if PyData.strOk x=true then aD (.d (.str x)) else xno
 | _=>xno

noncomputable def gW (i j:Int):Bool:=(decide (-(2^64) < i)&&decide (i < 2^64))||(decide (-(2^64) < j)&&decide (j < 2^64))
noncomputable def bA (j:Int):Bool:=decide (0 < j)&&(decide (j < 1073741824)||decide (j.natAbs.log2 < 8000))
noncomputable def wX (i j:Int):Bool:=decide (0<=j)&&(decide (j<=1000000)&&decide (i.natAbs < 2^64))
def aR6 (u w:W) (h:aA):Option (W×aA):=match u,w with
 | .d (.int i),.d (.int j)=>some (.d (.int (i+j)),h)
 | .d (.tuple xs),.d (.tuple ys)=>if xs.length+ys.length<=sizeLine then some (.d (.tuple (xs++ys)),h) else none
 | _,_=>(match ref h u,ref h w with
  | some (.list xs),some (.list ys)=>if xs.length+ys.length<=sizeLine then some (.d (.list (xs++ys)),h) else none
  | _,_=>none)
def bR3 (u w:W) (h:aA):Option (W×aA):=match u,w with
 | .d (.int i),.d (.int j)=>if gW i j=true then some (.d (.int (i*j)),h) else none
 | _,_=>none
def dA (op:Operator) (u w:W) (h:aA):Option (W×aA):=match op with
 | .Add=>aR6 u w h
 | .Mult=>bR3 u w h
 | _=>(match u,w with
  | .d (.int i),.d (.int j)=>(match op with
   | .Sub=>some (.d (.int (i - j)),h)
   | .FloorDiv=>if bA j=true then some (.d (.int (i / j)),h) else none
   | .Mod=>if 0 < j then some (.d (.int (i%j)),h) else none
   | .Pow=>if wX i j=true then some (.d (.int (i^j.toNat)),h) else none
   | .RShift=>if 0<=j then some (.d (.int (i / 2^j.toNat)),h) else none
   | .BitAnd=>some (.d (.int (Builtin.bitAnd i j)),h)
   | _=>none)
  | _,_=>none)
noncomputable def cK3:CmpOp->Option (Int->Int->Bool)
 | .Lt=>some fun i j=>decide (i < j)
 | .LtE=>some fun i j=>decide (i<=j)
 | .Gt=>some fun i j=>decide (j < i)
 | .GtE=>some fun i j=>decide (j<=i)
 | _=>none
def xEq (u w:W) (h:aA):Option Bool:=match ref h u,ref h w with
 | some a,some b=>if (aN 64 a&&aN 64 b)=true then some (PyData.eqv a b) else none
 | _,_=>none
def xIs (u w:W):Option Bool:=match u,w with
 | .d a,.d b=>DL.isSame a b
 | _,_=>none
noncomputable def tC (w:W) (h:aA):Option (List (PyData×PyData)):=match w with
 | .c j=>(match h[j]? with
  | some (.n kvs)=>some kvs
  | _=>none)
 | _=>none
def bD1 (d:PyData) (w:W) (h:aA):Option Bool:=(tC w h).bind fun kvs=>if (fY d&&hkB 4 d)=true then some (kvs.any fun p=>peq p.1 d) else none
def cK4 (d:PyData) (w:W) (h:aA):Option (W×aA):=(tC w h).bind fun kvs=>if (fY d&&hkB 4 d)=true then (kvs.find? fun p=>peq p.1 d).map fun p=>(.d p.2,h) else none
def xIn (u w:W) (h:aA):Option Bool:=match ref h u,ref h w with
 | some d,some (.list xs)=>if (aN 64 (.list xs)&&aN 64 d)=true then some (xs.any fun z=>PyData.eqv z d) else none
 | some d,some (.tuple xs)=>if (aN 64 (.tuple xs)&&aN 64 d)=true then some (xs.any fun z=>PyData.eqv z d) else none
 | some d,some (.dict kvs)=>(match cC d with
  | some k=>some (kvs.any fun p=>decide (cC p.1=some k))
  | none=>if (kvs.isEmpty&&(fY d&&hkB 4 d))=true then some false else none)
 | some d,none=>bD1 d w h
 | _,_=>none
def eU (op:CmpOp) (u w:W) (h:aA):Option (Bool×aA):=match op with
 | .Eq=>(xEq u w h).map fun b=>(b,h)
 | .NotEq=>(xEq u w h).map fun b=>(!b,h)
 | .Is=>(xIs u w).map fun b=>(b,h)
 | .IsNot=>(xIs u w).map fun b=>(!b,h)
 | .In=>(xIn u w h).map fun b=>(b,h)
 | .NotIn=>(xIn u w h).map fun b=>(!b,h)
 | _=>(match u,w with
  | .d (.int i),.d (.int j)=>(cK3 op).map fun p=>(p i j,h)
  | _,_=>none)
noncomputable def asW (p:Bool×aA):W×aA:=(.d (.bool p.1),p.2)
def xIr (u:W) (k:Int) (h:aA):Option (W×aA):=match u with
 | .c j=>(match h[j]? with
  | some (.r is)=>(atI is k).map fun m=>(.c m,h)
  | _=>none)
 | _=>none
def xIx (u w:W) (h:aA):Option (W×aA):=match ref h u,w with
 | some (.list xs),.d (.int i)=>(atI xs i).map fun v=>(.d v,h)
 | some (.tuple xs),.d (.int i)=>(atI xs i).map fun v=>(.d v,h)
 | some (.dict kvs),.d d=>(match cC d with
  | some k=>(kvs.find? fun p=>decide (cC p.1=some k)).map fun p=>(.d p.2,h)
  | none=>none)
 | none,.d (.int k)=>xIr u k h
 | none,.d (.tuple ks)=>cK4 (.tuple ks) u h
 | _,_=>none
def xSl (u:W) (lo hi:Option Int) (h:aA):Option (W×aA):=match u with
 | .d (.tuple xs)=>some (.d (.tuple (cut xs lo hi)),h)
 | _=>(match ref h u with
  | some (.list xs)=>some (.d (.list (cut xs lo hi)),h)
  | _=>none)

noncomputable def bR4 (w:W) (h:aA):Option Nat:=match w with
 | .c j=>(match h[j]? with
  | some (.r is)=>some is.length
  | some (.n kvs)=>some kvs.length
  | _=>none)
 | _=>none
def bJ:List W->aA->Option (W×aA)
 | [w],h=>(match ref h w with
  | some (.list xs)=>some (.d (.int xs.length),h)
  | some (.tuple xs)=>some (.d (.int xs.length),h)
  | none=>(bR4 w h).map fun n=>(.d (.int n),h)
  | _=>none)
 | _,_=>none
def bX:List W->aA->Option (W×aA)
 | [w],h=>(match ref h w with
  | some (.list xs)=>some (.d (.tuple xs),h)
  | some (.tuple xs)=>some (.d (.tuple xs),h)
  | _=>none)
 | _,_=>none
def iY:List W->aA->Option (W×aA)
 | [w],h=>(match ref h w with
  | some (.list xs)=>(eT xs).map fun bs=>(.d (.bool (bs.all id)),h)
  | _=>none)
 | _,_=>none
noncomputable def aE0:List W->aA->Option (W×aA)
 | [.d (.bool b)],h=>some (.d (.int (if b then 1 else 0)),h)
 | _,_=>none
noncomputable def pdS:(x:PyData)->Option {y:Int×PyData // x=.tuple [.int y.1,y.2]}
 | .tuple [.int k,v]=>some ⟨(k,v),rfl⟩
 | _=>none
def hZ:List PyData->Option (List (PyData×PyData))
 | []=>some []
 | x::r=>(pdS x).bind fun y=>(hZ r).map ((.int y.1.1,y.1.2)::·)
def qV (kvs:List (PyData×PyData)):List (PyData×PyData):=kvs.foldl (fun a p=>mL a p.1 p.2) []
def bD2 (x:Str):Option (List W->aA->Option (W×aA)) :=
 if x="len" then some bJ else if x="tuple" then some bX else if x="all" then some iY else if x="int" then some aE0 else none
noncomputable def aR7 (T:Str):Option String :=
 if T="int" then some "int" else if T="bool" then some "bool" else if T="str" then some "str" else if T="tuple" then some "tuple" else if T="list" then some "list" else none

abbrev Cw:=Option (Nat×Bool)
def condB:Cw->List PyData->aA->Bool
 | none,_,_=>true
 | some (i,e),xs,h=>(match h[i]? with
  | some (.l ys)=>peqs (if e=true then bF ys else ys) xs
  | _=>false)
def jK (u:W) (h:aA):Option ((List PyData×Cw)×aA):=match jJ u with
 | some xs=>some ((bF xs,none),h)
 | none=>(match u with
  | .c i=>(match h[i]? with
   | some (.l xs)=>some ((bF xs,some (i,true)),h)
   | _=>none)
  | _=>none)

def aW (g:XG) (tb:XS) (c:Cw) (all:List PyData):List PyData->DSt->aA->Option (Fl×aA)
 | [],δ,h=>if condB c all h=true then some (.nx δ,h) else none
 | x::r,δ,h=>if condB c all h=true then
   (g (.d x) δ h).bind fun p=>(tb p.1 p.2).bind fun q=>(match q.1 with
    | .nx δ'=>aW g tb c all r δ' q.2
    | .ct δ'=>aW g tb c all r δ' q.2
    | .bk δ'=>some (.nx δ',q.2)
    | .rt w=>some (.rt w,q.2))
  else none
def aQ (g:XG) (tt:XR Bool) (te:XR W) (c:Cw) (all:List PyData):List PyData->DSt->aA->List PyData->Option (List PyData×aA)
 | [],_,h,ac=>if condB c all h=true then some (ac,h) else none
 | x::r,δ,h,ac=>if condB c all h=true then
   (g (.d x) δ h).bind fun p=>(tt p.1 p.2).bind fun q=>if q.1=true then
     (te p.1 q.2).bind fun y=>(match y.1 with
      | .d z=>aQ g tt te c all r p.1 y.2 (ac++[z])
      | _=>none)
    else aQ g tt te c all r p.1 q.2 ac
  else none

noncomputable def aH:Expr->Bool
 | .Starred _ _=>false
 | _=>true
noncomputable def bB (x:XR (List PyData)):XR W:=fun δ h=>(x δ h).bind fun p=>some (.c p.2.length,p.2++[.l p.1])
noncomputable def aJ (x:XR (List PyData)):XR W:=fun δ h=>(x δ h).bind fun p=>some (.d (.list p.1),p.2)
def lU (f:Str->Option Int) (x:XR W):XR Bool:=xb x fun w=>(match w with
 | .d (.str s)=>aD (!(f s).isSome)
 | .d .none=>aD true
 | _=>xno)
def xC1 (op:CmpOp) (x y:XR W):XR Bool:=xb x fun u=>xb y fun w=>fun _ h=>eU op u w h
def xC2 (op op':CmpOp) (x y z:XR W):XR Bool:=xb x fun u=>xb y fun w=>fun δ h=>(eU op u w h).bind fun p=>if p.1=true then (z δ p.2).bind fun q=>eU op' w q.1 q.2 else some (false,p.2)
def xC3 (op op' op'':CmpOp) (x y z t:XR W):XR Bool:=xb x fun u=>xb y fun w=>fun δ h=>(eU op u w h).bind fun p =>
 if p.1=true then (z δ p.2).bind fun q=>(eU op' w q.1 q.2).bind fun p'=>if p'.1=true then (t δ p'.2).bind fun q'=>eU op'' q.1 q'.1 q'.2 else some (false,p'.2) else some (false,p.2)
def cT (x:XR Bool):XR W:=fun δ h=>(x δ h).map asW
noncomputable def kU:List XG->List PyData->DSt->aA->Option (DSt×aA)
 | [],[],δ,h=>some (δ,h)
 | g::gs,x::xs,δ,h=>(g (.d x) δ h).bind fun p=>kU gs xs p.1 p.2
 | _,_,_,_=>none
def bK (gs:List XG):XG:=fun w δ h=>(match w with
 | .d (.tuple xs)=>kU gs xs δ h
 | _=>none)
section
variable (v:Evs) (st:Sta)
def aV:List Expr->XR (List W)
 | []=>aD []
 | e::es=>if aH e=true then xb (v.E st e) fun w=>xb (aV es) fun ws=>aD (w::ws) else xno
noncomputable def aE1:Expr->Bool
 | .Name _ _=>true
 | _=>false
def iZ (l:List Nat):Nat->List Expr->XR (List W)
 | _,[]=>aD []
 | n,e::es=>if aH e=true then xb (if (l.contains n&&!aE1 e)=true then bB (v.F st e) else v.E st e) fun w=>xb (iZ l (n+1) es) fun ws=>aD (w::ws) else xno
def kW:Option Expr->XR (Option Int)
 | none=>aD none
 | some e=>xb (v.E st e) fun w=>(match w with
  | .d (.int i)=>aD (some i)
  | _=>xno)
def aE2:List Expr->XR W
 | []=>xno
 | [a]=>v.E st a
 | a::b::r=>xb (v.E st a) fun w=>(match w with
  | .d (.bool true)=>aE2 (b::r)
  | .d (.bool false)=>aD (.d (.bool false))
  | _=>xno)
def bD3:List Expr->XR W
 | []=>xno
 | [a]=>v.E st a
 | a::b::r=>xb (v.E st a) fun w=>(match w with
  | .d (.bool true)=>aD (.d (.bool true))
  | .d (.bool false)=>bD3 (b::r)
  | _=>xno)
def aE3:List Expr->XR Bool
 | []=>xno
 | [a]=>v.T st a
 | a::b::r=>xb (v.T st a) fun c=>if c=true then aE3 (b::r) else aD false
def bD4:List Expr->XR Bool
 | []=>xno
 | [a]=>v.T st a
 | a::b::r=>xb (v.T st a) fun c=>if c=true then aD true else bD4 (b::r)
def jL:Expr->Option (Str->Option Int)
 | .Name x _=>if dF st x&&(slot st x).isNone then st.tk x else none
 | _=>none
def gE (a:Expr) (ops:List CmpOp) (cs:List Expr):XR Bool:=match ops,cs with
 | [op],[b]=>(match jL st b with
  | some f=>if op=.NotIn then lU f (v.E st a) else xno
  | none=>if behindInMarks op b=true then xno else xC1 op (v.E st a) (v.E st b))
 | [op,op'],[b,c]=>if lastMarks [op,op'] [b,c]=true then xno else xC2 op op' (v.E st a) (v.E st b) (v.E st c)
 | _,_=>xno
def kX (a:Expr) (ops:List CmpOp) (cs:List Expr):XR Bool:=match ops,cs with
 | [op,op',op''],[b,c,d]=>if lastMarks [op,op',op''] [b,c,d]=true then xno else xC3 op op' op'' (v.E st a) (v.E st b) (v.E st c) (v.E st d)
 | _,_=>gE v st a ops cs
noncomputable def fN (i j:Int):Bool:=decide (j - i<=16000000)&&(decide (-(2^62)<=i)&&(decide (i < 2^62)&&(decide (-(2^62)<=j)&&decide (j < 2^62))))
def aZ (x:XR W):XR (List PyData×Cw):=xb x fun w=>fun _ h=>(match w with
 | .d (.list xs)=>some ((xs,none),h)
 | .d (.tuple xs)=>some ((xs,none),h)
 | .c i=>(match h[i]? with
  | some (.l xs)=>some ((xs,some (i,false)),h)
  | _=>none)
 | _=>none)
noncomputable def jM:Expr->Bool
 | .Set _ _ _=>true
 | _=>false
noncomputable def wY:Expr->Bool
 | .Tuple _ _ _=>true
 | _=>false
noncomputable def itS:(e:Expr)->Option {y:Str×Expr×Option Expr // ∃ p q,e=.Call (.Name y.1 p) (y.2.1::y.2.2.toList) [] q}
 | .Call (.Name x p) [a] [] q=>some ⟨(x,a,none),p,q,rfl⟩
 | .Call (.Name x p) [a,b] [] q=>some ⟨(x,a,some b),p,q,rfl⟩
 | _=>none
def pC (tg e:Expr):XR (List PyData×Cw):=match itS e with
 | some ⟨(x,a,none),_⟩=>if x="range" then (if dF st x&&(slot st x).isNone&&st.bl.contains x&&aH a then xb (v.E st a) fun w=>fun _ h=>(match w with
   | .d (.int j)=>if fN 0 j=true then some ((rng 0 j.toNat,none),h) else none
   | _=>none) else xno)
  else if x="enumerate" then (if dF st x&&(slot st x).isNone&&st.bl.contains x&&aH a&&wY tg then xb (v.E st a) fun u=>fun _ h=>jK u h else xno)
  else aZ (v.E st e)
 | some ⟨(x,a,some b),_⟩=>if x="range" then (if dF st x&&(slot st x).isNone&&st.bl.contains x&&aH a&&aH b then xb (v.E st a) fun u=>xb (v.E st b) fun w=>fun _ h=>(match u,w with
   | .d (.int i),.d (.int j)=>if fN i j=true then some ((rng i (j - i).toNat,none),h) else none
   | _,_=>none) else xno)
  else if x="zip" then (if dF st x&&(slot st x).isNone&&st.bl.contains x&&aH a&&aH b&&wY tg then xb (v.E st a) fun u=>xb (v.E st b) fun w=>fun _ h=>(match jJ u,jJ w with
   | some xs,some ys=>some ((kT xs ys,none),h)
   | _,_=>none) else xno)
  else aZ (v.E st e)
 | none=>if jM e=true then xno else aZ (v.E st e)
noncomputable def zF (sc:Scope):List Str:=(sc.names.filter fun p=>(p.2==.local||p.2==.free)&&!(p.1==(".0":Str))).map (·.1)
def pE (N:List Str) (sc:Scope):List (Option Nat):=(zF sc).map fun x=>if sc.names.lookup x=some .free then N.findIdx? (·==x) else none
noncomputable def bD5 (sc S:Scope):Scope:={ sc with names:=sc.names.map fun (n,k)=>if (k==.free&&S.kind==.function&&S.names.lookup n==some .cell) then (n,.cell) else (n,k) }
def tE (N:List Str) (sc S:Scope):Bool :=
 decide (sc.kind=.function)&&((sc.names.all fun y=>!(y.2==.cell))&&((sc.names.all fun y=>!(y.2==.local)||(sc.names.lookup y.1==some .local)) &&
  ((sc.names.all fun y=>!(y.2==.free)||(S.names.lookup y.1==some .cell||S.names.lookup y.1==some .free))&&(decide (zF sc).Nodup &&
   (((pE N sc).zip (zF sc)).all fun p=>match p.1 with
    | none=>true
    | some i=>decide (N[i]?=some p.2)&&decide (sc.names.lookup p.2=some NameKind.free))))))
def Sta.blk (sc:Scope):Sta:={ st with N:=zF sc,S:=bD5 sc st.S,top:=false,qn:=none }
def aR8:List Expr->XR Bool
 | []=>aD true
 | [c]=>v.T st c
 | _=>xno
def lV (elt tg iter:Expr) (ifs:List Expr) (sc:Scope):XR (List PyData) :=
 if tE st.N sc st.S&&!jM iter then xb (pC v st tg iter) fun p=>fun δ h=>aQ (v.G (st.blk sc) tg) (aR8 v (st.blk sc) ifs) (v.E (st.blk sc) elt) p.2 p.1 p.1 (aY (pE st.N sc) δ) h [] else xno
def qW:List W->aA->Option (List PyData×aA)
 | [w],h=>(match ref h w with
  | some (.list xs)=>(dQ xs).bind fun ns=>if ns.length < 64 then some ((ST.srt ns).map .int,h) else none
  | some (.tuple xs)=>(dQ xs).bind fun ns=>if ns.length < 64 then some ((ST.srt ns).map .int,h) else none
  | _=>none)
 | _,_=>none
def xPl (x:XR (List W)):XR (List PyData):=xb x fun ws=>fun _ h=>(match gI ws with
 | some xs=>if xs.length<=sizeLine then some (xs,h) else none
 | none=>none)
noncomputable def rgS:(l:List Expr)->Option {b:Expr // ∃ p q,l=[.Call (.Name "range" p) [b] [] q]}
 | [.Call (.Name y p) [b] [] q]=>if h:y="range" then some ⟨b,p,q,by rw [h]⟩ else none
 | _=>none
def rgA (l:List Expr):Option Expr:=(rgS l).map (·.1)
def okC (x:Str):Bool:=dF st x&&(slot st x).isNone&&st.bl.contains x
def cI (e:Expr):XR (List PyData):=match e with
 | .List es _=>xPl (aV v st es)
 | .ListComp elt [⟨tg,iter,ifs,a⟩] sc _=>if a=0 then lV v st elt tg iter ifs sc else xno
 | .Subscript a (.Slice lo hi none _) _=>xb (v.E st a) fun x=>xb (kW v st lo) fun l=>xb (kW v st hi) fun u=>fun _ h=>(match ref h x with
  | some (.list xs)=>some (cut xs l u,h)
  | _=>none)
 | .Subscript a (.Slice none none (some k) _) _=>xb (v.E st a) fun x=>xb (kW v st (some k)) fun o=>fun _ h=>(match ref h x with
  | some (.list xs)=>if o=some (-1) then some (xs.reverse,h) else none
  | _=>none)
 | .BinOp a .Add b _=>xb (v.E st a) fun u=>xb (v.E st b) fun w=>fun _ h=>(match ref h u,ref h w with
  | some (.list xs),some (.list ys)=>if xs.length+ys.length<=sizeLine then some (xs++ys,h) else none
  | _,_=>none)
 | .BinOp (.List es p) .Mult b _=>xb (bB (xPl (aV v st es))) fun u=>xb (v.E st b) fun w=>fun _ h=>(match u,w with
  | .c i,.d (.int k)=>(match h[i]? with
   | some (.l xs)=>if -(2^63)<=k/\k < 2^63/\xs.length*k.toNat<=sizeLine then some ((List.replicate k.toNat xs).flatten,h) else none
   | _=>none)
  | _,_=>none)
 | .Call (.Name x _) (a::es) [] _=>if x="list" then (match rgA (a::es) with
  | some b=>if okC st x&&okC st "range"&&aH b then xb (aV v st [b]) fun ws=>fun _ h=>(match ws with
   | [.d (.int j)]=>if -(2^62)<=j/\j < 2^62/\j<=16000000 then some (rng 0 j.toNat,h) else none
   | _=>none) else xno
  | none=>if dF st x&&(slot st x).isNone&&st.bl.contains x then xb (aV v st (a::es)) fun ws=>fun _ h=>(match ws with
  | [w]=>(match ref h w with
   | some (.list xs)=>some (xs,h)
   | some (.tuple xs)=>some (xs,h)
   | _=>none)
  | _=>none) else xno) else if x="sorted" then (if okC st x then xb (aV v st (a::es)) fun ws=>fun _ h=>qW ws h else xno) else xno
 | _=>xno
noncomputable def uU:Expr->Bool
 | .Slice _ _ _ _=>true
 | _=>false
noncomputable def iA:Expr->Bool
 | .Call _ _ _ _=>false
 | _=>true
noncomputable def zG (o:W) (ws:List W) (h:aA):Option (W×aA):=match o,ws with
 | .c j,[.d x]=>(match h[j]? with
  | some (.l xs)=>if xs.length < sizeLine then some (.d .none,h.set j (.l (xs++[x]))) else none
  | _=>none)
 | .c j,[.c k]=>(match h[j]? with
  | some (.r is)=>if is.length < sizeLine then some (.d .none,h.set j (.r (is++[k]))) else none
  | _=>none)
 | _,_=>none
def bD6 (m:Str):Option (W->List W->aA->Option (W×aA)) :=
 if m="append" then some zG
 else if m="index" then some fun o ws h=>(match o,ws with
  | .d (.list xs),[.d d]=>if (aN 64 (.list xs)&&aN 64 d)=true then (xs.findIdx? (fun z=>PyData.eqv z d)).map fun (j:Nat)=>(.d (.int j),h) else none
  | _,_=>none)
 else none
noncomputable def gJ (m:Str) (w:W) (h:aA):Bool:=if m="append" then (match w with
  | .c j=>(match h[j]? with
   | some (.l _)=>true
   | some (.r _)=>true
   | _=>false)
  | _=>false) else true
def aZ5 (o:Expr) (m:Str) (g:W->List W->aA->Option (W×aA)) (args:List Expr):XR W:=xb (v.E st o) fun w=>fun δ h=>if gJ m w h=true then (aV v st args δ h).bind fun p=>g w p.1 p.2 else none
def zH (j:Nat) (ws:List W) (h:aA):Option (W×aA):=match ws,h[j]? with
 | [.d (.int i)],some (.l xs)=>(ixN xs.length i).bind fun n=>(xs[n]?).bind fun x=>if -(2^63)<=i/\i < 2^63 then some (.d x,h.set j (.l (xs.eraseIdx n))) else none
 | _,_=>none
def bR5 (o a:Expr):XR W:=xb (v.E st o) fun w=>fun δ h=>match w with
 | .c j=>(match h[j]? with
  | some (.l _)=>(aV v st [a] δ h).bind fun p=>zH j p.1 p.2
  | _=>none)
 | _=>none
def bR6 (o a:Expr):XR W:=xb (v.E st o) fun w=>fun δ h=>match w with
 | .c j=>(match h[j]? with
  | some (.l _)=>(v.F st a δ h).bind fun p=>(match p.2[j]? with
   | some (.l xs)=>if xs.length+p.1.length<=sizeLine then some (.d .none,p.2.set j (.l (xs++p.1))) else none
   | _=>none)
  | _=>none)
 | _=>none
noncomputable def aE4:Expr->Bool
 | .Name _ _=>true
 | .Call (.Name _ _) (_::_) [] _=>true
 | _=>false
noncomputable def xMk (C:Addr) (m:XFW) (ws:List W) (h:aA):Option (W×aA):=(m (.c h.length::ws) (h++[.o C []])).bind fun p=>match p.1 with
 | .d .none=>some (.c h.length,p.2)
 | _=>none
def xMo (o:Expr) (m:Str) (C:Addr) (g:XFW) (args:List Expr):XR W:=xb (v.E st o) fun w=>fun δ h=>match w with
 | .c j=>(match h[j]? with
  | some (.o C' fs)=>if C'=C/\fs.lookup m=none then (aV v st args δ h).bind fun p=>g (.c j::p.1) p.2 else none
  | _=>none)
 | _=>none
def bR7 (o:Expr) (f:Str):XR W:=xb (v.E st o) fun w=>fun _ h=>match w with
 | .c j=>(match h[j]? with
  | some (.o C fs)=>if st.ob.fo C f=true then (fs.lookup f).map fun w=>(w,h) else none
  | _=>none)
 | _=>none
noncomputable def bR8:(l:List Expr)->Option {y:Expr×Str // ∃ p,l=[y.1,.Name y.2 p]}
 | [e,.Name T p]=>some ⟨(e,T),p,rfl⟩
 | _=>none
noncomputable def bR9:(l:List Expr)->Option {y:Expr // ∃ p q k r,l=[y,.Tuple [.Name "list" p,.Name "tuple" q] k r]}
 | [e,.Tuple [.Name T p,.Name T' q] k r]=>if h:T="list"/\T'="tuple" then some ⟨e,p,q,k,r,by rw [h.1,h.2]⟩ else none
 | _=>none
def bD7 (args:List Expr):XR W:=match bR8 args with
 | some ⟨(e,T),_⟩=>if aH e&&dF st T&&(slot st T).isNone&&st.bl.contains T then (match aR7 T with
   | some Ts=>xb (v.E st e) fun w=>fun _ h=>(ref h w).bind fun d=>some (.d (.bool (isi d Ts)),h)
   | none=>xno) else xno
 | none=>(match bR9 args with
  | some ⟨e,_⟩=>if aH e&&okC st "list"&&okC st "tuple" then xb (v.E st e) fun w=>fun _ h=>(ref h w).bind fun d=>some (.d (.bool (isi d "list"||isi d "tuple")),h) else xno
  | none=>xno)
def bD8 (o:Expr) (m:Str) (apos pos:Pos) (args:List Expr):XR W:=if iA o&&(apos.endLine==pos.line) then
   (match args with
    | []=>xno
    | a::es=>if m="pop" then (match es with
      | []=>if aH a=true then bR5 v st o a else xno
      | _=>xno)
     else if m="extend" then (match es with
      | []=>if aH a=true then bR6 v st o a else xno
      | _=>xno)
     else if decide (args.length < 29) then (match bD6 m with
     | some g=>aZ5 v st o m g args
     | none=>xno) else xno)
   else xno
def wZ (f:Expr) (args:List Expr) (pos:Pos):XR W:=match f with
 | .Name x _=>if dF st x&&(slot st x).isNone then
   (match st.ob.fnW x with
   | some m=>(match args with
     | []=>xno
     | _::_=>xb (aV v st args) fun ws=>fun _ h=>m ws h)
   | none=>match st.ob.cls x with
   | some (C,m)=>(match args with
     | []=>xno
     | _::_=>xb (aV v st args) fun ws=>fun _ h=>xMk C m ws h)
   | none=>match st.fn x with
    | some m=>(match args with
     | []=>xno
     | _::_=>xb (if (st.ac x).isEmpty=true then aV v st args else iZ v st (st.ac x) 0 args) fun ws=>fun _ h=>(m ws h).bind fun p=>some (.d p.1,p.2))
    | none=>if st.bl.contains x then
      (match bD2 x with
       | some g=>(match args with
        | []=>xno
        | _::_=>xb (aV v st args) fun ws=>fun _ h=>g ws h)
       | none=>if x="isinstance" then bD7 v st args
        else aJ (cI v st (.Call f args [] pos)))
     else xno)
   else xno
 | .Attribute o m apos=>match st.ob.om m with
  | some (C,g)=>(match args with
    | []=>xno
    | _::_=>if aE4 o&&(apos.endLine==pos.line)&&decide (args.length < 29)&&args.all aH then xMo v st o m C g args else xno)
  | none=>bD8 v st o m apos pos args
 | _=>xno
def xLS:List W->aA->Option (W×aA)
 | [.d (.tuple xs)],h=>(match dQ xs with
  | some ns=>if ns.length<=62 then some (.d (.int (ST.dd ns).length),h) else none
  | none=>none)
 | [.d (.list xs)],h=>(match dQ xs with
  | some ns=>if ns.length<=62 then some (.d (.int (ST.dd ns).length),h) else none
  | none=>none)
 | _,_=>none
def okB (x:Str):Bool:=dF st x&&(slot st x).isNone&&st.bl.contains x&&(st.fn x).isNone
noncomputable def fuS:(f:Expr)->(l:List Expr)->Option {a:Expr // ∃ p p2 q,f=.Name "len" p/\l=[.Call (.Name "set" p2) [a] [] q]}
 | .Name x p,[.Call (.Name y p2) [a] [] q]=>if h:x="len"/\y="set" then some ⟨a,p,p2,q,by rw [h.1],by rw [h.2]⟩ else none
 | _,_=>none
def aE5 (f:Expr) (args:List Expr) (pos:Pos):XR W:=match fuS f args with
 | some ⟨a,_⟩=>if okB st "len"&&okB st "set"&&aH a then xb (aV v st [a]) fun ws=>fun _ h=>xLS ws h else xno
 | none=>wZ v st f args pos
def tF (e:Expr):XR W:=match e with
 | .Name x _=>aD8 st x
 | .Constant c _ _=>aD9 c
 | .BinOp a op b _=>(match a,op with
  | .List es p,.Mult=>aJ (cI v st (.BinOp (.List es p) .Mult b p))
  | _,_=>xb (v.E st a) fun u=>xb (v.E st b) fun w=>fun _ h=>dA op u w h)
 | .Compare a ops cs _=>cT (kX v st a ops cs)
 | .BoolOp .And vs _=>aE2 v st vs
 | .BoolOp .Or vs _=>bD3 v st vs
 | .UnaryOp .Not a _=>xb (v.E st a) fun w=>(match w with
  | .d (.bool b)=>aD (.d (.bool (!b)))
  | _=>xno)
 | .UnaryOp .USub a _=>xb (v.E st a) fun w=>(match w with
  | .d (.int i)=>aD (.d (.int (-i)))
  | _=>xno)
 | .IfExp c a b _=>xb (v.T st c) fun t=>if t=true then v.E st a else v.E st b
 | .Tuple es _ _=>xb (xPl (aV v st es)) fun xs=>aD (.d (.tuple xs))
 | .List es p=>aJ (cI v st (.List es p))
 | .ListComp elt gs sc p=>aJ (cI v st (.ListComp elt gs sc p))
 | .Subscript a s _=>(match s with
  | .Slice lo hi none _=>xb (v.E st a) fun x=>xb (kW v st lo) fun l=>xb (kW v st hi) fun u=>fun _ h=>xSl x l u h
  | .Slice none none (some k) p=>aJ (cI v st (.Subscript a (.Slice none none (some k) p) p))
  | _=>if uU s=true then xno else (match jL st a with
   | some f=>xb (v.E st s) fun w=>(match w with
    | .d (.str z)=>(match f z with
     | some i=>aD (.d (.int i))
     | none=>xno)
    | _=>xno)
   | none=>xb (v.E st a) fun x=>xb (v.E st s) fun y=>fun _ h=>xIx x y h))
 | .Call f args [] p=>aE5 v st f args p
 | .Attribute o f _=>if iA o=true then bR7 v st o f else xno
 | .Dict [] [] _=>aD (.d (.dict []))
 | _=>xno
def aZ6 (e:Expr):XR Bool:=match e with
 | .UnaryOp .Not a _=>xb (v.T st a) fun b=>aD (!b)
 | .BoolOp .And vs _=>aE3 v st vs
 | .BoolOp .Or vs _=>bD4 v st vs
 | .Compare a ops cs _=>gE v st a ops cs
 | .IfExp _ _ _ _=>xno
 | _=>xb (v.E st e) fun w=>(match w with
  | .d (.bool b)=>aD b
  | _=>xno)
noncomputable def lW:List Expr->List XG
 | []=>[]
 | e::es=>v.G st e::lW es
def tG (es:List Expr) (xs:List PyData) (δ:DSt) (h:aA):Option (DSt×aA):=kU (lW v st es) xs δ h
def uV (j:Nat) (y x:PyData) (δ:DSt) (h:aA):Option (DSt×aA):=match h[j]?,y with
   | some (.l xs),.int k=>(ixN xs.length k).map fun n=>(δ,h.set j (.l (xs.set n x)))
   | some (.k kvs),_=>if (cC y).isSome=true/\kvs.length < sizeLine then some (δ,h.set j (.k (mL kvs y x))) else none
   | some (.n kvs),_=>if (fY y&&hkB 4 y)=true/\kvs.length < sizeLine then some (δ,h.set j (.n (putN kvs y x))) else none
   | _,_=>none
def tH (e:Expr):XG:=match e with
 | .Name x _=>(match slot st x with
  | some i=>if oS st.S x&&(st.top||dJ st.S x) then fun w δ h=>some (δ.set i (some w),h) else fun _ _ _=>none
  | none=>fun _ _ _=>none)
 | .Tuple es _ _=>if es.all aH=true then bK (lW v st es) else fun _ _ _=>none
 | .Subscript o i _=>if uU i=true then fun _ _ _=>none else fun w δ h=>(v.E st o δ h).bind fun p=>(v.E st i δ p.2).bind fun q=>(match p.1,q.1,w with
  | .c j,.d y,.d x=>uV j y x δ q.2
  | _,_,_=>none)
 | _=>fun _ _ _=>none
def dK (g:XG) (tt:XR Bool) (te:XR W) (c:Cw) (all:List PyData):List PyData->DSt->aA->List Nat->Option (List Nat×aA)
 | [],_,h,ac=>if condB c all h=true then some (ac,h) else none
 | x::r,δ,h,ac=>if condB c all h=true then
   (g (.d x) δ h).bind fun p=>(tt p.1 p.2).bind fun q=>if q.1=true then
     (te p.1 q.2).bind fun y=>(match y.1 with
      | .c j=>dK g tt te c all r p.1 y.2 (ac++[j])
      | _=>none)
    else dK g tt te c all r p.1 q.2 ac
  else none
def aE6 (tg iter:Expr) (ifs:List Expr) (sc:Scope):XR W :=
 if tE st.N sc st.S&&!jM iter then xb (pC v st tg iter) fun p=>fun δ h=>(dK (v.G (st.blk sc) tg) (aR8 v (st.blk sc) ifs) (bB (xPl (aD []))) p.2 p.1 p.1 (aY (pE st.N sc) δ) h []).bind fun q=>some (.c q.2.length,q.2++[.r q.1]) else xno
noncomputable def lcS:(e:Expr)->Option {y:Expr×Expr×List Expr×Int×Scope // ∃ p q,e=.ListComp (.List [] p) [⟨y.1,y.2.1,y.2.2.1,y.2.2.2.1⟩] y.2.2.2.2 q}
 | .ListComp (.List [] p) [⟨tg,iter,ifs,a⟩] sc q=>some ⟨(tg,iter,ifs,a,sc),p,q,rfl⟩
 | _=>none
def bD9 (e:Expr):XR W:=match lcS e with
 | some ⟨(tg,iter,ifs,a,sc),_⟩=>if a=0 then aE6 v st tg iter ifs sc else xno
 | none=>v.E st e
def bS0 (o:Expr) (f:Str) (e:Expr):XS:=fun δ h=>(bD9 v st e δ h).bind fun p=>(v.E st o δ p.2).bind fun q=>match q.1 with
 | .c j=>(match q.2[j]? with
  | some (.o C fs)=>if st.ob.fo C f=true/\fs.length < 1000 then some (.nx δ,q.2.set j (.o C (fF f p.1 fs))) else none
  | _=>none)
 | _=>none
noncomputable def jA:Expr->Bool
 | .ListComp _ _ _ _=>true
 | .SetComp _ _ _ _=>true
 | .DictComp _ _ _ _ _=>true
 | _=>false
def aR9 (e tg:Expr):Bool:=wY e&&(match tg with
 | .Tuple _ _ _=>true
 | .List _ _=>true
 | _=>false)
noncomputable def xSs:List Stmt->XS
 | [],δ,h=>some (.nx δ,h)
 | s::r,δ,h=>(v.S st s δ h).bind fun p=>(match p.1 with
  | .nx δ'=>xSs r δ' p.2
  | f=>some (f,p.2))
noncomputable def cK5:Expr->Bool
 | .Dict [] [] _=>true
 | _=>false
noncomputable def xA:XR W:=fun _ h=>some (.c h.length,h++[.k []])
noncomputable def wfC:Expr->Bool
 | .Call (.Name f _) _ [] _=>(st.ob.fnW f).isSome
 | _=>false
noncomputable def pnS:(x:PyData)->Option {y:List PyData×PyData // x=.tuple [.tuple y.1,y.2]}
 | .tuple [.tuple k,v]=>some ⟨(k,v),rfl⟩
 | _=>none
def jB:List PyData->Option (List (PyData×PyData))
 | []=>some []
 | x::r=>(pnS x).bind fun y=>if hkB 4 (.tuple y.1.1)=true then (jB r).map ((.tuple y.1.1,y.1.2)::·) else none
def iB (ds:List (PyData×PyData)):List (PyData×PyData):=ds.foldl (fun a p=>putN a p.1 p.2) []
def jN:List W->aA->Option (W×aA)
 | [w],h=>(match ref h w with
  | some (.list xs)=>if xs.length<=1000 then (match hZ xs with
   | some ds=>some (.c h.length,h++[.k (qV ds)])
   | none=>(jB xs).map fun ds=>(.c h.length,h++[.n (iB ds)])) else none
  | _=>none)
 | _,_=>none
noncomputable def dcS:(e:Expr)->Option {a:Expr // ∃ p q,e=.Call (.Name "dict" p) [a] [] q}
 | .Call (.Name x p) [a] [] q=>if h:x="dict" then some ⟨a,p,q,by rw [h]⟩ else none
 | _=>none
def dcA (e:Expr):Option Expr:=(dcS e).map (·.1)
def aS0 (e:Expr):XR W:=match dcA e with
 | some a=>if okC st "dict"=true then xb (aV v st [a]) fun ws=>fun _ h=>jN ws h else xno
 | none=>bB (v.F st e)
noncomputable def aS (i:Nat) (x:XR W):XS:=fun δ h=>(x δ h).bind fun p=>some (.nx (δ.set i (some p.1)),p.2)
def swB (e:Expr) (x:Str) (px:Pos):Bool:=match e with
 | .ListComp _ _ sc p=>dJ st.S x&&(px.line==p.line)&&!(sc.names.any fun (n,k)=>n==x&&(k==.local||k==.cell))
 | _=>false
def tI (s:Stmt):XS:=match s with
 | .Return (some e) _=>fun δ h=>((if st.cv.contains "return"=true then aS0 v st e else v.E st e) δ h).bind fun p=>some (.rt p.1,p.2)
 | .If c a b _=>fun δ h=>(v.T st c δ h).bind fun p=>if p.1=true then xSs v st a δ p.2 else xSs v st b δ p.2
 | .Expr e _=>if jA e=true then fun _ _=>none else fun δ h=>(v.E st e δ h).bind fun p=>some (.nx δ,p.2)
 | .Pass _=>fun δ h=>some (.nx δ,h)
 | .Break _=>fun δ h=>some (.bk δ,h)
 | .Continue _=>fun δ h=>some (.ct δ,h)
 | .For tg iter body [] _=>if jM iter=true then fun _ _=>none else fun δ h=>(pC v st tg iter δ h).bind fun p=>aW (v.G st tg) (xSs v st body) p.1.2 p.1.1 p.1.1 δ p.2
 | .Assign [.Name x px] e _=>(match slot st x with
  | some i=>if oS st.S x&&(st.top||dJ st.S x) then
    (if jA e=true then (if (swB st e x px||!(dJ st.S x))=true then aS i (if st.cv.contains x=true then bB (cI v st e) else aJ (cI v st e)) else fun _ _=>none)
    else if (st.cv.contains x&&cK5 e)=true then aS i xA
    else if (st.cv.contains x&&!(aE1 e||wfC st e))=true then aS i (bB (v.F st e)) else aS i (v.E st e))
   else fun _ _=>none
  | none=>fun _ _=>none)
 | .Assign [.Attribute o f _] e _=>bS0 v st o f e
 | .Assign [tg] e _=>if (jA e||aR9 e tg||!(aH tg))=true then fun _ _=>none else fun δ h=>(v.E st e δ h).bind fun p=>(v.G st tg p.1 δ p.2).bind fun q=>some (.nx q.1,q.2)
 | _=>fun _ _=>none
end
def bS1 (v:Evs):Evs:=⟨tF v,aZ6 v,cI v,tH v,tI v⟩
def evs:Nat->Evs
 | 0=>.no
 | n+1=>bS1 (evs n)

def parsOf (s:Stmt):List Str:=(cP s).args.map (·.arg)
def bY (s:Stmt):List Str:=parsOf s++((defScope s).names.filter fun p=>(p.2==.local||p.2==.cell)&&!((parsOf s).contains p.1)).map (·.1)
def fnB (s:Stmt):Bool:=decide ((defScope s).kind=.function)&&(!(defScope s).isCoroutine&&(!(defScope s).isGenerator&&(decide (bY s).Nodup&&(((parsOf s).all fun x=>oS (defScope s) x)&&((defScope s).names.all fun y=>!(y.2==.free))))))
open Classical in
noncomputable def aR (h0:aA) (p:Fl×aA):Option (PyData×aA):=if okP h0 p.2 then (match p.1 with
 | .nx _=>some (.none,p.2.take h0.length)
 | .rt (.d z)=>some (z,p.2.take h0.length)
 | .rt (.c i)=>(match p.2[i]? with
  | some (.l xs)=>if h0.length<=i then some (.list xs,p.2.take h0.length) else none
  | some (.k kvs)=>if h0.length<=i then some (.dict kvs,p.2.take h0.length) else none
  | _=>none)
 | _=>none) else none
noncomputable def fR (p:Fl×aA):Option (W×aA):=match p.1 with
 | .nx _=>some (.d .none,p.2)
 | .rt w=>some (w,p.2)
 | _=>none
structure Top where
 bl:List Str
 gc:Str->Option PyData
 tk:Str->Option (Str->Option Int)
 defs:Str->Option Stmt
 ac:Str->List Nat
 cv:Str->List Str
 fuel:Nat
 deep:Nat
 wf:Str->Bool
 ini:Str->Option (Addr×Stmt)
 mt:Str->Option (Addr×Stmt)
 fo:Addr->Str->Bool
 qn:Str->Option (Str×Pos)
def Top.sta (t:Top) (fn:Str->Option XF) (ob:ObS) (x:Str) (s:Stmt):Sta:=⟨t.bl,t.gc,t.tk,fn,t.ac,t.cv x,bY s,defScope s,true,t.fuel,ob,t.qn x⟩
def lX (t:Top) (fn:Str->Option XF) (ob:ObS) (x:Str) (s:Stmt):XF:=fun ws h =>
 if fnB s=true/\ws.length=(parsOf s).length then (xSs (evs t.deep) (t.sta fn ob x s) (aX s) (dI (bY s) ws) h).bind (aR h) else none
def iT (t:Top) (fn:Str->Option XF) (ob:ObS) (x:Str) (s:Stmt):XFW:=fun ws h =>
 if fnB s=true/\ws.length=(parsOf s).length then (xSs (evs t.deep) (t.sta fn ob x s) (aX s) (dI (bY s) ws) h).bind fR else none
abbrev fnT (t:Top) (D:Str->XF):Str->Option XF:=fun y=>(t.defs y).map fun _=>D y
abbrev obT (t:Top) (W I M:Str->XFW):ObS:=⟨fun y=>if t.wf y=true then (t.defs y).map fun _=>W y else none,fun y=>(t.ini y).map fun p=>(p.1,I y),fun y=>(t.mt y).map fun p=>(p.1,M y),t.fo⟩
mutual
noncomputable def aE (t:Top):Nat->Str->XF
 | 0,_=>fun _ _=>none
 | d+1,x=>(match t.defs x with
  | some s=>lX t (fnT t fun y=>aE t d y) (obT t (fun y=>callW t d y) (fun y=>callI t d y) fun y=>callM t d y) x s
  | none=>fun _ _=>none)
noncomputable def callW (t:Top):Nat->Str->XFW
 | 0,_=>fun _ _=>none
 | d+1,x=>(match t.defs x with
  | some s=>iT t (fnT t fun y=>aE t d y) (obT t (fun y=>callW t d y) (fun y=>callI t d y) fun y=>callM t d y) x s
  | none=>fun _ _=>none)
noncomputable def callM (t:Top):Nat->Str->XFW
 | 0,_=>fun _ _=>none
 | d+1,x=>(match t.mt x with
  | some (_,s)=>iT t (fnT t fun y=>aE t d y) (obT t (fun y=>callW t d y) (fun y=>callI t d y) fun y=>callM t d y) x s
  | none=>fun _ _=>none)
noncomputable def callI (t:Top):Nat->Str->XFW
 | 0,_=>fun _ _=>none
 | 1,_=>fun _ _=>none
 | d+2,x=>(match t.ini x with
  | some (_,s)=>iT t (fnT t fun y=>aE t d y) (obT t (fun y=>callW t d y) (fun y=>callI t d y) fun y=>callM t d y) x s
  | none=>fun _ _=>none)
end
end CI

namespace CI
def bind_some {α β:Type} {x:Option α} {f:α->Option β} {b:β} (e:x.bind f=some b):∃ a,x=some a/\f a=some b:=Option.bind_eq_some_iff.mp e
def map_some {α β:Type} {x:Option α} {f:α->β} {b:β} (e:x.map f=some b):∃ a,x=some a/\f a=b:=Option.map_eq_some_iff.mp e
def aF {α:Type} {c:Prop} [Decidable c] {x:Option α} {b:α} (e:(if c then x else none)=some b):c/\x=some b:=by
 by_cases h:c
 ·rw [if_pos h] at e;exact ⟨h,e⟩
 ·rw [if_neg h] at e;cases e
end CI
namespace DL
open PySem PySem.Spec PyProof.Rows L2 CI
def thn {α:Type} {t:Sem α} {Q Q':α->Shared->Prop} {M:Model} {A:Around} {E:Value->Shared->Prop} {s:Shared} (h:wpAny M A t Q E s) (hQ:∀ a s,Q a s->Q' a s):wpAny M A t Q' E s:=wpAny_mono h hQ fun _ _ x=>x
abbrev Wp (S:Sx) (A:Around) {α:Type} (t:Sem α) (Q:α->Shared->Prop) (E:Value->Shared->Prop) (s:Shared):Prop:=wpAny (model S.P S.w) A t Q E s
def Pw (S:Sx) (κ:Kp) (M:Mp) (h:aA) (w:W) (u:Value) (s:Shared):Prop:=∃ M',Le M M'/\Mem S κ M' h s/\RepW S M' w u
def Pf (S:Sx) (κ:Kp) (M:Mp) (h:aA) (xs:List PyData) (u:Value) (s:Shared):Prop :=
 ∃ M',Le M M'/\Mem S κ M' h s/\∃ a us n,u=.ref a/\s.heap.get? a=some (cM us n)/\bV κ M' a/\us.length<=sizeLine/\Reps' S M' xs us
structure Room (k:Nat) (A:Around):Prop where
 hd:A.handled=none
 dp:A.depth+3*k+5 < recursionLimit
 un:A.units+16*k+200 < cLine
section
variable {S:Sx} {κ:Kp} {M:Mp} {h h':aA} {s:Shared} {A:Around} {E:Value->Shared->Prop} {x y w:W} {u v:Value} {d:Nat}
def wi {i:Int}:RepW S M (.d (.int i)) u ↔ ∃ t,u=.int i t:=rep_i (S:=S) (Z:=M.Z)
def wb {i:Bool}:RepW S M (.d (.bool i)) u ↔ u=.bool i:=rep_b (S:=S) (Z:=M.Z)
def wn:RepW S M (.d .none) u ↔ u=.none:=bQ8 (S:=S) (Z:=M.Z)
def Pw.go {M':Mp} (l:Le M M') (p:Pw S κ M' h w u s):Pw S κ M h w u s:=let ⟨N,a,b⟩:=p;⟨N,l.trans a,b⟩
def Mem.pw (R:Mem S κ M h s) (r:RepW S M w u):Pw S κ M h w u s:=⟨M,.refl,R,r⟩
def Mem.pi (R:Mem S κ M h s) {i:Int} {t t':Nat}:Pw S κ M h (.d (.int i)) (.int i t) { s with toks:=t' }:=(R.tok t').pw (wi.mpr ⟨_,rfl⟩)
def Mem.pb (R:Mem S κ M h s) {b:Bool}:Pw S κ M h (.d (.bool b)) (.bool b) s:=R.pw (wb.mpr rfl)
def Mem.pn (R:Mem S κ M h s):Pw S κ M h (.d .none) .none s:=R.pw (wn.mpr rfl)
def qY {xs:List PyData} (p:Pf S κ M h xs u s):Pw S κ M h (.d (.list xs)) u s:=by
 obtain ⟨N,l,R,a,us,n,rfl,e,f,z,r⟩:=p;exact ⟨N.add a (cM us n),l.trans (.add f.1),R.frz f e,rep_l.mpr ⟨a,_,us,rfl,nD,⟨⟨n,rfl⟩,z⟩,r.go (.add f.1)⟩⟩
def aE7 {xs:List PyData} (p:Pf S κ M h xs u s):Pw S κ M (h++[.l xs]) (.c h.length) u s:=by
 obtain ⟨N,l,R,a,us,n,rfl,e,f,z,r⟩:=p;exact ⟨N.cel (a,a),l.trans .cel,R.add f f ⟨⟨_,e⟩,_,e⟩ ⟨us,n,e,z,r.go .cel⟩,(a,a),by show (N.m++[(a,a)])[h.length]?=_;rw [<- R.len];simp,rfl⟩
def Mem.tup {xs:List PyData} {us:List Value} {t:Nat} (R:Mem S κ M h s) (r:Reps' S M xs us) (z:us.length<=sizeLine):Pw S κ M h (.d (.tuple xs)) (.ref s.heap.objs.size) { s with heap:=s.heap.push { cls:=.type "tuple",data:=.seq us.toArray },toks:=t }:=by
 have R1:Mem S κ M h { s with heap:=s.heap.push { cls:=.type "tuple",data:=.seq us.toArray },toks:=t }:=R.kept fun b o e=>Heap.get?_push_of_some _ e;exact ⟨_,.add R.size.1,R1.frz R.size (Heap.get?_push_size _ rfl),rep_t.mpr ⟨_,_,us,rfl,nD,⟨⟨_,rfl⟩,z⟩,r.go (.add R.size.1)⟩⟩
def Mem.lst {h2:Heap} {xs:List PyData} {us:List Value} {n t:Nat} (R:Mem S κ M h s) (k:∀ b o,s.heap.get? b=some o->h2.get? b=some o) (e:h2.get? s.heap.objs.size=some (cM us n)) (r:Reps' S M xs us) (z:us.length<=sizeLine) :
  Pf S κ M h xs (.ref s.heap.objs.size) { s with heap:=h2,toks:=t }:=⟨M,.refl,R.kept k,_,us,n,rfl,e,R.size,z,r⟩
def Mem.lstP {xs:List PyData} {us:List Value} {n t:Nat} (R:Mem S κ M h s) (r:Reps' S M xs us) (z:us.length<=sizeLine):Pf S κ M h xs (.ref s.heap.objs.size) { s with heap:=s.heap.push (cM us n),toks:=t } :=
 R.lst (fun b o e=>Heap.get?_push_of_some _ e) (Heap.get?_push_size _ rfl) r z
def dS {xs:List PyData} (R:Mem S κ M h s) (r:RepW S M w u) (e:ref h w=some (.list xs)):∃ a us n,u=.ref a/\s.heap.get? a=some (cM us n)/\us.length<=sizeLine/\Reps' S M xs us:=by
 cases w with
 | d y =>
  cases e;obtain ⟨a,o,us,e,z,⟨⟨n,rfl⟩,l⟩,r⟩:=rep_l.mp (show Rep S M.Z (.list xs) u from r);exact ⟨a,us,n,e,R.z a _ z,l,r⟩
 | c i =>
  obtain ⟨p,e1,rfl⟩:=r;dsimp only [DL.ref] at e;cases q:h[i]? with
  | none=>rw [q] at e;cases e
  | some c =>
   cases c with
   | l ys=>rw [q] at e;cases e;obtain ⟨us,n,a,b,c⟩:=R.cel i p _ e1 q;exact ⟨_,us,n,rfl,a,b,c⟩
   | _=>rw [q] at e;cases e
def gX {xs:List PyData} (R:Mem S κ M h s) (r:RepW S M w u) (e:ref h w=some (.tuple xs)):∃ a us n,u=.ref a/\M.Z a=some { cls:=.type "tuple",data:=.seq us.toArray n }/\us.length<=sizeLine/\Reps' S M xs us:=by
 cases w with
 | d y =>
  cases e;obtain ⟨a,o,us,e,z,⟨⟨n,rfl⟩,l⟩,r⟩:=rep_t.mp (show Rep S M.Z (.tuple xs) u from r);exact ⟨a,us,n,e,z,l,r⟩
 | c i =>
  dsimp only [DL.ref] at e;cases q:h[i]? with
  | none=>rw [q] at e;cases e
  | some c=>cases c<;>(rw [q] at e;cases e)
def xB {kvs:List (PyData×PyData)} (R:Mem S κ M h s) (r:RepW S M w u) (e:ref h w=some (.dict kvs)):∃ a vs,u=.ref a/\s.heap.DictOf (bQ S.P S.w) a vs/\RepK S M.Z kvs vs/\(a==sysModules)=false/\vs.length<=sizeLine:=by
 cases w with
 | d y =>
  cases e;obtain ⟨a,o,vs,e,z,q,r⟩:=rep_d.mp (show Rep S M.Z (.dict kvs) u from r);exact ⟨a,vs,e,q.2.2 _ (R.z a o z),r,q.1,q.2.1⟩
 | c i =>
  obtain ⟨p,e1,rfl⟩:=r;dsimp only [DL.ref] at e;cases q:h[i]? with
  | none=>rw [q] at e;cases e
  | some c =>
   cases c with
   | k ys=>rw [q] at e;cases e;obtain ⟨vs,a,b,c⟩:=R.cel i p _ e1 q;exact ⟨_,vs,rfl,a,b,c⟩
   | _=>rw [q] at e;cases e
def cY {a:Addr} {us:List Value} {n:Nat} (e:s.heap.get? a=some (cM us n)):PlainL s.heap a us.toArray:=⟨_,n,e,rfl,rfl,rfl⟩
def fS {hp:Heap} {a:Addr} {us:List Value} {n:Nat} (e:hp.get? a=some { cls:=.type "tuple",data:=.seq us.toArray n }):IsTup hp a us.toArray:=⟨_,e,rfl,n,rfl⟩
def oT {x:W} {d:PyData} (R:Mem S κ M h s) (r:RepW S M x u) (e:ref h x=some d) (p:aN 64 d=true):(∃ as,Reads s.heap u d as)/\SeqAt.shaped d=true:=by
 have go:(∃ as,Reads s.heap u d as)/\d.canLay0=true/\d.depth<=64:=by
  cases x with
  | d y=>cases e;exact Rep.reads R.z 64 r p
  | c i =>
   cases d with
   | list xs =>
    obtain ⟨a,us,n,rfl,ho,_,rr⟩:=dS R r e;obtain ⟨⟨as,q⟩,c,l⟩:=Reps.reads R.z 63 (reps_iff.mpr rr) (by simpa [aN] using p);exact ⟨⟨_,Reads.list ho rfl rfl (by simpa using q)⟩,by simp [PyData.canLay0,PyData.depth,c,l]⟩
   | dict _=>simp [aN] at p
   | _ =>
    dsimp only [DL.ref] at e;cases q:h[i]? with
    | none=>rw [q] at e;cases e
    | some c=>cases c<;>(rw [q] at e;cases e)
 exact ⟨go.1,by unfold SeqAt.shaped;rw [go.2.1];simpa using go.2.2⟩
def bE0 {j:Int} (h:bA j=true):0 < j/\j.natAbs.log2 < 9000:=by
 unfold bA at h;simp only [Bool.and_eq_true,Bool.or_eq_true,decide_eq_true_eq] at h;refine ⟨h.1,?_⟩;rcases h.2 with z | z
 ·have h0:j.natAbs≠0:=by omega
  have:=(Nat.log2_lt h0 (k:=30)).mpr (by omega);omega
 ·omega
def uW (k:Nat):(0:Int)<=2^k:=by rw [two_pow_cast];exact Int.natCast_nonneg _
def bE1 {i j:Int} (h:gW i j=true):IntMulOk i j:=by
 unfold gW at h;simp only [Bool.and_eq_true,Bool.or_eq_true,decide_eq_true_eq] at h;rcases h with ⟨h1,h2⟩ | ⟨h1,h2⟩
 ·exact .of_left (intBits_le_64 h1 h2)
 ·exact .of_right (intBits_le_64 h1 h2)
def bE2 (R:Mem S κ M h s) (ra:RepW S M x u) (rb:RepW S M y v) (e:aR6 x y h=some (w,h')):Wp S A (binaryOp .Add u v) (Pw S κ M h' w) E s:=by
 unfold aR6 at e;split at e
 ·cases e;obtain ⟨t,rfl⟩:=wi.mp ra;obtain ⟨t',rfl⟩:=wi.mp rb;exact add_int R.pi
 ·obtain ⟨hz,e⟩:=aF e;cases e;obtain ⟨a,us,n,rfl,ea,la,ra'⟩:=gX (h:=h) R ra rfl;obtain ⟨b,vs,m,rfl,eb,lb,rb'⟩:=gX (h:=h) R rb rfl;have l1:=ra'.length;have l2:=rb'.length
  by_cases e1:us=[]
  ·subst e1;cases ra';refine concat_meets ⟨_,R.z _ _ ea,rfl⟩ ⟨_,R.z _ _ eb,rfl⟩ noFill_tuple_add seq_tuple_add PySem.F.slot_tuple_add PySem.F.entry_tuple_add (PySem.F.args_tuple_add_2 _ _) (tuple_addW0 a b _ _ n m none none #[] #[] rfl) ⟨R.z _ _ ea,R.z _ _ eb,?_⟩;exact R.pw rb
  ·refine HT.cat_tup (fS (R.z _ _ ea)) (fS (R.z _ _ eb)) e1 (fun z=>?_) (fun _=>?_) (by omega)
   ·subst z;cases rb';rw [List.append_nil];exact R.pw ra
   ·exact R.tup (t:=s.toks) (zE ra' rb') (by rw [List.length_append];omega)
 ·split at e
  ·rename_i ha hb;obtain ⟨hz,e⟩:=aF e;cases e;obtain ⟨a,us,n,rfl,ea,la,ra'⟩:=dS R ra ha;obtain ⟨b,vs,m,rfl,eb,lb,rb'⟩:=dS R rb hb;have l1:=ra'.length;have l2:=rb'.length;refine PySem.P.add_list ea eb ?_ (by rw [List.size_toArray,List.size_toArray];omega);have ea:us.toArray++vs.toArray=(us++vs).toArray:=by simp
   rw [ea];exact qY (R.lstP (t:=s.toks) (zE ra' rb') (by rw [List.length_append];omega))
  ·cases e
def bE3 {op:Operator} (R:Mem S κ M h s) (ra:RepW S M x u) (rb:RepW S M y v) (e:dA op x y h=some (w,h')):Wp S A (binaryOp op u v) (Pw S κ M h' w) E s:=by
 unfold dA at e;split at e
 ·exact bE2 R ra rb e
 ·unfold bR3 at e;split at e
  ·obtain ⟨hm,e⟩:=aF e;cases e;obtain ⟨t,rfl⟩:=wi.mp ra;obtain ⟨t',rfl⟩:=wi.mp rb;exact mul_int R.pi (bE1 hm)
  ·cases e
 ·split at e
  ·rename_i i j;obtain ⟨t,rfl⟩:=wi.mp ra;obtain ⟨t',rfl⟩:=wi.mp rb;split at e
   ·cases e;exact sub_int R.pi
   ·obtain ⟨hm,e⟩:=aF e;cases e;obtain ⟨h1,h2⟩:=bE0 hm;exact floordiv_int (by omega) (by rw [Int.fdiv_eq_ediv_of_nonneg i (by omega)];exact R.pi) (.inl (PyProof.noPylong_of_log2 h2))
   ·obtain ⟨hm,e⟩:=aF e;cases e;exact mod_int' (by omega) (by rw [Int.fmod_eq_emod_of_nonneg i (by omega)];exact R.pi)
   ·obtain ⟨hm,e⟩:=aF e;cases e;unfold wX at hm;simp only [Bool.and_eq_true,decide_eq_true_eq] at hm;exact pow_int_small hm.1 hm.2.1 hm.2.2 R.pi
   ·obtain ⟨hm,e⟩:=aF e;cases e;exact rshift_int hm (by rw [Int.fdiv_eq_ediv_of_nonneg i (uW _)];exact R.pi)
   ·cases e;exact and_int R.pi
   ·cases e
  ·cases e
def bE4 {i:Int} (R:Mem S κ M h s) (ra:RepW S M (.d (.int i)) u):Wp S A (unaryOp .USub u) (Pw S κ M h (.d (.int (-i)))) E s:=by
 obtain ⟨t,rfl⟩:=wi.mp ra;exact neg_int R.pi
def nF {Z:Zm} {a b:PyData} {k:Bool} (ra:Rep S Z a u) (rb:Rep S Z b v) (e:isSame a b=some k):plainIs u v=true/\(u==v)=k:=by
 cases b with
 | none =>
  rw [Rep] at rb;subst rb;cases a with
  | none=>rw [Rep] at ra;subst ra;cases e;exact ⟨rfl,rfl⟩
  | bool c=>rw [Rep] at ra;subst ra;cases e;exact ⟨rfl,rfl⟩
  | int c=>rw [Rep] at ra;obtain ⟨t,rfl⟩:=ra;cases e;exact ⟨rfl,rfl⟩
  | str c=>rw [Rep] at ra;obtain ⟨⟨t,rfl⟩,_⟩:=ra;cases e;exact ⟨rfl,rfl⟩
  | list c=>rw [Rep] at ra;obtain ⟨p,o,vs,rfl,_⟩:=ra;cases e;exact ⟨rfl,rfl⟩
  | tuple c=>rw [Rep] at ra;obtain ⟨p,o,vs,rfl,_⟩:=ra;cases e;exact ⟨rfl,rfl⟩
  | dict c=>cases e
 | bool b =>
  rw [Rep] at rb;subst rb;cases a with
  | none=>rw [Rep] at ra;subst ra;cases e;exact ⟨rfl,rfl⟩
  | bool c=>rw [Rep] at ra;subst ra;cases e;cases b<;>cases c<;>exact ⟨rfl,rfl⟩
  | int c=>rw [Rep] at ra;obtain ⟨t,rfl⟩:=ra;cases e;exact ⟨rfl,rfl⟩
  | str c=>rw [Rep] at ra;obtain ⟨⟨t,rfl⟩,_⟩:=ra;cases e;exact ⟨rfl,rfl⟩
  | list c=>rw [Rep] at ra;obtain ⟨p,o,vs,rfl,_⟩:=ra;cases e;exact ⟨rfl,rfl⟩
  | tuple c=>rw [Rep] at ra;obtain ⟨p,o,vs,rfl,_⟩:=ra;cases e;exact ⟨rfl,rfl⟩
  | dict c=>cases e
 | _=>cases a<;>cases e
end
end DL

namespace DL
open PySem PySem.Spec PyProof.Rows L2 CI
section
variable {S:Sx} {κ:Kp} {M:Mp} {h h':aA} {s:Shared} {A:Around} {E:Value->Shared->Prop} {x y w:W} {u v:Value} {d:Nat} {b:Bool}
def Room.mono {j k:Nat} (r:Room k A) (h:j<=k):Room j A:=⟨r.hd,by have:=r.dp;omega,by have:=r.un;omega⟩
def Room.u64 (r:Room d A):A.units+64 < cLine:=by have:=r.un;omega
def Room.u65 (r:Room d A):A.units+65 < cLine:=by have:=r.un;omega
def uX {z:PyData} {k:Key} {Z:Zm} (e:cC z=some k) (r:Rep S Z z u):(bQ S.P S.w).is k u=true:=by
 cases z with
 | int i=>cases e;obtain ⟨t,rfl⟩:=rep_i.mp r;exact lT _ _ i t
 | str z =>
  unfold cC at e;obtain ⟨_,e⟩:=aF e;cases e;obtain ⟨⟨t,rfl⟩,_⟩:=rep_s.mp r;exact tA _ _ z t
 | _=>cases e
def pG {Z:Zm} (k:Key) {kvs:List (PyData×PyData)} {vs:List (Key×Value)} (r:RepK S Z kvs vs) :
  (∀ p,(kvs.find? fun p=>decide (cC p.1=some k))=some p->∃ v,valueAt vs k=some v/\Rep S Z p.2 v)/\((kvs.find? fun p=>decide (cC p.1=some k))=none->valueAt vs k=none):=by
 unfold valueAt;induction r with
 | nil=>exact ⟨fun p e=>(nomatch e),fun _=>rfl⟩
 | @cons p q ps qs hp _ ih =>
  by_cases e:q.1=k
  ·have a1:decide (cC p.1=some k)=true:=by rw [hp.1,e];simp
   simp only [List.find?_cons,a1,decide_eq_true e];exact ⟨fun _ ep=>by cases ep;exact ⟨_,rfl,hp.2⟩,fun ep=>by cases ep⟩
  ·have a1:decide (cC p.1=some k)=false:=by rw [hp.1];simpa using e
   simp only [List.find?_cons,a1,decide_eq_false e];exact ih
theorem tJ {α:Type} (p:α->Bool):∀ xs:List α,xs.any p=(xs.find? p).isSome
 | []=>rfl
 | x::r=>by
  rw [List.any_cons];cases e:p x with
  | true=>rw [List.find?_cons_of_pos e];rfl
  | false=>rw [List.find?_cons_of_neg (by rw [e];exact Bool.false_ne_true),<- tJ p r];rfl
def aE8 {Z:Zm} (k:Key) {kvs:List (PyData×PyData)} {vs:List (Key×Value)} (r:RepK S Z kvs vs):(kvs.any fun p=>decide (cC p.1=some k))=(valueAt vs k).isSome:=by
 rw [tJ];obtain ⟨f1,f2⟩:=pG k r;cases q:kvs.find? fun p=>decide (cC p.1=some k) with
 | none=>rw [f2 q];rfl
 | some p=>obtain ⟨v,e,_⟩:=f1 p q;rw [e];rfl
def xC {z:PyData} {k:Key} (R:Mem S κ M h s) (r:RepW S M x u) (e:ref h x=some z) (ek:cC z=some k):(bQ S.P S.w).is k u=true:=by
 cases x with
 | d y=>cases e;exact uX ek r
 | c i =>
  dsimp only [DL.ref] at e;cases q:h[i]? with
  | none=>rw [q] at e;cases e
  | some c=>cases c<;>(rw [q] at e;cases e)<;>cases ek
def aE9 {kvs:List (PyData×PyData)} (R:Mem S κ M h s) (r:RepW S M x u) (e:tC x h=some kvs):∃ i p xs,x=.c i/\M.m[i]?=some p/\h[i]?=some (.n kvs)/\u=.ref p.1/\s.heap.DictOfH (hW S) p.1 xs/\iX S M.Z kvs xs/\(p.1==sysModules)=false/\xs.length<=sizeLine:=by
 unfold tC at e;split at e
 ·rename_i i;split at e
  ·rename_i kv ei;cases e;obtain ⟨p,ep,rfl⟩:=r;obtain ⟨xs,⟨o,es,epo,h1,h2,h3,h4,h5⟩,rr,hs,hz⟩:=R.cel i p _ ep ei;refine ⟨i,p,xs,rfl,ep,ei,rfl,⟨o,es,epo,h1,h2,h3,h4,fun x hx=>?_,h5⟩,rr,hs,hz⟩;obtain ⟨j,hj⟩:=List.getElem?_of_mem hx;have:∀ {l:List (PyData×PyData)} {r:List (HK×Addr×Value)},iX S M.Z l r->x∈r->Rep S M.Z x.1.1 (.ref x.2.1):=fun {l r} q hx=>by
    unfold iX at q;induction q with
    | nil=>simp at hx
    | cons a _ ih =>
     rcases List.mem_cons.mp hx with rfl | hx
     ·rw [<- a.1];exact a.2.1
     ·exact ih hx
   exact Rep.go R.z (this rr hx)
  ·cases e
 ·cases e
def qZ {d:PyData} (R:Mem S κ M h s) (r:RepW S M x u) (e:ref h x=some d) (hd:(fY d&&hkB 4 d)=true):∃ (hk:hkB 4 d=true) (a:Addr),u=.ref a/\(hW S).is s.heap ⟨d,hk⟩ a/\Rep S M.Z d (.ref a):=by
 rw [Bool.and_eq_true] at hd;cases d with
 | tuple ys =>
  have hx:x=.d (.tuple ys):=by
   cases x with
   | d z=>cases e;rfl
   | c i =>
    dsimp only [DL.ref] at e;cases q:h[i]? with
    | none=>rw [q] at e;cases e
    | some c=>cases c<;>(rw [q] at e;cases e)
  subst hx;obtain ⟨a,o,us,rfl,rest⟩:=rep_t.mp (show Rep S M.Z _ _ from r);exact ⟨hd.2,a,rfl,Rep.go R.z (show Rep S M.Z _ _ from r),r⟩
 | _=>simp [fY] at hd
def aF0 {d:PyData} (hk:hkB 4 d=true) {Z:Zm}:∀ {kvs:List (PyData×PyData)} {xs:List (HK×Addr×Value)},iX S Z kvs xs->(kvs.any fun p=>peq p.1 d)=(atKey xs ⟨d,hk⟩).isSome:=by
 intro kvs xs r;unfold iX at r;unfold atKey;rw [Option.isSome_map];induction r with
 | nil=>rfl
 | @cons q x _ _ a _ ih =>
  have e:peq q.1 d=decide (x.1=⟨d,hk⟩):=by
   rw [a.1,Bool.eq_iff_iff,(hV x.1.2 hk).2,decide_eq_true_iff];exact (Subtype.ext_iff (a1:=x.1) (a2:=⟨d,hk⟩)).symm
  rw [List.any_cons,List.find?_cons,e,ih];cases decide (x.1=⟨d,hk⟩)<;>rfl
def aS1 {d:PyData} (hk:hkB 4 d=true) {Z:Zm} {p:PyData×PyData}:∀ {kvs:List (PyData×PyData)} {xs:List (HK×Addr×Value)},iX S Z kvs xs->(kvs.find? fun p=>peq p.1 d)=some p->∃ v,atKey xs ⟨d,hk⟩=some v/\Rep S Z p.2 v.2:=by
 intro kvs xs r e;unfold iX at r;unfold atKey;induction r with
 | nil=>cases e
 | @cons q x _ _ a _ ih =>
  have eq:peq q.1 d=decide (x.1=⟨d,hk⟩):=by
   rw [a.1,Bool.eq_iff_iff,(hV x.1.2 hk).2,decide_eq_true_iff];exact (Subtype.ext_iff (a1:=x.1) (a2:=⟨d,hk⟩)).symm
  rw [List.find?_cons,eq] at e;rw [List.find?_cons];cases hd:decide (x.1=⟨d,hk⟩) with
  | true=>rw [hd] at e;cases e;exact ⟨x.2,rfl,a.2.2⟩
  | false=>rw [hd] at e;exact ih e
def Room.nd (hr:Room d A):(hW S).room A.in1:=by
 have:=hr.un;show A.units+1+5 < cLine;omega
def bE5 {neg:Bool} {z:PyData} (hr:Room d A) (R:Mem S κ M h s) (ra:RepW S M x u) (rb:RepW S M y v) (ea:ref h x=some z) (e:bD1 z y h=some b):Wp S A (compareOp (if neg then .NotIn else .In) u v) (Pw S κ M h (.d (.bool (neg ^^ b)))) E s:=by
 obtain ⟨kvs,e1,e⟩:=bind_some (show (tC y h).bind _=_ from e);obtain ⟨hz,e⟩:=aF e;cases e;obtain ⟨i,p,xs,rfl,ep,ei,rfl,dd,rr,hs,_⟩:=aE9 R rb e1;obtain ⟨hk,a,rfl,ik,_⟩:=qZ R ra ea hz;rw [aF0 hk rr];cases neg
 ·exact wpAny_in_heap hr.nd ik hs dd (by simpa using (R.tok _).pb)
 ·exact wpAny_notIn_heap hr.nd ik hs dd (by simpa using (R.tok _).pb)
def aZ7 {neg:Bool} (hr:Room d A) (R:Mem S κ M h s) (ra:RepW S M x u) (rb:RepW S M y v) (e:xIn x y h=some b):Wp S A (compareOp (if neg then .NotIn else .In) u v) (Pw S κ M h (.d (.bool (neg ^^ b)))) E s:=by
 unfold xIn at e;split at e
 ·rename_i z xs ea eb;obtain ⟨hp,e⟩:=aF e;cases e;rw [Bool.and_eq_true] at hp;obtain ⟨⟨bs,z2⟩,q2⟩:=oT R rb eb hp.1;obtain ⟨⟨as,z1⟩,q1⟩:=oT R ra ea hp.2;cases neg
  ·exact SeqAt.in_list_reads z2 z1 (SeqAt.canLay_of_shaped q2) (SeqAt.canLay_of_shaped q1) (room_in_shaped q1 hr.u65) (by simpa using R.pb)
  ·exact SeqAt.notIn_list_reads z2 z1 (SeqAt.canLay_of_shaped q2) (SeqAt.canLay_of_shaped q1) (room_in_shaped q1 hr.u65) (by simpa using R.pb)
 ·rename_i z xs ea eb;obtain ⟨hp,e⟩:=aF e;cases e;rw [Bool.and_eq_true] at hp;obtain ⟨⟨bs,z2⟩,q2⟩:=oT R rb eb hp.1;obtain ⟨⟨as,z1⟩,q1⟩:=oT R ra ea hp.2;cases neg
  ·exact SeqAt.in_tuple_reads z2 z1 (SeqAt.canLay_of_shaped q2) (SeqAt.canLay_of_shaped q1) (room_in_shaped q1 hr.u65) (by simpa using R.pb)
  ·exact SeqAt.notIn_tuple_reads z2 z1 (SeqAt.canLay_of_shaped q2) (SeqAt.canLay_of_shaped q1) (room_in_shaped q1 hr.u65) (by simpa using R.pb)
 ·rename_i z kvs ea eb;split at e
  ·rename_i k ek;cases e;obtain ⟨a,vs,rfl,dd,rk,hd,_⟩:=xB R rb eb;rw [aE8 k rk];cases neg
   ·exact wpAny_in_of (xC R ra ea ek) hd dd.mapOf (by simpa using (R.tok _).pb)
   ·exact wpAny_notIn_of (xC R ra ea ek) hd dd.mapOf (by simpa using (R.tok _).pb)
  ·obtain ⟨hz,e⟩:=aF e;cases e;rw [Bool.and_eq_true,List.isEmpty_iff] at hz;obtain ⟨rfl,hz⟩:=hz;obtain ⟨a,vs,rfl,⟨o,es,ep,h1,h2,h3,_,h5,_⟩,rk,hd,_⟩:=xB R rb eb;cases rk;have ees:es.toList=[]:=by generalize es.toList=l at h5;cases h5;rfl
   obtain ⟨hk,ka,rfl,ik,_⟩:=qZ R ra ea hz;have dd:s.heap.DictOfH (hW S) a []:=⟨o,es,ep,h1,h2,h3,ees,fun _ z=>(by cases z),List.nodup_nil⟩;cases neg
   ·exact wpAny_in_heap hr.nd ik hd dd (by simpa [atKey] using (R.tok _).pb)
   ·exact wpAny_notIn_heap hr.nd ik hd dd (by simpa [atKey] using (R.tok _).pb)
 ·rename_i z ea eb;exact bE5 hr R ra rb ea e
 ·cases e
def iC {op:CmpOp} {p:Bool×aA} (hr:Room d A) (R:Mem S κ M h s) (ra:RepW S M x u) (rb:RepW S M y v) (e:eU op x y h=some p):p.2=h/\Wp S A (compareOp op u v) (Pw S κ M h (.d (.bool p.1))) E s:=by
 unfold eU at e;split at e
 ·obtain ⟨b,e1,rfl⟩:=map_some e;refine ⟨rfl,?_⟩;unfold xEq at e1;split at e1
  ·rename_i ea eb;obtain ⟨hp,e1⟩:=aF e1;cases e1;rw [Bool.and_eq_true] at hp;obtain ⟨⟨as,z1⟩,q1⟩:=oT R ra ea hp.1;obtain ⟨⟨bs,z2⟩,q2⟩:=oT R rb eb hp.2;exact eq_dataH z1 z2 q1 q2 hr.u64 R.pb
  ·cases e1
 ·obtain ⟨b,e1,rfl⟩:=map_some e;refine ⟨rfl,?_⟩;unfold xEq at e1;split at e1
  ·rename_i ea eb;obtain ⟨hp,e1⟩:=aF e1;cases e1;rw [Bool.and_eq_true] at hp;obtain ⟨⟨as,z1⟩,q1⟩:=oT R ra ea hp.1;obtain ⟨⟨bs,z2⟩,q2⟩:=oT R rb eb hp.2;exact ne_dataH z1 z2 q1 q2 hr.u64 R.pb
  ·cases e1
 ·obtain ⟨b,e1,rfl⟩:=map_some e;unfold xIs at e1;split at e1
  ·obtain ⟨h1,h2⟩:=nF ra rb e1;exact ⟨rfl,wpAny_is_plain h1 (by rw [h2];exact R.pb)⟩
  ·cases e1
 ·obtain ⟨b,e1,rfl⟩:=map_some e;unfold xIs at e1;split at e1
  ·obtain ⟨h1,h2⟩:=nF ra rb e1;exact ⟨rfl,wpAny_isNot_plain h1 (by rw [h2];exact R.pb)⟩
  ·cases e1
 ·obtain ⟨b,e1,rfl⟩:=map_some e;exact ⟨rfl,by simpa using aZ7 (neg:=false) (A:=A) (E:=E) hr R ra rb e1⟩
 ·obtain ⟨b,e1,rfl⟩:=map_some e;exact ⟨rfl,by simpa using aZ7 (neg:=true) (A:=A) (E:=E) hr R ra rb e1⟩
 ·split at e
  ·obtain ⟨f,e1,rfl⟩:=map_some e;obtain ⟨t,rfl⟩:=wi.mp ra;obtain ⟨t',rfl⟩:=wi.mp rb;refine ⟨rfl,?_⟩;cases op<;>cases e1
   ·exact lt_int R.pb
   ·exact le_int R.pb
   ·exact gt_int R.pb
   ·exact ge_int R.pb
  ·cases e
def rA {n:Nat} {i:Int} {j:Nat} (h:ixN n i=some j):seqIndex? i n=some j/\j < n/\-(n:Int)<=i/\i < n:=by
 unfold ixN at h
 by_cases h0:0<=i
 ·rw [if_pos h0] at h;obtain ⟨h1,h⟩:=aF h;cases h;exact ⟨seqIndex_of h0 h1,by omega,by omega,h1⟩
 ·rw [if_neg h0] at h;obtain ⟨h1,h⟩:=aF h;cases h;exact ⟨seqIndex_neg (by omega) h1,by omega,h1,by omega⟩
def rB {α β:Type} {F:α->β->Prop} {l:List α} {r:List β} {i:Int} {a:α} (p:Paired F l r) (e:atI l i=some a):∃ j b,seqIndex? i r.length=some j/\r[j]?=some b/\F a b/\-(r.length:Int)<=i/\i < r.length:=by
 obtain ⟨j,h1,h2⟩:=bind_some e;obtain ⟨b,h3,h4⟩:=mY p h2;rw [p.length] at h1;obtain ⟨q1,_,q3,q4⟩:=rA h1;exact ⟨j,b,q1,h3,h4,q3,q4⟩
def rC:(sizeLine:Nat) < 2^62:=by decide
def aF1 {us:List Value} {n:Nat} {a:Addr} {i:Int} {t:Tok} {j:Nat} {c:Value} {value slice:Expr} {Q:Value->Shared->Prop} (ho:s.heap.get? a=some (cM us n)) (hz:us.length<=sizeLine) (h1:seqIndex? i us.length=some j) (h2:us[j]?=some c) (h3:-(us.length:Int)<=i) (h4:i < us.length)
  (hs:subscripted slice false (.ref a) (.int i t)=operate [.ref a,.int i t] (getItem (.ref a) (.int i t))) (q:Q c s):Wp S A (subscriptTail value slice (.ref a) (.int i t)) Q E s:=by
 have hn:=rC
 by_cases h0:0<=i
 ·have hj:i.toNat=j:=by rw [seqIndex_of h0 h4] at h1;exact Option.some.inj h1
  exact item_listR (cY ho).isList h0 (by omega) (by rw [hj];simpa using h2) q hs
 ·have hj:(i+(us.toArray.size:Int)).toNat=j:=by rw [seqIndex_neg (by omega) h3] at h1;rw [List.size_toArray];exact Option.some.inj h1
  exact subscriptTail_builtinR (x:=c) (cY ho).isList.typeIs slot_list_getitem.lookup
   (wpAny_getItem_list_neg (Q:=fun r s'=>r=c/\Q r s') (cY ho).isList (by omega) (by rw [List.size_toArray]<;>omega) (by omega) (by rw [hj];simpa using h2) ⟨rfl,q⟩) hs
def rD {T id:String} {o i:Value} {value slice:Expr} {Q:Value->Shared->Prop} (hT:s.TypeIs o T) (hl:typeLookup (.type T) "__getitem__"=pure (some (.builtin id))) (hs:subscripted slice false o i=operate [o,i] (getItem o i)) (h:Wp S A (getItem o i) Q E s):Wp S A (subscriptTail value slice o i) Q E s:=by
 unfold subscriptTail;refine wpAny_bind ?_;rw [getitemInPython_of_ne hT.not_modules];refine wpAny_bind (wpAny_specialOf hT hl ?_);have fin:Wp S A (subscripted slice false o i) (fun r s₃=>Wp S A (letTemporaryGo value o r >>= fun _=>pure r) Q E s₃) E s:=by
  rw [hs];exact wpAny_operating (wpAny_mono h (fun r s₃ h₃=>wpAny_bind (wpAny_letTemporaryGo (wpAny_pure h₃))) fun _ _ x=>x)
 first
  | exact wpAny_pure (wpAny_bind fin)
  | exact wpAny_bind (wpAny_pure (wpAny_bind fin))
  | exact wpAny_bind fin
def bS2 {value slice:Expr} (hr:Room d A) (R:Mem S κ M h s) (ra:RepW S M x u) (rb:RepW S M y v) (e:xIx x y h=some (w,h')) (hs:∀ o i,subscripted slice false o i=operate [o,i] (getItem o i)):Wp S A (subscriptTail value slice u v) (Pw S κ M h' w) E s:=by
 unfold xIx at e;cases ea:ref h x with
 | none =>
  rw [ea] at e;cases y with
  | c _=>cases e
  | d y =>
   cases y with
   | int k =>
    replace e:xIr x k h=some (w,h'):=e
    unfold xIr at e;split at e
    ·rename_i i;split at e
     ·rename_i is ei;obtain ⟨z,ez,e⟩:=map_some e;cases e;obtain ⟨t,rfl⟩:=wi.mp rb;obtain ⟨p,ep,rfl⟩:=ra;obtain ⟨us,n,ho,hz,rr⟩:=R.cel i p _ ep ei;obtain ⟨j,c,h1,h2,h3,h4,h5⟩:=rB (wW rr) ez;exact aF1 ho hz h1 h2 h4 h5 (hs _ _) (R.pw h3)
     ·cases e
    ·cases e
   | tuple ks =>
    obtain ⟨kvs,e1,e⟩:=bind_some (show (tC x h).bind _=_ from e);obtain ⟨hz,e⟩:=aF e;obtain ⟨q,eq,e⟩:=map_some e;cases e;obtain ⟨i,p,xs,rfl,ep,ei,rfl,dd,rr,hsm,_⟩:=aE9 R ra e1;obtain ⟨hk,a,rfl,ik,_⟩:=qZ (h:=h) R rb rfl hz;obtain ⟨c,hc,rc⟩:=aS1 hk rr eq;exact rD dd.typeIs PySem.F.slot_dict_getitem.lookup (hs _ _) (wpAny_getItem_heap hr.nd ik dd hc ((R.tok _).pw rc))
   | _=>cases e
 | some t =>
  rw [ea] at e;cases t with
  | list xs =>
   cases y with
   | c _=>cases e
   | d y =>
    cases y with
    | int i =>
     obtain ⟨z,ez,e⟩:=map_some e;cases e;obtain ⟨t,rfl⟩:=wi.mp rb;obtain ⟨a,us,n,rfl,ho,hz,rr⟩:=dS R ra ea;obtain ⟨j,c,h1,h2,h3,h4,h5⟩:=rB rr ez;exact aF1 ho hz h1 h2 h4 h5 (hs _ _) (R.pw h3)
    | _=>cases e
  | tuple xs =>
   cases y with
   | c _=>cases e
   | d y =>
    cases y with
    | int i =>
     obtain ⟨z,ez,e⟩:=map_some e;cases e;obtain ⟨t,rfl⟩:=wi.mp rb;obtain ⟨a,us,n,rfl,ho,hz,rr⟩:=gX R ra ea;obtain ⟨j,c,h1,h2,h3,h4,h5⟩:=rB rr ez;have pl:=fS (R.z _ _ ho);have hn:=rC;exact subscriptTail_builtinR (x:=c) pl.typeIs slot_tuple_getitem.lookup (getItem_tuple (j:=j) (Q:=fun r s'=>r=c/\Pw S κ M h (.d z) r s') pl (by omega) (by omega) (by rw [List.size_toArray];exact h1) (by simpa using h2) ⟨rfl,R.pw h3⟩) (hs _ _)
    | _=>cases e
  | dict kvs =>
   cases y with
   | c _=>cases e
   | d z =>
    dsimp only at e;cases ek:cC z with
    | none=>rw [ek] at e;cases e
    | some k =>
     rw [ek] at e;obtain ⟨p,ep,e⟩:=map_some e;cases e;obtain ⟨a,vs,rfl,dd,rk,hd,_⟩:=xB R ra ea;obtain ⟨c,hc,rc⟩:=(pG k rk).1 p ep;exact rD dd.typeIs PySem.F.slot_dict_getitem.lookup (hs _ _) (wpAny_getItem_of (uX ek rb) dd.mapOf hc ((R.tok _).pw rc))
  | _=>cases e
end
end DL

namespace DL
open PySem PySem.Spec PyProof.Rows L2 CI
section
variable {S:Sx} {κ:Kp} {M:Mp} {h h':aA} {s:Shared} {A:Around} {E:Value->Shared->Prop} {x y w:W} {u v:Value} {d:Nat} {b:Bool} {ws:List W} {us:List Value}
def aF2 {α:Type} (xs:List α) (lo hi:Option Int):((xs.drop (HT.sIx xs.length 0 lo)).take (HT.sIx xs.length xs.length hi - HT.sIx xs.length 0 lo)).length<=xs.length:=by rw [List.length_take,List.length_drop];omega
def rE (lo hi:Option Int) (n:Nat):(sliceBounds lo hi none n).1=((HT.sIx n 0 lo:Nat):Int)/\(sliceBounds lo hi none n).2.1=((HT.sIx n n hi:Nat):Int)/\(sliceBounds lo hi none n).2.2=1:=by
 refine ⟨?_,?_,rfl⟩
 ·cases lo with
  | none=>simp [sliceBounds,HT.sIx]
  | some i =>
   simp only [sliceBounds,HT.sIx,Option.getD_none,show (1:Int) > 0 by decide,if_true]
   by_cases h:i < 0
   ·simp only [h,if_true]<;>omega
   ·simp only [h,if_false]<;>omega
 ·cases hi with
  | none=>simp [sliceBounds,HT.sIx]
  | some i =>
   simp only [sliceBounds,HT.sIx,Option.getD_none,show (1:Int) > 0 by decide,if_true]
   by_cases h:i < 0
   ·simp only [h,if_true]<;>omega
   ·simp only [h,if_false]<;>omega
def oU (its:List Value) (lo hi:Option Int):slicePick its.toArray lo hi none=((its.drop (HT.sIx its.length 0 lo)).take (HT.sIx its.length its.length hi - HT.sIx its.length 0 lo)).toArray:=by
 obtain ⟨h1,h2,h3⟩:=rE lo hi its.toArray.size;unfold slicePick;rw [h1,h2,h3];simp only [sliceRange_one,pick_run,List.size_toArray]<;>rfl
def zJ {prog:Program} {w:World} {A:Around} {E:Value->Shared->Prop} {s:Shared} {t sl:Addr} {items:Array Value} {vl vu:Value} {lo hi:Option Int} {Q:Value->Shared->Prop} (ht:IsTup s.heap t items) (hs:s.heap.IsSliceOf sl vl vu .none) (pl:IsPart vl lo) (pu:IsPart vu hi)
  (hw:HT.sIx items.size 0 lo=0/\HT.sIx items.size items.size hi=items.size) (h:Q (.ref t) s):wpAny (model prog w) A (getItem (.ref t) (.ref sl)) Q E s:=by
 obtain ⟨os,hos,hcs,hds⟩:=id hs;have hTs:s.TypeIs (.ref sl) "slice":=⟨os,hos,hcs⟩;unfold getItem;try with_reducible refine wpAny_holding ?_
 first | refine wpAny_bind (wpAny_pure ?_) | skip
 refine wpAny_bind (wpAny_sequenceKey ht.typeIs (by decide) ?_);refine wpAny_bind (wpAny_callSpecial?_slot (name:=Str.ofString "__getitem__") ht.typeIs PyProof.Rows.slot_tuple_getitem
  (wpAny_call_entry PyProof.Rows.slot_tuple_getitem ht.typeIs entry_tuple_getitem ?_ (args_tuple_getitem _ _)))
 show wpAny _ _ (Builtin.Tuple.tupleItemsOf (.ref t) >>= _) _ _ s;refine wpAny_bind (tupleItemsOf_ ht (wpAny_bind (wpAny_typeOf hTs ?_)));rw [if_pos (by decide)];refine wpAny_bind (HT.sliceApplied_gen hs pl pu ?_);have hy:(((HT.sIx items.size 0 lo:Nat):Int)==0&&(1:Int)==1&&(HT.sIx items.size items.size hi - HT.sIx items.size 0 lo)==items.size)=true:=by
  rw [hw.1,hw.2];simp
 show wpAny _ _ (if (((HT.sIx items.size 0 lo:Nat):Int)==0&&(1:Int)==1&&(HT.sIx items.size items.size hi - HT.sIx items.size 0 lo)==items.size)=true then _ else _) _ _ s;rw [if_pos hy];refine wpAny_bind (wpAny_bind (wpAny_typeOf ht.typeIs (wpAny_pure ?_)));rw [if_pos (by decide)];exact wpAny_bind (wpAny_rule (wpAny_pure ⟨_,rfl,wpAny_pure h⟩))
def sl_l {xs:List PyData} {vl vu:Value} {lo hi:Option Int} {sl:Addr} (R:Mem S κ M h s) (ra:RepW S M x u) (e:ref h x=some (.list xs)) (hs:s.heap.IsSliceOf sl vl vu .none) (pl:IsPart vl lo) (pu:IsPart vu hi):s.TypeIs u "list"/\Wp S A (getItem u (.ref sl)) (Pf S κ M h (cut xs lo hi)) E s:=by
 obtain ⟨a,us,n,rfl,ho,hz,rr⟩:=dS R ra e;refine ⟨(cY ho).isList.typeIs,wpAny_getItem_list_slice (cY ho).isList hs pl pu .none (by simp) ?_ (by rw [List.size_toArray]<;>omega)⟩;rw [oU];unfold cut;rw [rr.length];exact R.lstP (t:=s.toks) (n:=0) (aD3 _ (aD4 _ rr)) (Nat.le_trans (aF2 us lo hi) hz)
def sl_t {xs:List PyData} {vl vu:Value} {lo hi:Option Int} {sl:Addr} (R:Mem S κ M h s) (ra:RepW S M (.d (.tuple xs)) u) (hs:s.heap.IsSliceOf sl vl vu .none) (pl:IsPart vl lo) (pu:IsPart vu hi):s.TypeIs u "tuple"/\Wp S A (getItem u (.ref sl)) (Pw S κ M h (.d (.tuple (cut xs lo hi)))) E s:=by
 obtain ⟨a,us,n,rfl,ho,hz,rr⟩:=gX (h:=h) R ra rfl;have ht:=fS (R.z _ _ ho);have hl:=rr.length;have hlen:us.toArray.size=us.length:=List.size_toArray;refine ⟨ht.typeIs,?_⟩
 by_cases hw:HT.sIx us.length 0 lo=0/\HT.sIx us.length us.length hi=us.length
 ·refine zJ ht hs pl pu (by rw [hlen];exact hw) ?_;have ec:cut xs lo hi=xs:=by
   unfold cut;rw [hl,hw.1,hw.2,List.drop_zero,Nat.sub_zero,<- hl,List.take_length]
  rw [ec];exact R.pw ra
 ·refine HT.getItem_tuple_cut ht hs pl pu (by rw [hlen];exact hw) ?_ (by rw [hlen];exact hz);rw [hlen];unfold cut;rw [hl];exact R.tup (t:=s.toks) (aD3 _ (aD4 _ rr)) (Nat.le_trans (aF2 us lo hi) hz)
def w1 (r:RepWs S M [x] us):∃ u,us=[u]/\RepW S M x u:=by cases r with | cons a b=>cases b;exact ⟨_,rfl,a⟩
def w2 (r:RepWs S M [x,y] us):∃ u v,us=[u,v]/\RepW S M x u/\RepW S M y v:=by cases r with | cons a b=>obtain ⟨v,rfl,c⟩:=w1 b;exact ⟨_,v,rfl,a,c⟩
def BfS (S:Sx) (f:Value) (g:List W->aA->Option (W×aA)):Prop:=∀ {κ:Kp} {M:Mp} {h h':aA} {s:Shared} {A:Around} {E:Value->Shared->Prop} {ws:List W} {us:List Value} {w:W} {d:Nat},Room d A->S.K.In S.base->(s.heap.objs.size==sysModules)=false->Mem S κ M h s->RepWs S M ws us->g ws h=some (w,h')->Wp S A (call f us) (Pw S κ M h' w) E s
def len_nd {d:Addr} {xs:List (HK×Addr×Value)} {Q:Value->Shared->Prop} (hd:(d==sysModules)=false) (hm:NdO S s.heap d xs) (hfit:(xs.length:Int) < 2^63)
  (h:Q (.int xs.length (s.toks+1)) { s with toks:=s.toks+1+1 }):Wp S A (call (.builtin "len") [.ref d]) Q E s:=by
 obtain ⟨o,es,ep,ho,hc,hdat,he,hn⟩:=hm;have hT:s.TypeIs (.ref d) "dict":=⟨o,ho,hc.1⟩;have hes:es.size=xs.length:=size_of_entries he;refine Calls.call_function_entry kind_len plain_len entry_len (args_len1 _) ?_;have M:MeetsIn S.P S.w (Builtin.«dict.__len__» ⟨[.ref d],[]⟩) (fun _ R s=>∃ o es ep,s.heap.get? d=some o/\o.data=.dict es ep/\R (.ok (.ret (.int es.size s.toks))) { s with toks:=s.toks+1 }):=.of_wp fun A R s ⟨o,es,ep,ho,hdat,h⟩=>by
  show wpAny _ _ (dictSize d >>= _) _ _ s;unfold dictSize;refine wpAny_bind (wpAny_bind (wpAny_dictEntries ho hdat (wpAny_pure ?_)));show wpAny _ _ (Builtin.Dict.pendingCount d >>= _) _ _ s;refine wpAny_bind (wpAny_pendingCount_other hd ?_);refine wpAny_ret_mkInt ?_;rw [Nat.add_zero];exact h
 refine wpAny_bind (m:=oneArg "len" _) (wpAny_pure ?_);refine wpAny_bind (m:=callSpecial? (.ref d) (Str.ofString "__len__")) (wpAny_callSpecial?_slot (name:=Str.ofString "__len__") hT F.slot_dict_len
  (call_meetsIn F.slot_dict_len hT F.entry_dict_len (F.args_dict_len_1 _) M ⟨o,es,ep,ho,hdat,?_⟩))
 show wpAny _ _ _ _ _ { s with toks:=s.toks+1 };rw [hes];refine wpAny_bind (wpAny_holding (wpAny_pure ?_));refine wpAny_bind (wpAny_letGo ?_);show wpAny _ _ (if ((xs.length:Nat):Int) < 0 then _ else _) _ _ _;rw [if_neg (by omega)];show wpAny _ _ (if ((xs.length:Nat):Int) ≥ 2^63 then _ else _) _ _ _;rw [if_neg (by omega)];exact wpAny_bind (wpAny_mkInt (wpAny_pure ⟨_,rfl,h⟩))
def bS3:BfS S (.builtin "len") bJ:=by
 intro κ M h h' s A E ws us w d hr hK hsm R r e;have hn:=rC;unfold bJ at e;split at e
 ·obtain ⟨u,rfl,ra⟩:=w1 r;split at e
  ·rename_i ea;cases e;obtain ⟨a,vs,n,rfl,ho,hz,rr⟩:=dS R ra ea;refine Calls.call_len_list (cY ho).isList (by simp only [List.size_toArray]<;>omega) ?_;rw [List.size_toArray,rr.length];exact R.pi
  ·rename_i ea;cases e;obtain ⟨a,vs,n,rfl,ho,hz,rr⟩:=gX R ra ea;refine len_tuple (fS (R.z _ _ ho)) (by simp only [List.size_toArray]<;>omega) ?_;rw [List.size_toArray,rr.length];exact R.pi
  ·rename_i ea;obtain ⟨k,ek,e⟩:=map_some e;cases e;rename_i x;unfold bR4 at ek;split at ek
   ·rename_i j;obtain ⟨p,ep,rfl⟩:=ra;split at ek
    ·rename_i is ei;cases ek;obtain ⟨vs,n,ho,hz,rr⟩:=R.cel j p _ ep ei;have hl:=rr.length;rw [List.length_map] at hl;refine Calls.call_len_list (cY ho).isList (by simp only [List.size_toArray]<;>omega) ?_;rw [List.size_toArray,<- hl];exact R.pi
    ·rename_i kvs ei;cases ek;obtain ⟨xs,nd,rr,hs,hz⟩:=R.cel j p _ ep ei;have hl:=rr.length;exact len_nd hs nd (by omega) (by rw [<- hl];exact (R.tok _).pi)
    ·cases ek
   ·cases ek
  ·cases e
 ·cases e
def aS2:BfS S (.type "tuple") bX:=by
 intro κ M h h' s A E ws us w d hr hK hsm R r e;unfold bX at e;split at e
 ·obtain ⟨u,rfl,ra⟩:=w1 r;split at e
  ·rename_i ea;cases e;obtain ⟨a,vs,n,rfl,ho,hz,rr⟩:=dS R ra ea;refine call_tuple_list (cY ho).isList (fun h2 kp=>?_) (by simp only [List.size_toArray]<;>omega);exact (R.kept (t:=s.toks) kp).tup (t:=s.toks) rr hz
  ·rename_i ea;cases e;obtain ⟨a,vs,n,rfl,ho,hz,rr⟩:=gX R ra ea;exact call_tuple_same (fS (R.z _ _ ho)) (R.pw (rep_t.mpr ⟨a,_,vs,rfl,ho,⟨⟨n,rfl⟩,hz⟩,rr⟩))
  ·cases e
 ·cases e
theorem pH {Z:Zm}:∀ {xs:List PyData} {bs:List Bool} {us:List Value},eT xs=some bs->Paired (Rep S Z) xs us->us=bs.map .bool
 | [],_,_,e,h=>by cases e;cases h;rfl
 | x::r,bs,us,e,h=>by
  cases h with
  | cons a t =>
   cases x with
   | bool b =>
    unfold eT at e;obtain ⟨cs,q,rfl⟩:=map_some e;rw [rep_b.mp a,pH q t];rfl
   | _=>cases e
def zK {f:Nat->Bool} (bs:List Bool) (h:∀ i b,bs[i]?=some b->f i=b):(List.range bs.length).all f=bs.all id:=by
 rw [Bool.eq_iff_iff,List.all_eq_true,List.all_eq_true];constructor
 ·intro z b hb;obtain ⟨i,hi,e⟩:=List.mem_iff_getElem.mp hb;have:=z i (by simpa using hi);rw [h i b (by simp [hi,e])] at this;exact this
 ·intro z i hi;have hi':i < bs.length:=by simpa using hi
  rw [h i bs[i] (by simp [hi'])];exact z _ (List.getElem_mem hi')
def bS4:BfS S (.builtin "all") iY:=by
 intro κ M h h' s A E ws us w d hr hK hsm R r e;unfold iY at e;split at e
 ·obtain ⟨u,rfl,ra⟩:=w1 r;split at e
  ·rename_i ea;obtain ⟨bs,eb,e⟩:=map_some e;cases e;obtain ⟨p,vs,n,rfl,ho,hz,rr⟩:=dS R ra ea;have ev:=pH eb rr;subst ev;have pl:=(cY ho).isList;refine call_all_walk (wpAny_pyIter_list pl ?_);refine ⟨s.heap.objs.size,_,_,(bs.map Value.bool).toArray.size,_,_,fun i=>(bs[i]?).getD true,rfl,Walks.list (A:=A.in1) hr.hd s.heap.objs.size p (Nat.ne_of_lt (Heap.lt_size ho)) (bs.map Value.bool).toArray,⟨⟨_,Heap.get?_push_size _ rfl,rfl,rfl⟩,?_⟩,fun i v s' Q' E' hP hQ=>?_,fun h2 tk hk=>?_⟩
   ·obtain ⟨o,ho,r⟩:=pl;exact ⟨o,Heap.get?_push_of_some _ ho,r⟩
   ·have hP':(bs.map Value.bool)[i]?=some v:=by simpa using hP
    rw [List.getElem?_map] at hP';obtain ⟨b,eb,rfl⟩:=map_some hP';dsimp only at hQ;rw [eb] at hQ;exact wpAny_truthy_bool hQ
   ·have e:(List.range (bs.map Value.bool).toArray.size).all (fun i=>(bs[i]?).getD true)=bs.all id:=by
     have:=zK (f:=fun i=>(bs[i]?).getD true) bs (fun i b e=>by simp [e]);rw [List.size_toArray,List.length_map];exact this
    rw [e];refine (R.kept fun b o eo=>hk b o ?_ (Heap.get?_push_of_some _ eo)).pb;intro z;rw [List.mem_singleton.mp z] at eo;exact absurd (Heap.lt_size eo) (Nat.lt_irrefl _)
  ·cases e
 ·cases e
def bS5:BfS S (.type "int") aE0:=by
 intro κ M h h' s A E ws us w d hr hK hsm R r e;unfold aE0 at e;split at e
 ·cases e;obtain ⟨u,rfl,ra⟩:=w1 r;cases wb.mp ra;exact call_int_bool R.pi
 ·cases e
def aF3 {xs:List PyData} (R:Mem S κ M h s) (ra:RepW S M x u) (e:ref h x=some (.list xs)\/ref h x=some (.tuple xs)):Wp S A (call (.type "list") [u]) (Pf S κ M h xs) E s:=by
 rcases e with e | e
 ·obtain ⟨a,vs,n,rfl,ho,hz,rr⟩:=dS R ra e;exact call_list_seq a (.inl rfl) ho rfl rfl (fun h2 c kp e=>R.lst (t:=s.toks) kp e rr hz) (by simp only [List.size_toArray]<;>omega)
 ·obtain ⟨a,vs,n,rfl,ho,hz,rr⟩:=gX R ra e;exact call_list_seq a (.inr rfl) (R.z _ _ ho) rfl rfl (fun h2 c kp e=>R.lst (t:=s.toks) kp e rr hz) (by simp only [List.size_toArray]<;>omega)
def nG (T:String):Prop:=∀ (K:PySem.W.Frag) (d:PyData),PySem.W.kitOne K (.type (dU d)) (.type T)=some (isi d T)
def aS3:nG "int":=fun K d=>by cases d<;>kernel_rfl
def aF4:nG "bool":=fun K d=>by cases d<;>kernel_rfl
def aS4:nG "str":=fun K d=>by cases d<;>kernel_rfl
def zL:nG "tuple":=fun K d=>by cases d<;>kernel_rfl
def aF5:nG "list":=fun K d=>by cases d<;>kernel_rfl
def rG {z:PyData} (e:ref h x=some z) (n:(dU z=="list"||dU z=="dict")=false):x=.d z:=by
 cases x with
 | d y=>cases e;rfl
 | c i =>
  dsimp only [DL.ref] at e;cases q:h[i]? with
  | none=>rw [q] at e;cases e
  | some c=>cases c<;>(rw [q] at e;cases e)<;>cases n
def aZ8 {z:PyData} (R:Mem S κ M h s) (r:RepW S M x u) (e:ref h x=some z):∃ H,PySem.W.KitX S.K u (.type (dU z)) H/\H s.heap/\u≠.builtin "__main__.__loader__#opaque":=by
 cases z with
 | none=>cases rG e rfl;cases wn.mp r;exact ⟨_,PySem.W.kitx_none,True.intro,fun z=>nomatch z⟩
 | bool b=>cases rG e rfl;cases wb.mp r;exact ⟨_,PySem.W.kitx_bool,True.intro,fun z=>nomatch z⟩
 | int i=>cases rG e rfl;obtain ⟨t,rfl⟩:=wi.mp r;exact ⟨_,PySem.W.kitx_int,True.intro,fun z=>nomatch z⟩
 | str i=>cases rG e rfl;obtain ⟨⟨t,rfl⟩,_⟩:=rep_s.mp (show Rep S M.Z _ _ from r);exact ⟨_,PySem.W.kitx_str,True.intro,fun z=>nomatch z⟩
 | list xs=>obtain ⟨a,us,n,rfl,ho,_⟩:=dS R r e;exact ⟨_,PySem.W.kitx_list,⟨_,ho,rfl⟩,fun z=>nomatch z⟩
 | tuple xs=>obtain ⟨a,us,n,rfl,ho,_⟩:=gX R r e;exact ⟨_,PySem.W.kitx_tuple,⟨_,R.z _ _ ho,rfl⟩,fun z=>nomatch z⟩
 | dict xs=>obtain ⟨a,vs,rfl,⟨o,_,_,ho,ex,_⟩,_⟩:=xB R r e;exact ⟨_,PySem.W.kitx_dict,⟨o,ho,ex.1⟩,fun z=>nomatch z⟩
def bE6 {z:PyData} {T:String} (hK:S.K.In S.base) (hk:nG T) (R:Mem S κ M h s) (r:RepW S M x u) (e:ref h x=some z):Wp S A (call (.builtin "isinstance") [u,.type T]) (Pw S κ M h (.d (.bool (isi z T)))) E s:=by
 obtain ⟨H,kx,p,n⟩:=aZ8 R r e;exact PySem.W.kia_one kx (hK.keeps R.bk) p (hk S.K z) n fun tk=>(R.tok tk).pb
end
end DL

namespace DL
open PySem PySem.Spec PyProof.Rows L2 CI
abbrev NE:Value->Shared->Prop:=fun _ _=>False
structure Mod (S:Sx):Prop where
 kin:S.K.In S.base
 glob:S.base.Ns mainGlobals S.mg
 blt:∃ mb,S.base.Ns builtinsNs mb/\∀ x:Str,x≠"__name__"->mb x=bootBuiltins x
 nolimit:S.base.NoLimit
structure Cx where
 S:Sx
 A:Around
 N:List Str
 env:Env
 fn:Bool
def Vis (sc:Scope) (x:Str):Prop:=sc.names.lookup x=some .local\/sc.names.lookup x=some .cell\/sc.names.lookup x=some .free
def Loc (sc:Scope) (x:Str):Prop:=sc.names.lookup x=some .local\/sc.names.lookup x=some .cell
structure Cx.Ok (X:Cx):Prop where
 mod:Mod X.S
 kind:X.env.scope.kind=.function
 glob:X.env.globals=mainGlobals
 blt:X.env.builtins=builtinsNs
 inj:∀ x y c,X.env.cells.lookup x=some c->X.env.cells.lookup y=some c->x=y
 has:∀ x,(X.env.kindOf x=some .cell\/X.env.kindOf x=some .free)->∃ c,X.env.cells.lookup x=some c
 bsz:X.S.base.objs.size<=X.env.locals
 nd:X.N.Nodup
def aZ9 (o:Obj) (m:Str->Option Value):Prop:=∃ es ep,o.data=.dict es ep/\StrKeys es/\∀ name,nsFind es name=m name
def bS6 (env:Env) (κ:Kp) (m:Str->Option Value) (x:Str) (u:Value):Prop :=
 (env.kindOf x=some .local/\m x=some u)\/((env.kindOf x=some .cell\/env.kindOf x=some .free)/\∃ c o,env.cells.lookup x=some c/\κ c=some (true,o)/\o.data=.cell (some u))
def FrO (κ:Kp) (A:Around):Prop:=∃ l,A.frames=some l/\∀ env∈l,env.scope.kind≠.module/\∃ L o,env.frame=some L/\κ L=some (false,o)/\∀ vs,o.data≠.fields vs
def FrO.kp {κ κ':Kp} {A:Around} (F:FrO κ A) (k:∀ a,(∃ l env,A.frames=some l/\env∈l/\env.frame=some a)->κ' a=κ a):FrO κ' A :=
 let ⟨l,e,f⟩:=F;⟨l,e,fun env he=>let ⟨h1,L,o,h2,h3,h4⟩:=f env he;⟨h1,L,o,h2,by rw [k L ⟨l,env,e,he,h2⟩];exact h3,h4⟩⟩
def FrO.up {κ:Kp} {A:Around} {a:Addr} {o:Obj} (F:FrO κ A) (ho:∀ vs,o.data≠.fields vs):FrO (fun b=>if b=a then some (false,o) else κ b) A :=
 let ⟨l,e,f⟩:=F;⟨l,e,fun env he=>let ⟨h1,L,o',h2,h3,h4⟩:=f env he;⟨h1,L,if L=a then o else o',h2,by dsimp only;split<;>first | rfl | exact h3,by split<;>assumption⟩⟩
def bS7 (X:Cx) (a:Addr):Prop:=a=X.env.locals\/(∃ x,X.env.cells.lookup x=some a)\/∃ l env,X.A.frames=some l/\env∈l/\env.frame=some a
structure Fra (X:Cx) (κ:Kp) (M:Mp) (δ:DSt):Prop where
 ok:X.Ok
 len:δ.length=X.N.length
 loc:∃ o m,κ X.env.locals=some (false,o)/\aZ9 o m/\∀ (i:Nat) x w,X.N[i]?=some x->δ[i]?=some (some w)->Vis X.env.scope x->∃ u,RepW X.S M w u/\bS6 X.env κ m x u
 cell:∀ x c,X.env.cells.lookup x=some c->∃ o v,κ c=some (true,o)/\o.data=.cell v
 frs:FrO κ X.A
def Own (X:Cx) (κ κ':Kp):Prop:=∀ a,κ' a≠κ a->a=X.env.locals\/(X.fn=true/\∃ x,X.env.cells.lookup x=some a)
def Own.refl {X:Cx} {κ:Kp}:Own X κ κ:=fun _ h=>(h rfl).elim
def Own.trans {X:Cx} {κ κ' κ2:Kp} (a:Own X κ κ') (b:Own X κ' κ2):Own X κ κ2:=fun c h=>by
 by_cases e:κ' c=κ c
 ·exact b c (by rw [e];exact h)
 ·exact a c e
section
variable {X:Cx} {κ:Kp} {M M':Mp} {δ:DSt} {h h':aA} {s:Shared} {A:Around} {E:Value->Shared->Prop} {w:W} {u:Value} {d:Nat} {x:Str} {pos:Pos}
def Fra.go (F:Fra X κ M δ) (l:Le M M'):Fra X κ M' δ :=
 ⟨F.ok,F.len,let ⟨o,m,h1,h2,h3⟩:=F.loc;⟨o,m,h1,h2,fun i x w a b c=>let ⟨u,r,q⟩:=h3 i x w a b c;⟨u,r.go l,q⟩⟩,F.cell,F.frs⟩
def Fra.ns (F:Fra X κ M δ) (R:Mem X.S κ M h s):∃ m,s.heap.Ns X.env.locals m/\∀ (i:Nat) x w,X.N[i]?=some x->δ[i]?=some (some w)->Vis X.env.scope x->∃ u,RepW X.S M w u/\bS6 X.env κ m x u:=by
 obtain ⟨o,m,h1,⟨es,ep,h2,h3,h4⟩,h5⟩:=F.loc;obtain ⟨_,⟨sl,e⟩,_⟩:=R.k _ _ _ h1;exact ⟨m,⟨_,es,ep,e,h2,h3,h4⟩,h5⟩
def Fra.size (F:Fra X κ M δ) (R:Mem X.S κ M h s):X.S.base.objs.size<=s.heap.objs.size:=by
 obtain ⟨m,hn,_⟩:=F.ns R;exact Nat.le_trans F.ok.bsz (Nat.le_of_lt hn.lt)
def bS8 {i:Nat} (F:Fra X κ M δ) (R:Mem X.S κ M h s) (hi:X.N[i]?=some x) (e:δ[i]?=some (some w)) (hv:Vis X.env.scope x) (hn:cG x=true):Wp X.S X.A (eval (.Name x pos) X.env) (Pw X.S κ M h w) E s:=by
 unfold cG at hn;simp only [Bool.and_eq_true,Bool.not_eq_true'] at hn;obtain ⟨m,hns,hl⟩:=F.ns R;obtain ⟨u,r,l⟩:=hl i x w hi e hv;rcases l with ⟨hk,hm⟩ | ⟨hk,c,o,hc,ho,hd⟩
 ·exact wpAny_Name (wpAny_loadName_local F.ok.kind hk hns hm (R.pw r)) hn.1
 ·have hcell:s.heap.IsCell c (some u):=⟨o,(R.k _ _ _ ho).1 rfl,hd⟩;rcases hk with hk | hk
  ·exact wpAny_Name (wpAny_loadName_cell F.ok.kind hk hc hcell (R.pw r)) hn.1
  ·exact wpAny_Name (wpAny_loadName_free F.ok.kind hk hc hcell (R.pw r) hn.2.1) hn.1
def Gl (X:Cx) (x:Str):Prop:=X.env.kindOf x=some .globalImplicit
def fT {Q:Value->Shared->Prop} (F:Fra X κ M δ) (R:Mem X.S κ M h s) (hg:Gl X x) (hm:X.S.mg x=some u) (hn:cG x=true) (q:Q u s):Wp X.S X.A (eval (.Name x pos) X.env) Q E s:=by
 unfold cG at hn;simp only [Bool.and_eq_true,Bool.not_eq_true'] at hn;exact Calls.Name_function_global F.ok.kind hg (Calls.loadGlobal_global (by rw [F.ok.glob];exact F.ok.mod.glob.keeps R.bk) hm q) hn.1
def eK {Q:Value->Shared->Prop} (F:Fra X κ M δ) (R:Mem X.S κ M h s) (hg:Gl X x) (hm:X.S.mg x=none) (hv:bootBuiltins x=some u) (hn:cG x=true) (q:Q u s):Wp X.S X.A (eval (.Name x pos) X.env) Q E s:=by
 unfold cG at hn;simp only [Bool.and_eq_true,Bool.not_eq_true'] at hn;obtain ⟨mb,h1,h2⟩:=F.ok.mod.blt;exact Calls.Name_function_global F.ok.kind hg (Calls.loadGlobal_builtin (by rw [F.ok.glob];exact F.ok.mod.glob.keeps R.bk) hm (by rw [F.ok.blt];exact h1.keeps R.bk) ((h2 x (fun z=>by rw [z] at hn;exact absurd hn.2.2 (by decide))).trans hv) q) hn.1
def tK {N:List Str} (hN:N.Nodup) {i j:Nat} {x:Str} (a:N[i]?=some x) (b:N[j]?=some x):i=j:=by
 obtain ⟨h1,e1⟩:=List.getElem?_eq_some_iff.mp a;obtain ⟨h2,e2⟩:=List.getElem?_eq_some_iff.mp b;exact (List.getElem_inj hN).mp (e1.trans e2.symm)
def xD {i:Nat} {Md:Model} {Q:Unit->Shared->Prop} (F:Fra X κ M δ) (R:Mem X.S κ M h s) (hi:X.N[i]?=some x) (hx:Loc X.env.scope x) (hf:X.fn=true\/X.env.scope.names.lookup x=some .local) (r:RepW X.S M w u)
  (q:∀ s' κ',Own X κ κ'->Mem X.S κ' M h s'->Fra X κ' M (δ.set i (some w))->(∃ a,Heap.SameBut a s.heap s'.heap/\κ a≠none)->Q () s'):wpAny Md A (storeName X.env x u) Q E s:=by
 have hiδ:i < δ.length:=by rw [F.len];exact (List.getElem?_eq_some_iff.mp hi).1
 have hcls:(X.env.scope.kind==.class||(X.env.scope.kind==.module&&X.env.locals != X.env.globals))=false:=by rw [F.ok.kind];rfl
 obtain ⟨o,m,h1,⟨es,ep,h2,h3,h4⟩,h5⟩:=F.loc;obtain ⟨_,⟨sl,e⟩,_⟩:=R.k _ _ _ h1;have hn:s.heap.Ns X.env.locals m:=⟨_,es,ep,e,h2,h3,h4⟩;rcases hx with hk | hk
 ·refine wpAny_storeName_local hk hn (fun h' hn' hs=>?_) hcls;obtain ⟨o',es',ep',ho',hd',hk',hm'⟩:=hn';refine q _ (κ.up X.env.locals (false,o')) (fun a ha=>?_) (R.own h1 (fun b ob hb q=>(hs.2 b hb).trans q) ho' R.bare rfl) ⟨F.ok,by rw [List.length_set];exact F.len,⟨o',_,nE,⟨es',ep',hd',hk',hm'⟩,fun j y w' e1 e2 e3=>?_⟩,fun y c ec=>?_,F.frs.up fun vs z=>by rw [hd'] at z;cases z⟩ ⟨_,hs,by rw [h1];exact fun z=>nomatch z⟩
  ·by_cases z:a=X.env.locals
   ·exact .inl z
   ·exact (ha (dT z)).elim
  ·by_cases hj:j=i
   ·subst hj;rw [hi] at e1;cases e1;rw [List.getElem?_set_self hiδ] at e2;cases e2;exact ⟨u,r,.inl ⟨hk,by simp⟩⟩
   ·rw [List.getElem?_set_ne (Ne.symm hj)] at e2;obtain ⟨u',r',l⟩:=h5 j y w' e1 e2 e3;refine ⟨u',r',?_⟩;rcases l with ⟨k,e⟩ | ⟨k,c,oc,ec,eo,ed⟩
    ·have:y≠x:=fun e=>hj (tK F.ok.nd e1 (e ▸ hi));exact .inl ⟨k,by simp [this,e]⟩
    ·exact .inr ⟨k,c,oc,ec,by rw [dT fun z=>by rw [z,h1] at eo;cases eo];exact eo,ed⟩
  ·obtain ⟨oc,v,h6,h7⟩:=F.cell y c ec;exact ⟨oc,v,by rw [dT fun z=>by rw [z,h1] at h6;cases h6];exact h6,h7⟩
 ·have hfn:X.fn=true:=by
   rcases hf with z | z
   ·exact z
   ·rw [z] at hk;cases hk
  obtain ⟨c,hc⟩:=F.ok.has x (.inl hk);obtain ⟨oc,v,h6,h7⟩:=F.cell x c hc;refine wpAny_storeName_cell F.ok.kind hk hc ⟨oc,(R.k _ _ _ h6).1 rfl,h7⟩ (fun h' hc' hs=>?_);obtain ⟨o',ho',hd'⟩:=hc';have nL:X.env.locals≠c:=fun z=>by rw [<- z,h1] at h6;cases h6
  refine q _ (κ.up c (true,o')) (fun a ha=>?_) (R.own h6 (fun b ob hb q=>(hs.2 b hb).trans q) ho' R.bare rfl) ⟨F.ok,by rw [List.length_set];exact F.len,⟨o,m,by rw [dT nL];exact h1,⟨es,ep,h2,h3,h4⟩,fun j y w' e1 e2 e3=>?_⟩,fun y c2 ec=>?_,F.frs.kp fun a ⟨l,env,z1,z2,z3⟩=>dT fun z=>by
   obtain ⟨l',y1,y2⟩:=F.frs;rw [z1] at y1;cases y1;obtain ⟨_,L,o9,y3,y4,_⟩:=y2 env z2;rw [z3] at y3;cases y3;rw [z,h6] at y4;cases y4⟩ ⟨_,hs,by rw [h6];exact fun z=>nomatch z⟩
  ·by_cases z:a=c
   ·exact .inr ⟨hfn,x,z ▸ hc⟩
   ·exact (ha (dT z)).elim
  ·by_cases hj:j=i
   ·subst hj;rw [hi] at e1;cases e1;rw [List.getElem?_set_self hiδ] at e2;cases e2;exact ⟨u,r,.inr ⟨.inl hk,c,o',hc,nE,hd'⟩⟩
   ·rw [List.getElem?_set_ne (Ne.symm hj)] at e2;obtain ⟨u',r',l⟩:=h5 j y w' e1 e2 e3;refine ⟨u',r',?_⟩;rcases l with l | ⟨k,c2,oc2,ec,eo,ed⟩
    ·exact .inl l
    ·refine .inr ⟨k,c2,oc2,ec,?_,ed⟩;rw [dT fun z=>hj (tK F.ok.nd e1 (by rw [F.ok.inj y x c (by rw [<- z];exact ec) hc];exact hi))];exact eo
  ·by_cases z:c2=c
   ·exact ⟨o',_,by rw [z];exact nE,hd'⟩
   ·obtain ⟨o2,v2,h8,h9⟩:=F.cell y c2 ec;exact ⟨o2,v2,by rw [dT z];exact h8,h9⟩
end
end DL

namespace L2
open PySem PySem.Spec PyProof.Rows
structure ObjM (h:Heap) (x dx C:Addr) (mA:Str->Option Value):Prop where
 obj:h.get? x=some (PySem.W.instObj C dx)
 ns:h.Ns1 dx mA
 ne:dx≠x

def zM {h:Heap} {dx:Addr} {mA:Str->Option Value} (n:h.Ns1 dx mA):∃ od,h.get? dx=some od/\∀ name,PySem.W.lookIn name od=some (mA name):=by
 obtain ⟨o,es,ep,ho,hd,hk,_,hm⟩:=n;refine ⟨o,ho,fun name=>?_⟩;have e:=hm name;unfold nsFind findBy at e;rw [<- Array.find?_toList] at e;unfold PySem.W.lookIn;rw [hd];dsimp only;split
 ·rename_i y q;rw [q] at e;exact congrArg some e
 ·rename_i q;rw [q] at e;have a:es.toList.any (·.refKey)=false:=by
   rw [List.any_eq_false];intro y hy;obtain ⟨z,t,hkey⟩:=hk y (Array.mem_toList_iff.mp hy);simp [DictEntry.refKey,hkey]
  have a':¬ es.toList.any (·.refKey)=true:=by rw [a];exact Bool.false_ne_true
  rw [if_neg a'];exact congrArg some e

def ObjM.look {h:Heap} {x dx C:Addr} {mA:Str->Option Value} (I:ObjM h x dx C mA):∃ od,PySem.W.InstAt h x (PySem.W.instObj C dx) C (some od)/\∀ name,PySem.W.lookIn name od=some (mA name) :=
 let ⟨od,ho,hl⟩:=zM I.ns
 ⟨od,⟨I.obj,rfl,rfl,ho⟩,hl⟩

section
variable {prog:Program} {w:World} {A:Around} {E:Value->Shared->Prop} {s:Shared} {K:PySem.W.Frag} {x dx C f:Addr} {mA:Str->Option Value} {name:Str} {v:Value}

def aS5 {expr:Bool} {Q:Value->Shared->Prop} (X:K.In s.heap) (I:ObjM s.heap x dx C mA) (hg:PySem.W.plainGet K C name=true) (hh:PySem.W.hasDictIn K C=true)
  (ha:PySem.W.findIn K (.ref C) name=some none) (hv:mA name=some v) (hv':PySem.W.handedIn v=true) (h:Q v { s with toks:=s.toks+1 }) :
  wpAny (model prog w) A (getAttr (.ref x) name expr) Q E s:=by
 obtain ⟨od,J,hl⟩:=I.look;exact PySem.W.get_value X J (PySem.W.plainGet_of hg).1 (PySem.W.findObj_own hh ha rfl (by rw [hl,hv])) hv' h

def aF6 {pl:Sem Bool} {Q:Value×List Value->Shared->Prop} (X:K.In s.heap) (I:ObjM s.heap x dx C mA) (hg:PySem.W.plainGet K C name=true)
  (hf:PySem.W.findIn K (.ref C) name=some (some (.ref f))) (ht:PySem.W.isFn K (.ref f)=true) (hv:mA name=none) (h:Q (.ref f,[.ref x]) s) :
  wpAny (model prog w) A (getMethod (.ref x) name pl) Q E s:=by
 obtain ⟨od,J,hl⟩:=I.look;exact PySem.W.method_fn X J (PySem.W.plainGet_of hg).1 (PySem.W.plainGet_of hg).2 hf (beq_iff_eq.mp ht) (by show (PySem.W.lookIn name od).map (·.isSome)=some false;rw [hl,hv];rfl) h

def aS6 {ns:List Str} {Q:Unit->Shared->Prop} (X:K.In s.heap) (I:ObjM s.heap x dx C mA)
  (hs:PySem.W.findIn K (.ref C) "__setattr__"=some (some (.builtin "object.__setattr__"))) (hp:PySem.W.plainOver K C=true) (ht:PySem.W.takerIn K C name=some none) (hh:PySem.W.hasDictIn K C=true)
  (hw:PySem.Within mA ns) (hsz:ns.length<=sizeLine)
  (h:∀ h',ObjM h' x dx C (fun y=>if y=name then some v else mA y)->Heap.SameBut dx s.heap h'->Q () { s with heap:=h',toks:=s.toks+2 }) :
  wpAny (model prog w) A (setAttr (.ref x) name v) Q E s:=by
 obtain ⟨od,J,hl⟩:=I.look;refine PySem.W.set_plain X J hs (PySem.W.osa_open (s:={ s with toks:=s.toks+1 }) (r:=none) X J hp ht fun b=>?_);obtain ⟨cd,hc,hd'⟩:=PySem.W.any_some hh;have hx:s.heap.get? x=some ⟨.ref C,some dx,.plain,#[]⟩:=I.obj;refine wpAny_bind (wpAny_pure (wpAny_bind (wpAny_bind (wpAny_loadPart hx (wpAny_bind (PySem.W.Looks.here (s:={ s with toks:=s.toks+1 }) (PySem.W.looks_clsIn X hc) ?_))))));rw [hd'];refine wpAny_pure (a:=some dx) (wpAny_bind (wpAny_pure (wpAny_bind ?_)));refine wpAny_nsSet1 (s:={ s with toks:=s.toks+1 }) I.ns fun h' hn2 hs2=>?_;obtain ⟨oD,esD,epD,hoD,hdD,hcD⟩:=hn2.count (PySem.Within.cons name v hw);refine wpAny_bind (wpAny_lookBehind hoD (by rw [hdD];exact pastItsLine_dict (Nat.le_trans hcD (by rw [List.length_cons];omega))) ?_);exact wpAny_pure (h _ ⟨(hs2.2 _ (Ne.symm I.ne)).trans I.obj,hn2,I.ne⟩ hs2)

def aF7 {R:Result->Shared->Prop} {vs:List Value} {kw:List (Str×Value)} (X:K.In s.heap) (hm:PySem.W.makesIn K C=true)
  (hi:PySem.W.findIn K (.ref C) "__init__"=some (some (.ref f))) (hf:PySem.W.typeIn K (.ref f)=some (.type "function"))
  (h:codeAny (model prog w) (A.under (.builtin "type.__call__" ⟨.ref C::vs,kw⟩)) (.call (.ref f) ⟨.ref (s.heap.objs.size+1)::vs,kw⟩) (PySem.W.InitBack (s.heap.objs.size+1) R)
   { s with heap:=(s.heap.push PySem.W.emptyDict).push (PySem.W.instObj C s.heap.objs.size) }) :
  codeAny (model prog w) A (.call (.ref C) ⟨vs,kw⟩) R s:=by
 obtain ⟨hh,g,d,t,os⟩:=s;exact PySem.W.make_core (PySem.W.makes_of X hm) (PySem.W.looks_findIn X hi) (fun self=>PySem.W.bind_fn X self hf) (.inl rfl) h
end

structure Cls (K:PySem.W.Frag) (C:Addr):Prop where
 pg:PySem.W.plainGet K C Str.empty=true
 hd:PySem.W.hasDictIn K C=true
 po:PySem.W.plainOver K C=true
 sa:PySem.W.findIn K (.ref C) "__setattr__"=some (some (.builtin "object.__setattr__"))
def Cls.get {K:PySem.W.Frag} {C:Addr} (c:Cls K C) (f:Str):PySem.W.plainGet K C f=true:=c.pg
def NoAttr (K:PySem.W.Frag) (C:Addr) (f:Str):Prop:=PySem.W.findIn K (.ref C) f=some none
def NoAttr.taker {K:PySem.W.Frag} {C:Addr} {f:Str} (n:NoAttr K C f):PySem.W.takerIn K C f=some none:=by
 unfold PySem.W.takerIn;rw [show PySem.W.findIn K (.ref C) f=some none from n];rfl
structure Meth (K:PySem.W.Frag) (C:Addr) (m:Str) (f:Addr):Prop where
 at_:PySem.W.findIn K (.ref C) m=some (some (.ref f))
 fn:PySem.W.isFn K (.ref f)=true
 kp:PySem.W.keepIn K (.ref f)=true
end L2

namespace DL
open PySem PySem.Spec PyProof.Rows L2 CI
noncomputable def oIs:Option Str->Value->Bool
 | some x,v=>Value.isStrOf x v
 | none,.none=>true
 | none,_=>false
def oIs_shape {k:Option Str} {v:Value} (h:oIs k v=true):(∃ x t,k=some x/\v=.str x t)\/(k=none/\v=.none):=by
 cases k with
 | some x =>
  obtain ⟨t,e⟩:=Value.isStrOf_shape (x:=x) (v:=v) h;exact .inl ⟨x,t,rfl,e⟩
 | none=>cases v<;>first | exact .inr ⟨rfl,rfl⟩ | cases h
def rH (x:Str) (t:Tok):oIs (some x) (.str x t)=true:=by simp [oIs,Value.isStrOf]
noncomputable def bS9 (w:World):Option Str->Int
 | some x=>hashStr w x
 | none=>reduceHash 0xFCA86420
def bT0 (prog:Program) (w:World):PySem.KeyKind prog w (Option Str) where
 is:=oIs
 hash:=bS9 w
 inj:=fun v a b ha hb=>by
  rcases oIs_shape ha with ⟨x,t,rfl,rfl⟩ | ⟨rfl,rfl⟩
  ·rcases oIs_shape hb with ⟨y,u,rfl,e⟩ | ⟨rfl,e⟩
   ·injection e with e1 _;rw [e1]
   ·exact nomatch e
  ·rcases oIs_shape hb with ⟨y,u,rfl,e⟩ | ⟨rfl,e⟩
   ·exact nomatch e
   ·rfl
 byValue:=fun k v h=>by
  rcases oIs_shape h with ⟨x,t,rfl,rfl⟩ | ⟨rfl,rfl⟩<;>rfl
 pyHash:=fun {A E s k v Q} hv h=>by
  rcases oIs_shape hv with ⟨x,t,rfl,rfl⟩ | ⟨rfl,rfl⟩
  ·exact wpAny_pyHash_str h
  ·exact PySem.W.pyHash_slot (T:="NoneType") rfl PySem.F.slot_NoneType_hash PySem.F.entry_NoneType_hash (PySem.F.args_NoneType_hash_1 _) (by decide) (.inl rfl) (wpAny_bind (wpAny_pure (wpAny_bind (wpAny_mkInt (wpAny_pure ⟨_,_,rfl,h⟩)))))
 eqBool:=fun {A E s a b u v Q} hu hv h=>by
  rcases oIs_shape hu with ⟨x,t,rfl,rfl⟩ | ⟨rfl,rfl⟩
  ·rcases oIs_shape hv with ⟨y,u,rfl,rfl⟩ | ⟨rfl,rfl⟩
   ·refine wpAny_eqBool_str ?_;have e:decide (some x=some y)=decide (x=y):=by simp
    rwa [e] at h
   ·exact SeqAt.EqAt.str_none x t _ _ _ _ (by simpa using h)
  ·rcases oIs_shape hv with ⟨y,u,rfl,rfl⟩ | ⟨rfl,rfl⟩
   ·exact SeqAt.EqAt.none_str y u _ _ _ _ (by simpa using h)
   ·exact SeqAt.EqAt.same _ _ _ _ _ (by simpa using h)
 «strs»:=fun k x t v h=>by
  rcases oIs_shape h with ⟨y,u,rfl,e⟩ | ⟨rfl,e⟩
  ·injection e with e1 _
   subst e1;cases v<;>rfl
  ·exact nomatch e
structure TabK (w:World) (K:PySem.W.Frag) (p:Addr) (f:Str->Option Int):Prop where
 lk:∃ es n,K.lookup p=some ⟨.type "dict",none,.dict es n,#[]⟩/\PySem.W.KeysLit w.params es.toList/\(∀ x i,f x=some i->∃ t,findBy Value.isStrOf es x=some (.int i t))/\∀ x,f x=none->findBy Value.isStrOf es x=none
 sm:(p==sysModules)=false
def TabK.map {w:World} {K:PySem.W.Frag} {p:Addr} {f:Str->Option Int} {prog:Program} {h:Heap} (T:TabK w K p f) (X:K.In h):∃ g:Option Str->Option Value,h.MapOf (bT0 prog w) p g/\g none=none/\(∀ x i,f x=some i->∃ t,g (some x)=some (.int i t))/\∀ x,f x=none->g (some x)=none:=by
 obtain ⟨es,n,l,hk,h1,h2⟩:=T.lk;refine ⟨fun k=>findBy oIs es k,⟨_,es,n,X _ _ l,⟨rfl,rfl,rfl⟩,rfl,fun e he=>?_,fun _=>rfl⟩,?_,h1,h2⟩
 ·obtain ⟨x,t,e1,e2⟩:=hk.all e (Array.mem_toList_iff.mpr he);exact ⟨some x,by rw [e1];exact rH x t,e2⟩
 ·unfold findBy;have e:es.find? (fun e=>oIs none e.key)=none:=by
   rw [Array.find?_eq_none];intro e he;obtain ⟨x,t,e1,_⟩:=hk.all e (Array.mem_toList_iff.mpr he);rw [e1];exact Bool.false_ne_true
  show Option.map _ (es.find? fun e=>oIs none e.key)=none;rw [e];rfl
def eG (K:PySem.W.Frag) (fd:FuncData) (ps:List Str):Prop:=∀ (s:Shared) (us:List Value),K.In s.heap->us.length=ps.length->BindsTo s fd ⟨us,[]⟩ (ps.zip us)
def CR (S:Sx) (κ:Kp) (M:Mp) (h:aA) (w:W) (r:Result) (s:Shared):Prop:=∃ u,r=.ok (.ret u)/\Pw S κ M h w u s
structure FnS (S:Sx) (d:Nat) (f:Addr) (fd:FuncData) (ps:List Str) (m:XFW):Prop where
 len:∀ ws h r,m ws h=some r->ws.length=ps.length
 run:∀ {A:Around} {κ:Kp} {M:Mp} {h h':aA} {s:Shared} {args:Args} {us:List Value} {ws:List W} {w:W},Room d A->FrO κ A->Mod S->S.base.objs.size<=s.heap.objs.size->Mem S κ M h s->BindsTo s fd args (ps.zip us)->RepWs S M ws us->m ws h=some (w,h') ->
  codeAny (model S.P S.w) A (.call (.ref f) args) (CR S κ M h' w) s
def FnG (S:Sx) (d:Nat) (x:Str) (m:XFW):Prop:=(∀ ws h,m ws h=none)\/∃ f fd ps,S.mg x=some (.ref f)/\PySem.W.keepIn S.K (.ref f)=true/\eG S.K fd ps/\FnS S d f fd ps m
abbrev toW (m:XF):XFW:=fun ws h=>(m ws h).bind fun p=>some (.d p.1,p.2)
structure Mk (K:PySem.W.Frag) (C f:Addr):Prop where
 makes:PySem.W.makesIn K C=true
 init:PySem.W.findIn K (.ref C) "__init__"=some (some (.ref f))
 fn:PySem.W.isFn K (.ref f)=true
 kp:PySem.W.keepIn K (.ref C)=true
structure TbS (S:Sx) (c0:Addr) (pos:Pos):Prop where
 hd:PySem.W.codeHdIn S.K c0 S.tp=true
 tr:TriplesOk S.tb.toList
 no:codeAmong pos S.tb.toList=none
 bm:S.base.BuiltinsAt S.mg S.tp
structure LamOk (X:Cx) (d:Nat) (q:Str×Pos):Prop where
 qual:X.env.qual=q.1
 code:∃ c0,X.env.code=.ref c0/\TbS X.S c0 q.2
 dp:X.A.depth+3*d+7 < recursionLimit
 un:X.A.units+16*d+212 < cLine
structure Good (X:Cx) (st:Sta) (d:Nat):Prop where
 bl:∀ x,st.bl.contains x=true->X.S.mg x=none
 gc:∀ x z,st.gc x=some z->∃ u,X.S.mg x=some u/\Rep X.S X.S.base.get? z u
 tk:∀ x f,st.tk x=some f->∃ p,X.S.mg x=some (.ref p)/\TabK X.S.w X.S.K p f
 fn:∀ x m,st.fn x=some m->FnG X.S d x (toW m)
 fnW:∀ x m,st.ob.fnW x=some m->FnG X.S d x m
 cls:∀ x C m,st.ob.cls x=some (C,m)->(∀ ws h,m ws h=none)\/∃ k f fd ps,k+1<=d/\Mk X.S.K C f/\FnS X.S k f fd ps m/\X.S.mg x=some (.ref C)/\eG X.S.K fd ps
 om:∀ x C m,st.ob.om x=some (C,m)->(∀ ws h,m ws h=none)\/(Cls X.S.K C/\∃ f fd ps,Meth X.S.K C x f/\FnS X.S d f fd ps m/\eG X.S.K fd ps)
 fo:∀ C f,st.ob.fo C f=true->Cls X.S.K C/\NoAttr X.S.K C f
 N:X.N=st.N
 S:X.env.scope=st.S
 top:st.top=true->X.fn=true
 rm:Room d X.A
 qn:∀ q,st.qn=some q->LamOk X d q
def Pt (S:Sx) (κ:Kp) (M:Mp) (h:aA) (b:Bool) (c:Bool) (s:Shared):Prop:=c=b/\∃ M',Le M M'/\Mem S κ M' h s
def Pa (S:Sx) (κ:Kp) (M:Mp) (h:aA) (ws:List W) (us:List Value) (s:Shared):Prop:=∃ M',Le M M'/\Mem S κ M' h s/\RepWs S M' ws us
def SE (X:Cx) (e:Expr) (f:XR W):Prop:=∀ ⦃κ M δ h s w h'⦄,Mem X.S κ M h s->Fra X κ M δ->f δ h=some (w,h')->Wp X.S X.A (eval e X.env) (Pw X.S κ M h' w) NE s
def SF (X:Cx) (e:Expr) (f:XR (List PyData)):Prop:=∀ ⦃κ M δ h s w h'⦄,Mem X.S κ M h s->Fra X κ M δ->f δ h=some (w,h')->Wp X.S X.A (eval e X.env) (Pf X.S κ M h' w) NE s
def ST (X:Cx) (e:Expr) (f:XR Bool):Prop:=∀ ⦃κ M δ h s w h'⦄,Mem X.S κ M h s->Fra X κ M δ->f δ h=some (w,h')->Wp X.S X.A (isTrue e X.env (eval e X.env)) (Pt X.S κ M h' w) NE s
def SW (X:Cx) (e:Expr) (f:XR Bool):Prop:=∀ (wh:Sem Value) ⦃κ M δ h s w h'⦄,Mem X.S κ M h s->Fra X κ M δ->f δ h=some (w,h')->Wp X.S X.A (isTrue e X.env wh) (Pt X.S κ M h' w) NE s
def SA (X:Cx) (es:List Expr) (f:XR (List W)):Prop:=∀ (pos:Pos) ⦃κ M δ h s ws h'⦄,Mem X.S κ M h s->Fra X κ M δ->f δ h=some (ws,h')->Wp X.S X.A (spliced (backTo pos (starEach es X.env))) (Pa X.S κ M h' ws) NE s
def SO (X:Cx) (e:Option Expr) (f:XR (Option Int)):Prop:=∀ ⦃κ M δ h s o h'⦄,Mem X.S κ M h s->Fra X κ M δ->f δ h=some (o,h')->Wp X.S X.A (evalPart e X.env) (fun u s'=>IsPart u o/\∃ M',Le M M'/\Mem X.S κ M' h' s') NE s
def SG (X:Cx) (tg:Expr) (g:XG):Prop:=∀ ⦃κ M δ h s w u δ' h'⦄,Mem X.S κ M h s->Fra X κ M δ->RepW X.S M w u->g w δ h=some (δ',h')->Wp X.S X.A (assign tg X.env u) (fun _ s'=>∃ κ' M',Own X κ κ'/\Le M M'/\Mem X.S κ' M' h' s'/\Fra X κ' M' δ') NE s
def Fw (X:Cx) (κ:Kp) (M:Mp):Fl->Flow->Prop
 | .nx δ,.next=>Fra X κ M δ
 | .bk δ,.brk=>Fra X κ M δ
 | .ct δ,.cont=>Fra X κ M δ
 | .rt w,.ret u=>RepW X.S M w u
 | _,_=>False
def Ps (X:Cx) (κ:Kp) (M:Mp) (h:aA) (fl:Fl) (f:Flow) (s:Shared):Prop:=∃ κ' M',Own X κ κ'/\Le M M'/\Mem X.S κ' M' h s/\Fw X κ' M' fl f
def SS (X:Cx) (st:Stmt) (f:XS):Prop:=∀ ⦃κ M δ h s fl h'⦄,Mem X.S κ M h s->Fra X κ M δ->f δ h=some (fl,h')->Wp X.S X.A (exec st X.env) (Ps X κ M h' fl) NE s
def SSs (X:Cx) (st:List Stmt) (f:XS):Prop:=∀ ⦃κ M δ h s fl h'⦄,Mem X.S κ M h s->Fra X κ M δ->f δ h=some (fl,h')->Wp X.S X.A (execs st X.env) (Ps X κ M h' fl) NE s
structure Snd (v:Evs):Prop where
 E:∀ {X st d},Good X st d->∀ e,SE X e (v.E st e)
 T:∀ {X st d},Good X st d->∀ e,ST X e (v.T st e)
 F:∀ {X st d},Good X st d->∀ e,SF X e (v.F st e)
 G:∀ {X st d},Good X st d->∀ e,SG X e (v.G st e)
 S:∀ {X st d},Good X st d->∀ s,SS X s (v.S st s)
section
variable {X:Cx} {st:Sta} {d:Nat} {x:Str} {v:Evs} {a b c t:Expr} {pos:Pos} {es:List Expr} {κ:Kp} {M:Mp} {δ:DSt} {h h':aA} {s:Shared} {w:W} {E:Value->Shared->Prop}
def aG {α β:Type} {f:XR α} {g:α->XR β} {r:β×aA} (e:xb f g δ h=some r):∃ p h1,f δ h=some (p,h1)/\g p δ h1=some r:=let ⟨⟨p,h1⟩,e1,e2⟩:=bind_some e;⟨p,h1,e1,e2⟩
def jO (G:Good X st d) {i:Nat} (e:slot st x=some i):X.N[i]?=some x:=by
 rw [G.N];obtain ⟨h1,h2,_⟩:=List.findIdx?_eq_some_iff_getElem.mp e;rw [List.getElem?_eq_getElem h1,eq_of_beq h2]
def bE7 (G:Good X st d) (h:bD0 st.S x=true):Vis X.env.scope x:=by
 unfold Vis;rw [G.S];unfold bD0 at h;split at h
 ·rename_i e;exact .inl e
 ·rename_i e;exact .inr (.inl e)
 ·rename_i e;exact .inr (.inr e)
 ·cases h
def uY (G:Good X st d) (h:(oS st.S x&&(st.top||dJ st.S x))=true):Loc X.env.scope x/\(X.fn=true\/X.env.scope.names.lookup x=some .local):=by
 rw [Bool.and_eq_true,Bool.or_eq_true] at h;obtain ⟨h1,h2⟩:=h;unfold Loc;rw [G.S];refine ⟨?_,?_⟩
 ·unfold oS at h1;split at h1
  ·rename_i e;exact .inl e
  ·rename_i e;exact .inr e
  ·cases h1
 ·rcases h2 with h2 | h2
  ·exact .inl (G.top h2)
  ·unfold dJ at h2;split at h2
   ·rename_i e;exact .inr e
   ·cases h2
def nH (G:Good X st d) (h:dF st x=true):cG x=true/\Gl X x:=by
 unfold dF at h;rw [Bool.and_eq_true] at h;refine ⟨h.1,?_⟩;unfold Gl Env.kindOf;rw [G.S];have h2:=h.2;unfold glB at h2;split at h2
 ·rename_i e;exact e
 ·cases h2
def cH {e:Expr}:SE X e xno:=fun _ _ _ _ _ _ _ _ _ e=>by cases e
def bE8 (G:Good X st d):SE X (.Name x pos) (aD8 st x):=by
 unfold aD8;split
 ·rename_i hn;split
  ·rename_i i hi;split
   ·rename_i hv;intro κ M δ h s w h' R F e;unfold aB at e;split at e
    ·rename_i e';cases e;exact bS8 F R (jO G hi) e' (bE7 G hv) hn
    ·cases e
   ·exact cH
  ·split
   ·rename_i z hz;split
    ·rename_i hg;intro κ M δ h s w h' R F e;cases e;obtain ⟨u,m,r⟩:=G.gc _ _ hz;exact fT F R (nH G (by unfold dF;rw [hn,hg];rfl)).2 m hn (R.pw (Rep.go R.base r))
    ·exact cH
   ·exact cH
 ·exact cH
def aS7 {c:Const} {j:Nat}:SE X (.Constant c j pos) (aD9 c):=by
 intro κ M δ h s w h' R F e;cases c with
 | none=>cases e;exact Constant_none R.pn
 | bool b=>cases e;exact Constant_bool R.pb
 | int i=>cases e;exact wpAny_Constant_int R.pi
 | str x =>
  have e:(if PyData.strOk x=true then aD (.d (.str x)) else xno:XR W) δ h=some (w,h'):=e
  by_cases hx:PyData.strOk x=true
  case neg=>rw [if_neg hx] at e;cases e
  rw [if_pos hx] at e;cases e;exact Calls.Constant_str ((R.tok _).pw (show Rep X.S M.Z _ _ from rep_s.mpr ⟨⟨_,rfl⟩,hx⟩))
 | _=>cases e
def two {fa fb:XR W} {k:W->W->aA->Option (W×aA)} (ha:SE X a fa) (hb:SE X b fb) {f:Value->Value->Sem Value} {r:W×aA} (R:Mem X.S κ M h s) (F:Fra X κ M δ) (e:xb fa (fun u=>xb fb fun w=>fun _ h=>k u w h) δ h=some r)
  (hf:∀ {M1 h1 s1 x y u v},Mem X.S κ M1 h1 s1->Fra X κ M1 δ->RepW X.S M1 x u->RepW X.S M1 y v->k x y h1=some r->Wp X.S X.A (f u v) (Pw X.S κ M1 r.2 r.1) NE s1) :
  Wp X.S X.A (eval a X.env) (fun u s₁=>Wp X.S X.A (eval b X.env) (fun v s₂=>Wp X.S X.A (f u v) (Pw X.S κ M r.2 r.1) NE s₂) NE s₁) NE s:=by
 obtain ⟨x,h1,e1,e⟩:=aG e;obtain ⟨y,h2,e2,e⟩:=aG e;refine thn (ha R F e1) fun u s1 ⟨M1,l1,R1,r1⟩=>thn (hb R1 (F.go l1) e2) fun v s2 ⟨M2,l2,R2,r2⟩=>?_;exact thn (hf R2 ((F.go l1).go l2) (r1.go l2) r2 e) fun _ _ q=>q.go (l1.trans l2)
def bT1 (S:Snd v) (G:Good X st d) {op:Operator}:SE X (.BinOp a op b pos) (xb (v.E st a) fun u=>xb (v.E st b) fun w=>fun _ h=>dA op u w h):=fun _ _ _ _ _ _ _ R F e =>
 wpAny_BinOp (two (S.E G a) (S.E G b) R F e fun R1 _ ra rb e=>bE3 R1 ra rb e)
theorem bT2 (S:Snd v) (G:Good X st d):SE X (.UnaryOp .Not a pos) (xb (v.E st a) fun w=>(match w with
  | .d (.bool b)=>aD (.d (.bool (!b)))
  | _=>xno)):=by
 intro κ M δ h s w h' R F e;obtain ⟨x,h1,e1,e⟩:=aG e;refine UnaryOp_ (thn (S.E G a R F e1) fun u s1 ⟨M1,l1,R1,r1⟩=>?_);obtain ⟨b,rfl,e⟩:∃ b,x=.d (.bool b)/\aD (.d (.bool (!b))) δ h1=some (w,h'):=by rcases x with (_ | b | _ | _ | _ | _ | _) | _<;>first | cases e;done | exact ⟨_,rfl,e⟩
 cases e;cases wb.mp r1;exact not_of (wpAny_truthy_bool (R1.pb.go l1))
theorem bT3 (S:Snd v) (G:Good X st d):SE X (.UnaryOp .USub a pos) (xb (v.E st a) fun w=>(match w with
  | .d (.int i)=>aD (.d (.int (-i)))
  | _=>xno)):=by
 intro κ M δ h s w h' R F e;obtain ⟨x,h1,e1,e⟩:=aG e;refine UnaryOp_ (thn (S.E G a R F e1) fun u s1 ⟨M1,l1,R1,r1⟩=>?_);obtain ⟨b,rfl,e⟩:∃ b,x=.d (.int b)/\aD (.d (.int (-b))) δ h1=some (w,h'):=by rcases x with (_ | b | _ | _ | _ | _ | _) | _<;>first | cases e;done | exact ⟨_,rfl,e⟩
 cases e;exact thn (bE4 R1 r1) fun _ _ q=>q.go l1
def bT4 (S:Snd v) (G:Good X st d):SE X (.IfExp c a b pos) (xb (v.T st c) fun t=>if t=true then v.E st a else v.E st b):=by
 intro κ M δ h s w h' R F e;obtain ⟨x,h1,e1,e⟩:=aG e;refine wpAny_IfExp (thn (S.T G c R F e1) fun t s1 ⟨et,M1,l1,R1⟩=>?_);subst et;cases t with
 | true=>exact thn (S.E G a R1 (F.go l1) e) fun _ _ q=>q.go l1
 | false=>exact thn (S.E G b R1 (F.go l1) e) fun _ _ q=>q.go l1
theorem aF8 (S:Snd v) (G:Good X st d):∀ vs,SE X (.BoolOp .And vs pos) (aE2 v st vs)
 | []=>fun _ _ _ _ _ _ _ R F e=>by cases e
 | [a]=>fun _ _ _ _ _ _ _ R F e=>BoolOp_one (S.E G a R F e)
 | a::b::r=>by
  intro κ M δ h s w h' R F e;obtain ⟨x,h1,e1,e⟩:=aG e;refine BoolOp_and (thn (S.E G a R F e1) fun u s1 ⟨M1,l1,R1,r1⟩=>?_);rcases x with (_ | b | _ | _ | _ | _ | _) | _<;>first | cases e;done | skip
  cases wb.mp r1;cases b
  ·cases e;exact wpAny_truthy_bool (R1.pb.go l1)
  ·exact wpAny_truthy_bool (thn (aF8 S G _ R1 (F.go l1) e) fun _ _ q=>q.go l1)
theorem bA0 (S:Snd v) (G:Good X st d):∀ vs,SE X (.BoolOp .Or vs pos) (bD3 v st vs)
 | []=>fun _ _ _ _ _ _ _ R F e=>by cases e
 | [a]=>fun _ _ _ _ _ _ _ R F e=>BoolOp_one (S.E G a R F e)
 | a::b::r=>by
  intro κ M δ h s w h' R F e;obtain ⟨x,h1,e1,e⟩:=aG e;refine BoolOp_or (thn (S.E G a R F e1) fun u s1 ⟨M1,l1,R1,r1⟩=>?_);rcases x with (_ | b | _ | _ | _ | _ | _) | _<;>first | cases e;done | skip
  cases wb.mp r1;cases b
  ·exact wpAny_truthy_bool (thn (bA0 S G _ R1 (F.go l1) e) fun _ _ q=>q.go l1)
  ·cases e;exact wpAny_truthy_bool (R1.pb.go l1)
def Pt.go {S:Sx} {M M':Mp} {b c:Bool} (l:Le M M') (p:Pt S κ M' h b c s):Pt S κ M h b c s:=let ⟨e,N,a,b⟩:=p;⟨e,N,l.trans a,b⟩
theorem bA1 (S:Snd v) (G:Good X st d):∀ vs,SW X (.BoolOp .And vs pos) (aE3 v st vs)
 | []=>fun _ _ _ _ _ _ _ _ R F e=>by cases e
 | [a]=>fun wh _ _ _ _ _ _ _ R F e=>isTrue_and (thn (S.T G a R F e) fun c s1 q=>by
  cases c with
  | true=>exact isTrue_and_nil q
  | false=>exact q)
 | a::b::r=>by
  intro wh κ M δ h s w h' R F e;obtain ⟨x,h1,e1,e⟩:=aG e;refine isTrue_and (thn (S.T G a R F e1) fun t s1 ⟨et,M1,l1,R1⟩=>?_);subst et;cases t with
  | true=>exact thn (bA1 S G (b::r) wh R1 (F.go l1) e) fun _ _ q=>q.go l1
  | false=>cases e;exact ⟨rfl,M1,l1,R1⟩
theorem bT5 (S:Snd v) (G:Good X st d):∀ vs,SW X (.BoolOp .Or vs pos) (bD4 v st vs)
 | []=>fun _ _ _ _ _ _ _ _ R F e=>by cases e
 | [a]=>fun wh _ _ _ _ _ _ _ R F e=>isTrue_or (thn (S.T G a R F e) fun c s1 q=>by
  cases c with
  | false=>exact isTrue_or_nil q
  | true=>exact q)
 | a::b::r=>by
  intro wh κ M δ h s w h' R F e;obtain ⟨x,h1,e1,e⟩:=aG e;refine isTrue_or (thn (S.T G a R F e1) fun t s1 ⟨et,M1,l1,R1⟩=>?_);subst et;cases t with
  | true=>cases e;exact ⟨rfl,M1,l1,R1⟩
  | false=>exact thn (bT5 S G (b::r) wh R1 (F.go l1) e) fun _ _ q=>q.go l1
def aF9 (G:Good X st d) {f:Str->Option Int} (e:jL st b=some f):∃ y p p',b=.Name y p'/\cG y=true/\Gl X y/\X.S.mg y=some (.ref p)/\TabK X.S.w X.S.K p f:=by
 unfold jL at e;cases b<;>first | (cases e;done) | skip
 obtain ⟨ht,e⟩:=aF e;rw [Bool.and_eq_true] at ht;obtain ⟨h1,h2⟩:=nH G ht.1;obtain ⟨p,h3,h4⟩:=G.tk _ _ e;exact ⟨_,p,_,rfl,h1,h2,h3,h4⟩
def bT6 (S:Snd v) (G:Good X st d) {f:Str->Option Int} (hf:jL st b=some f) {r:Bool×aA} (R:Mem X.S κ M h s) (F:Fra X κ M δ) (e:lU f (v.E st a) δ h=some r) :
  behindInMarks .NotIn b=false/\Wp X.S X.A (eval a X.env) (fun u s₁=>Wp X.S X.A (eval b X.env) (fun v s₂=>Wp X.S X.A (compareOp .NotIn u v) (Pw X.S κ M r.2 (.d (.bool r.1))) NE s₂) NE s₁) NE s:=by
 obtain ⟨y,p,p',rfl,hn,hg,hm,T⟩:=aF9 G hf;refine ⟨rfl,?_⟩;obtain ⟨x,h1,e1,e⟩:=aG e;refine thn (S.E G a R F e1) fun u s1 ⟨M1,l1,R1,r1⟩=>fT (F.go l1) R1 hg hm hn ?_;obtain ⟨g,m,g0,g1,g2⟩:=T.map (prog:=X.S.P) (F.ok.mod.kin.keeps R1.bk);rcases x with (_ | _ | _ | z | _ | _ | _) | _<;>first | cases e;done | skip
 ·cases e;cases wn.mp r1;refine wpAny_notIn_of (k:=none) rfl T.sm m ?_;rw [g0];exact (R1.tok _).pb.go l1
 ·cases e;obtain ⟨⟨t,rfl⟩,_⟩:=rep_s.mp (show Rep X.S M1.Z _ _ from r1);refine wpAny_notIn_of (k:=some z) (rH z t) T.sm m ?_;have eg:(g (some z)).isSome=(f z).isSome:=by
   cases q:f z with
   | none=>rw [g2 z q];rfl
   | some i=>obtain ⟨t',q'⟩:=g1 z i q;rw [q'];rfl
  rw [eg];exact (R1.tok _).pb.go l1
def bA2 (S:Snd v) (G:Good X st d) {op:CmpOp} {r:Bool×aA} (R:Mem X.S κ M h s) (F:Fra X κ M δ) (e:gE v st a [op] [b] δ h=some r) :
  behindInMarks op b=false/\Wp X.S X.A (eval a X.env) (fun u s₁=>Wp X.S X.A (eval b X.env) (fun v s₂=>Wp X.S X.A (compareOp op u v) (Pw X.S κ M r.2 (.d (.bool r.1))) NE s₂) NE s₁) NE s:=by
 cases hf:jL st b with
 | some f =>
  have e:(match jL st b with
   | some f=>if op=CmpOp.NotIn then lU f (v.E st a) else xno
   | none=>if behindInMarks op b=true then xno else xC1 op (v.E st a) (v.E st b)) δ h=some r:=e
  rw [hf] at e
  by_cases ho:op=CmpOp.NotIn
  ·subst ho;exact bT6 S G hf R F e
  ·have e:(if op=CmpOp.NotIn then lU f (v.E st a) else xno) δ h=some r:=e;rw [if_neg ho] at e;cases e
 | none =>
  have e:(match jL st b with
   | some f=>if op=CmpOp.NotIn then lU f (v.E st a) else xno
   | none=>if behindInMarks op b=true then xno else xC1 op (v.E st a) (v.E st b)) δ h=some r:=e
  rw [hf] at e;have e:(if behindInMarks op b=true then xno else xC1 op (v.E st a) (v.E st b)) δ h=some r:=e
  by_cases hb:behindInMarks op b=true
  ·rw [if_pos hb] at e;cases e
  ·rw [if_neg hb] at e;refine ⟨by simpa using hb,?_⟩;obtain ⟨x,h1,e1,e⟩:=aG e;obtain ⟨y,h2,e2,e⟩:=aG e;refine thn (S.E G a R F e1) fun u s1 ⟨M1,l1,R1,r1⟩=>thn (S.E G b R1 (F.go l1) e2) fun v s2 ⟨M2,l2,R2,r2⟩=>?_;obtain ⟨q1,q2⟩:=iC (A:=X.A) (E:=NE) G.rm R2 (r1.go l2) r2 e;rw [q1];exact thn q2 fun _ _ q=>q.go (l1.trans l2)
def bE9 (S:Snd v) (G:Good X st d) {op op':CmpOp} {p:Bool×aA} (hm:lastMarks [op,op'] [b,c]=false) (R:Mem X.S κ M h s) (F:Fra X κ M δ) (e:xC2 op op' (v.E st a) (v.E st b) (v.E st c) δ h=some p):Wp X.S X.A (eval (.Compare a [op,op'] [b,c] pos) X.env) (Pw X.S κ M p.2 (.d (.bool p.1))) NE s:=by
 obtain ⟨x,h1,e1,e⟩:=aG e;obtain ⟨y,h2,e2,e⟩:=aG e;obtain ⟨p1,e3,e⟩:=bind_some e;refine Compare_chain (thn (S.E G a R F e1) fun u s1 ⟨M1,l1,R1,r1⟩=>chain_link (thn (S.E G b R1 (F.go l1) e2) fun v s2 ⟨M2,l2,R2,r2⟩=>?_)) hm;obtain ⟨q1,q2⟩:=iC (A:=X.A) (E:=NE) G.rm R2 (r1.go l2) r2 e3;obtain ⟨k,h3⟩:=p1;cases q1;refine thn q2 fun k' s3 ⟨M3,l3,R3,r3⟩=>?_;cases wb.mp r3;refine wpAny_truthy_bool ?_;dsimp only at e;cases k with
 | false=>cases e;exact ite_ff (R3.pb.go (l1.trans (l2.trans l3)))
 | true =>
  obtain ⟨⟨z,h4⟩,e4,e⟩:=bind_some e;refine ite_tt (chain_last (thn (S.E G c R3 ((F.go l1).go (l2.trans l3)) e4) fun t s4 ⟨M4,l4,R4,r4⟩=>?_));obtain ⟨q5,q6⟩:=iC (A:=X.A) (E:=NE) G.rm R4 (r2.go (l3.trans l4)) r4 e;rw [q5];exact thn q6 fun _ _ q=>q.go (l1.trans (l2.trans (l3.trans l4)))
def bF0 (S:Snd v) (G:Good X st d) {op op':CmpOp} {p:Bool×aA} (hm:lastMarks [op,op'] [b,c]=false) (R:Mem X.S κ M h s) (F:Fra X κ M δ) (e:xC2 op op' (v.E st a) (v.E st b) (v.E st c) δ h=some p) {wh:Sem Value}:Wp X.S X.A (isTrue (.Compare a [op,op'] [b,c] pos) X.env wh) (Pt X.S κ M p.2 p.1) NE s:=by
 obtain ⟨x,h1,e1,e⟩:=aG e;obtain ⟨y,h2,e2,e⟩:=aG e;obtain ⟨p1,e3,e⟩:=bind_some e;refine isTrue_chain (thn (S.E G a R F e1) fun u s1 ⟨M1,l1,R1,r1⟩=>test_link (thn (S.E G b R1 (F.go l1) e2) fun v s2 ⟨M2,l2,R2,r2⟩=>?_)) hm;obtain ⟨q1,q2⟩:=iC (A:=X.A) (E:=NE) G.rm R2 (r1.go l2) r2 e3;obtain ⟨k,h3⟩:=p1;cases q1;refine thn q2 fun k' s3 ⟨M3,l3,R3,r3⟩=>?_;cases wb.mp r3;refine wpAny_truthy_bool ?_;dsimp only at e;cases k with
 | false=>cases e;exact ite_ff ⟨rfl,M3,l1.trans (l2.trans l3),R3⟩
 | true =>
  obtain ⟨⟨z,h4⟩,e4,e⟩:=bind_some e;refine ite_tt (test_last (thn (S.E G c R3 ((F.go l1).go (l2.trans l3)) e4) fun t s4 ⟨M4,l4,R4,r4⟩=>?_));obtain ⟨q5,q6⟩:=iC (A:=X.A) (E:=NE) G.rm R4 (r2.go (l3.trans l4)) r4 e;refine thn q6 fun k2 s5 ⟨M5,l5,R5,r5⟩=>?_;cases wb.mp r5;rw [q5];exact wpAny_truthy_bool ⟨rfl,M5,l1.trans (l2.trans (l3.trans (l4.trans l5))),R5⟩
def lY (S:Snd v) (G:Good X st d) {ops:List CmpOp} {cs:List Expr}:SE X (.Compare a ops cs pos) (cT (gE v st a ops cs)):=by
 intro κ M δ h s w h' R F e;obtain ⟨p,e2,ew⟩:=map_some (show (gE v st a ops cs δ h).map asW=_ from e);cases ew;clear e;have e:=e2;clear e2;rcases ops with _ | ⟨op,_ | ⟨op',_ | ⟨_,_⟩⟩⟩
 ·cases e
 ·rcases cs with _ | ⟨b,_ | ⟨_,_⟩⟩
  ·cases e
  ·obtain ⟨q1,q2⟩:=bA2 S G R F e;exact wpAny_Compare1 q2 q1
  ·cases e
 ·rcases cs with _ | ⟨b,_ | ⟨c,_ | ⟨_,_⟩⟩⟩
  ·cases e
  ·cases e
  ·have e:(if lastMarks [op,op'] [b,c]=true then xno else xC2 op op' (v.E st a) (v.E st b) (v.E st c)) δ h=some _:=e
   by_cases hm:lastMarks [op,op'] [b,c]=true
   ·rw [if_pos hm] at e;cases e
   ·rw [if_neg hm] at e;exact bE9 S G (by simpa using hm) R F e
  ·cases e
 ·cases e
def bT7 (S:Snd v) (G:Good X st d) {ops:List CmpOp} {cs:List Expr}:ST X (.Compare a ops cs pos) (gE v st a ops cs):=by
 intro κ M δ h s w h' R F e;rcases ops with _ | ⟨op,_ | ⟨op',_ | ⟨_,_⟩⟩⟩
 ·cases e
 ·rcases cs with _ | ⟨b,_ | ⟨_,_⟩⟩
  ·cases e
  ·obtain ⟨q1,q2⟩:=bA2 S G R F e;refine wpAny_isTrue_Compare1 (thn q2 fun u s1 q=>thn q fun v s2 q=>thn q fun k s3 ⟨M3,l3,R3,r3⟩=>?_) q1;cases wb.mp r3;exact wpAny_truthy_bool ⟨rfl,M3,l3,R3⟩
  ·cases e
 ·rcases cs with _ | ⟨b,_ | ⟨c,_ | ⟨_,_⟩⟩⟩
  ·cases e
  ·cases e
  ·have e:(if lastMarks [op,op'] [b,c]=true then xno else xC2 op op' (v.E st a) (v.E st b) (v.E st c)) δ h=some _:=e
   by_cases hm:lastMarks [op,op'] [b,c]=true
   ·rw [if_pos hm] at e;cases e
   ·rw [if_neg hm] at e;exact bF0 S G (by simpa using hm) R F e
  ·cases e
 ·cases e
def bZ (e:Expr) (hs:aH e=true):starEach (e::es) X.env=(false,eval e X.env)::starEach es X.env:=by
 cases e<;>first | rfl | cases hs
theorem cD (S:Snd v) (G:Good X st d):∀ es,SA X es (aV v st es)
 | []=>fun pos _ _ _ _ _ _ _ R F e=>by cases e;exact Calls.spliced_nil ⟨_,.refl,R,.nil⟩
 | a::es=>by
  intro pos κ M δ h s ws h' R F e;have e:(if aH a=true then xb (v.E st a) fun w=>xb (aV v st es) fun ws=>aD (w::ws) else xno) δ h=some (ws,h'):=e
  by_cases hs:aH a=true
  ·rw [if_pos hs] at e;obtain ⟨x,h1,e1,e⟩:=aG e;obtain ⟨y,h2,e2,e⟩:=aG e;cases e;rw [bZ a hs];show Wp _ _ (spliced ((false,eval a X.env)::backTo pos (starEach es X.env))) _ _ s;refine Calls.spliced_cons (thn (S.E G a R F e1) fun u s1 ⟨M1,l1,R1,r1⟩=>?_);exact thn (cD S G es pos R1 (F.go l1) e2) fun us s2 ⟨M2,l2,R2,r2⟩=>⟨M2,l1.trans l2,R2,.cons (r1.go l2) r2⟩
  ·rw [if_neg hs] at e;cases e
theorem eY {v:Evs} {st:Sta}:∀ {es:List Expr} {δ:DSt} {h:aA} {r:List W×aA},aV v st es δ h=some r->es.all aH=true
 | [],_,_,_,_=>rfl
 | a::es,δ,h,r,e=>by
  have e:(if aH a=true then xb (v.E st a) fun w=>xb (aV v st es) fun ws=>aD (w::ws) else xno) δ h=some r:=e
  by_cases hs:aH a=true
  ·rw [if_pos hs] at e;obtain ⟨x,h1,e1,e⟩:=aG e;obtain ⟨y,h2,e2,e⟩:=aG e;rw [List.all_cons,hs,eY e2];rfl
  ·rw [if_neg hs] at e;cases e
theorem cA (pos:Pos):∀ (es:List Expr),es.all aH=true->(backTo pos (starEach es X.env)).any (·.1)=false
 | [],_=>rfl
 | e::es,h=>by
  rw [List.all_cons,Bool.and_eq_true] at h;have:=cA pos es h.2;rw [bZ e h.1];show (false||(backTo pos (starEach es X.env)).any (·.1))=false;rw [this];rfl
theorem nJ {S:Sx} {M:Mp}:∀ {ws:List W} {xs:List PyData} {us:List Value},gI ws=some xs->RepWs S M ws us->Reps' S M xs us
 | [],_,_,e,h=>by cases e;cases h;exact .nil
 | .d x::ws,_,_,e,h=>by
  unfold gI at e;obtain ⟨ys,q,rfl⟩:=map_some e;cases h with
  | cons a t=>exact .cons a (nJ q t)
 | .c _::ws,_,_,e,h=>by cases e
def xE (S:Snd v) (G:Good X st d) {xs:List PyData} {Q:List Value->Shared->Prop} (R:Mem X.S κ M h s) (F:Fra X κ M δ) (e:xPl (aV v st es) δ h=some (xs,h'))
  (q:∀ {M1 s1 us},Le M M1->Mem X.S κ M1 h' s1->Reps' X.S M1 xs us->us.length<=sizeLine->Q us s1):Wp X.S X.A (spliced (backTo pos (starEach es X.env))) Q NE s:=by
 obtain ⟨ws,h1,e1,e⟩:=aG e;refine thn (cD S G es pos R F e1) fun us s1 ⟨M1,l1,R1,r1⟩=>?_;split at e
 ·rename_i ys ey;obtain ⟨hl,e⟩:=aF e;cases e;have r:=nJ ey r1;exact q l1 R1 r (by rw [<- r.length];exact hl)
 ·cases e
def bT8 (S:Snd v) (G:Good X st d) {k}:SE X (.Tuple es k pos) (xb (xPl (aV v st es)) fun xs=>aD (.d (.tuple xs))):=by
 intro κ M δ h s w h' R F e;obtain ⟨x,h1,e1,e⟩:=aG e;cases e;exact wpAny_Tuple_spliced (xE S G R F e1 fun l1 R1 r z=>⟨z,(R1.tup (t:=_) r z).go l1⟩)
def uZ (S:Snd v) (G:Good X st d):SF X (.List es pos) (xPl (aV v st es)):=by
 intro κ M δ h s w h' R F e;refine wpAny_List_spliced (xE S G R F e fun {M1 s1 us} l1 R1 r z=>⟨z,?_⟩);obtain ⟨N,a,b⟩:=R1.lstP (t:=s1.toks) (n:=0) r z;exact ⟨N,l1.trans a,b⟩
theorem aG0 (S:Snd v) (G:Good X st d):∀ o,SO X o (kW v st o)
 | none=>fun _ _ _ _ _ _ _ R F e=>by cases e;rw [evalPart_none];exact wpAny_pure ⟨.none,_,.refl,R⟩
 | some a=>by
  intro κ M δ h s o h' R F e;obtain ⟨x,h1,e1,e⟩:=aG (show xb (v.E st a) (fun w=>match w with
   | .d (.int i)=>aD (some i)
   | _=>xno) δ h=some (o,h') from e)
  rw [evalPart_some];refine thn (S.E G a R F e1) fun u s1 ⟨M1,l1,R1,r1⟩=>?_;rcases x with (_ | _ | i | _ | _ | _ | _) | _<;>first | cases e;done | skip
  cases e;obtain ⟨t,rfl⟩:=wi.mp r1;exact ⟨.int _ t,M1,l1,R1⟩
def bT9 (S:Snd v) (G:Good X st d) {lo hi:Option Expr} {p2:Pos} {α:Type} {Q:α->Value->Shared->Prop} {k:W->Option Int->Option Int->aA->Option (α×aA)} {r:α×aA} (R:Mem X.S κ M h s) (F:Fra X κ M δ) (e:xb (v.E st a) (fun x=>xb (kW v st lo) fun l=>xb (kW v st hi) fun u=>fun _ h=>k x l u h) δ h=some r)
  (q:∀ {M1 h1 s1 x u vl vu l hh sl},Le M M1->Mem X.S κ M1 h1 s1->RepW X.S M1 x u->s1.heap.IsSliceOf sl vl vu .none->IsPart vl l->IsPart vu hh->k x l hh h1=some r->∃ T id,typeLookup (.type T) "__getitem__"=pure (some (.builtin id))/\s1.TypeIs u T/\Wp X.S X.A (getItem u (.ref sl)) (Q r.1) NE s1) :
  Wp X.S X.A (eval (.Subscript a (.Slice lo hi none p2) pos) X.env) (Q r.1) NE s:=by
 obtain ⟨x,h1,e1,e⟩:=aG e;obtain ⟨l,h2,e2,e⟩:=aG e;obtain ⟨hh,h3,e3,e⟩:=aG e;refine Subscript_ (thn (S.E G a R F e1) fun u s1 ⟨M1,l1,R1,r1⟩=>?_);refine wpAny_Slice (thn (aG0 S G lo R1 (F.go l1) e2) fun vl s2 ⟨pl,M2,l2,R2⟩=>thn (aG0 S G hi R2 ((F.go l1).go l2) e3) fun vu s3 ⟨pu,M3,l3,R3⟩=>?_);rw [evalPart_none];refine wpAny_pure ?_;have R4:Mem X.S κ M3 h3 { s3 with heap:=s3.heap.push { cls:=.type "slice",data:=.fields #[vl,vu,.none] } }:=R3.kept (t:=s3.toks) fun b ob q=>Heap.get?_push_of_some _ q;obtain ⟨T,id,hT,ht,hg⟩:=q (l1.trans (l2.trans l3)) R4 (r1.go (l2.trans l3)) (Heap.IsSliceOf.new ..) pl pu e;show Wp X.S X.A (subscriptTail a (.Slice lo hi none p2) u (.ref s3.heap.objs.size)) _ _ { s3 with heap:=s3.heap.push { cls:=.type "slice",data:=.fields #[vl,vu,.none] } };exact tail_any (ops:=[.ref s3.heap.objs.size,u]) ht hT hg (by with_unfolding_all rfl)
end
end DL

namespace DL
open PySem PySem.Spec PyProof.Rows L2 CI
structure Turn (S:Sx) (tg:Expr) (all:List PyData) (c:Cw) (M0:Mp) (fp:List Addr) (it:Addr) (tn:Nat->Heap->Prop):Prop where
 keep:∀ i h h',tn i h->(∀ b∈fp,∀ o,h.get? b=some o->h'.get? b=some o)->tn i h'
 obj:∀ i h,tn i h->∀ b∈fp,∃ o,h.get? b=some o
 item:∀ {A:Around} {κ:Kp} {M:Mp} {h:aA} {s:Shared} {E:Value->Shared->Prop} {i:Nat} {x:PyData},A.handled=none->Mem S κ M h s->Le M0 M->(∀ b∈fp,bV κ M b)->tn i s.heap->all[i]?=some x->condB c all h=true ->
  Wp S A (pyNext (.ref it)) (fun r s1=>∃ u,r=some u/\Wp S A (letOwnedTupleGo tg (.ref it) u) (fun _ s2=>∃ M',Le M M'/\Mem S κ M' h s2/\Rep S M'.Z x u/\tn (i+1) s2.heap/\∀ b∈fp,bV κ M' b) E s1) E s
 done:∀ {A:Around} {κ:Kp} {M:Mp} {h:aA} {s:Shared} {E:Value->Shared->Prop} {i:Nat},A.handled=none->Mem S κ M h s->Le M0 M->(∀ b∈fp,bV κ M b)->tn i s.heap->all.length<=i->condB c all h=true ->
  Wp S A (pyNext (.ref it)) (fun r s1=>r=none/\Mem S κ M h s1) E s
 self:∀ (A:Around) (i:Nat) (s:Shared) (Q:Value->Shared->Prop) (E:Value->Shared->Prop),tn i s.heap->Q (.ref it) s->Wp S A (pyIter (.ref it)) Q E s
def Pi (S:Sx) (κ:Kp) (M:Mp) (h:aA) (tg:Expr) (p:List PyData×Cw) (u:Value) (s:Shared):Prop :=
 ∃ M' it fp tn,Le M M'/\Mem S κ M' h s/\u=.ref it/\Turn S tg p.1 p.2 M' fp it tn/\tn 0 s.heap/\(∀ b∈fp,bV κ M' b)/\p.1.length<=sizeLine
def SI (X:Cx) (tg iter:Expr) (f:XR (List PyData×Cw)):Prop:=∀ ⦃κ M δ h s p h'⦄,Mem X.S κ M h s->Fra X κ M δ->f δ h=some (p,h')->Wp X.S X.A (eval iter X.env) (fun v s1=>Wp X.S X.A (pyIter v) (Pi X.S κ M h' tg p) NE s1) NE s
def aG1 {M:Model} {A:Around} {E:Value->Shared->Prop} {s:Shared} {tg:Expr} {it:Addr} {u:Value} {o:Obj} {n:String} {vs:Array Value} {Q:Unit->Shared->Prop} (ho:s.heap.get? it=some o) (hc:o.cls=.type n) (hd:o.data=.fields vs)
  (hn:["enumerate","zip","dict_itemiterator","dict_reverseitemiterator","odict_iterator","itertools.zip_longest","itertools.pairwise"].contains n=false) (hQ:Q () s):wpAny M A (letOwnedTupleGo tg (.ref it) u) Q E s:=by
 unfold letOwnedTupleGo;cases tg<;>first
  | exact wpAny_pure hQ
  | (cases u<;>first
    | exact wpAny_pure hQ
    | (refine wpAny_bind (wpAny_load ho ?_)
       rw [hc,hd];show wpAny M A (if (["enumerate","zip","dict_itemiterator","dict_reverseitemiterator","odict_iterator","itertools.zip_longest","itertools.pairwise"].contains n&&vs[0]?==some (rawInt _))=true then _ else _) Q E s;rw [if_neg (by intro h;rw [hn,Bool.false_and] at h;cases h)];exact wpAny_pure hQ))
mutual
theorem aG2:∀ {a b:PyData},peq a b=true->a=b
 | .none,b,h=>by cases b<;>first | rfl | cases h
 | .bool x,b,h=>by cases b<;>first | cases h;done | (rw [eq_of_beq (show (x==_)=true from h)])
 | .int x,b,h=>by cases b<;>first | cases h;done | (rw [eq_of_beq (show (x==_)=true from h)])
 | .str x,b,h=>by cases b<;>first | cases h;done | (rw [eq_of_beq (show (x==_)=true from h)])
 | .list x,b,h=>by cases b<;>first | cases h;done | (rw [peqs_eq (show peqs x _=true from h)])
 | .tuple x,b,h=>by cases b<;>first | cases h;done | (rw [peqs_eq (show peqs x _=true from h)])
 | .dict x,b,h=>by cases b<;>cases h
theorem peqs_eq:∀ {a b:List PyData},peqs a b=true->a=b
 | [],b,h=>by cases b<;>first | rfl | cases h
 | x::a,b,h=>by
  cases b with
  | nil=>cases h
  | cons y b=>replace h:(peq _ y&&peqs _ b)=true:=h;rw [Bool.and_eq_true] at h;rw [aG2 h.1,peqs_eq h.2]
end
section
variable {S:Sx} {κ:Kp} {M M0:Mp} {h:aA} {s:Shared} {A:Around} {E:Value->Shared->Prop} {tg:Expr} {all:List PyData} {c:Cw} {a it:Addr} {us:List Value} {n:Nat}
def Mem.turn {h2:Heap} {t:Nat} {fp:List Addr} (R:Mem S κ M h s) (hf:∀ b∈fp,bV κ M b) (k:∀ b o,b∉fp->s.heap.get? b=some o->h2.get? b=some o):Mem S κ M h { s with heap:=h2,toks:=t } :=
 R.keep (fun b o e nf=>k b o (fun z=>nf (hf b z)) e) R.bare rfl
def aG3 {hc:c=none->∃ us n,M0.Z a=some (cM us n)/\us.length<=sizeLine/\Reps' S M0 all us} {hi:∀ q,c=some q->q.2=false/\∃ p,M0.m[q.1]?=some p/\p.1=a} (R:Mem S κ M h s) (l:Le M0 M) (co:condB c all h=true) :
  ∃ us n,s.heap.get? a=some (cM us n)/\us.length<=sizeLine/\Reps' S M all us:=by
 cases c with
 | none =>
  obtain ⟨us,n,e,z,r⟩:=hc rfl;exact ⟨us,n,R.z _ _ (l.z _ _ e),z,r.go l⟩
 | some q =>
  obtain ⟨i,q2⟩:=q;obtain ⟨h0,p,e,rfl⟩:=hi _ rfl;cases (show q2=false from h0);have co:(match h[i]? with
   | some (.l ys)=>peqs ys all
   | _=>false)=true:=co
  split at co
  ·rename_i ys ey;rw [<- peqs_eq co];obtain ⟨us,n,e1,e2,e3⟩:=R.cel i p _ (l.at e) ey;exact ⟨us,n,e1,e2,e3⟩
  ·cases co
def pJ (hc:c=none->∃ us n,M0.Z a=some (cM us n)/\us.length<=sizeLine/\Reps' S M0 all us) (hi:∀ q,c=some q->q.2=false/\∃ p,M0.m[q.1]?=some p/\p.1=a):Turn S tg all c M0 [it] it (fun i h=>h.IsListIter it a i) where
 keep:=fun i h h' st k=>st.at fun o e=>k it (by simp) o e
 obj:=fun i h st b hb=>by
  rw [List.mem_singleton.mp hb];obtain ⟨o,e,_⟩:=st;exact ⟨o,e⟩
 item:=by
  intro A κ M h s E i x hd R l hf st hx co;obtain ⟨us,n,ho,hz,rr⟩:=aG3 (hc:=hc) (hi:=hi) R l co;obtain ⟨u,hu,ru⟩:=mY rr hx;refine wpAny_pyNext_list_item st (cY ho).isList (x:=u) (by simpa using hu) fun h' st' sb=>?_;have R1:Mem S κ M h { s with heap:=h' }:=R.turn (t:=s.toks) hf fun b o hb e=>(sb.2 b fun z=>hb (by simp [z])).trans e;obtain ⟨o,e,c,d⟩:=id st';exact ⟨u,rfl,aG1 (s:={ s with heap:=h' }) e c d (by decide) ⟨M,.refl,R1,ru,st',hf⟩⟩
 done:=by
  intro A κ M h s E i hd R l hf st hx co;obtain ⟨us,n,ho,hz,rr⟩:=aG3 (hc:=hc) (hi:=hi) R l co;have hl:=rr.length;exact wpAny_pyNext_list_end hd st (cY ho).isList (by simp;omega) fun h' eb=>⟨rfl,R.turn (t:=s.toks) hf fun b o hb e=>eb b o (fun z=>hb (by simp [z])) e⟩
 self:=fun _ _ _ _ _ st h=>wpAny_pyIter_listiter st h
def vA (e0:M0.Z a=some { cls:=.type "tuple",data:=.seq us.toArray n }) (r0:Reps' S M0 all us):Turn S tg all none M0 [it] it (fun i h=>h.IsTupleIter it a i) where
 keep:=fun i h h' st k=>st.at fun o e=>k it (by simp) o e
 obj:=fun i h st b hb=>by
  rw [List.mem_singleton.mp hb];obtain ⟨o,e,_⟩:=st;exact ⟨o,e⟩
 item:=by
  intro A κ M h s E i x hd R l hf st hx co;obtain ⟨u,hu,ru⟩:=mY (r0.go l) hx;refine wpAny_pyNext_tuple_item st (show s.heap.IsTuple a us.toArray from fS (R.z _ _ (l.z _ _ e0))) (x:=u) (by simpa using hu) fun h' st' sb=>?_;have R1:Mem S κ M h { s with heap:=h' }:=R.turn (t:=s.toks) hf fun b o hb e=>(sb.2 b fun z=>hb (by simp [z])).trans e;obtain ⟨o,e,c,d⟩:=id st';exact ⟨u,rfl,aG1 (s:={ s with heap:=h' }) e c d (by decide) ⟨M,.refl,R1,ru,st',hf⟩⟩
 done:=by
  intro A κ M h s E i hd R l hf st hx co;have hl:=r0.length;exact wpAny_pyNext_tuple_end hd st (show s.heap.IsTuple a us.toArray from fS (R.z _ _ (l.z _ _ e0))) (by simp;omega) fun h' eb=>⟨rfl,R.turn (t:=s.toks) hf fun b o hb e=>eb b o (fun z=>hb (by simp [z])) e⟩
 self:=fun _ _ _ _ _ st h=>wpAny_pyIter_tupleiter st h
def aS8 {lo:Int} {n i:Nat} {x:PyData} (e:(rng lo n)[i]?=some x):i < n/\x=.int (lo+i):=by
 unfold rng at e;rw [List.getElem?_map] at e;obtain ⟨j,e1,rfl⟩:=map_some e;obtain ⟨h1,h2⟩:=List.getElem?_eq_some_iff.mp e1;rw [List.getElem_range] at h2;subst h2;exact ⟨by simpa using h1,rfl⟩
def vB {lo:Int}:Turn S tg (rng lo n) none M0 [it] it (fun i h=>IsRangeIter h it (lo+(i:Nat)*1) ((n:Int) - (i:Nat)) 1) where
 keep:=fun i h h' st k=>k it (by simp) _ st
 obj:=fun i h st b hb=>by rw [List.mem_singleton.mp hb];exact ⟨_,st⟩
 item:=by
  intro A κ M h s E i x hd R l hf st hx co;obtain ⟨hi,rfl⟩:=aS8 hx;have W:=Walks.range (prog:=S.P) (w:=S.w) hd it lo 1 n;refine W.item i s _ _ hi st fun v h' tk hv st' kk=>?_;obtain ⟨t,rfl⟩:=hv;have R1:Mem S κ M h { s with heap:=h',toks:=tk }:=R.turn hf fun b o hb e=>kk b o (by simpa using hb) e;refine ⟨_,rfl,aG1 (s:={ s with heap:=h',toks:=tk }) (n:="range_iterator") st' rfl rfl (by decide) ⟨M,.refl,R1,rep_i.mpr ⟨t,?_⟩,st',hf⟩⟩;rw [Int.mul_one]
 done:=by
  intro A κ M h s E i hd R l hf st hx co;have hx:n<=i:=by simpa [rng] using hx
  exact wpAny_pyNext_range_end hd st (by omega) fun h' eb=>⟨rfl,R.turn (t:=s.toks) hf fun b o hb e=>eb b o (fun z=>hb (by simp [z])) e⟩
 self:=fun _ _ _ _ _ st h=>wpAny_pyIter_rangeiter st h
def Mem.one (R:Mem S κ M h s):∀ b∈[s.heap.objs.size],bV κ M b:=fun b hb=>by rw [List.mem_singleton.mp hb];exact R.size
def tL {lo hi:Int} {t u v:Tok} {tk:Nat} (R:Mem S κ M h s) (h1:-(2^62)<=lo) (h2:lo < 2^62) (h3:-(2^62)<=hi) (h4:hi < 2^62) (h5:hi - lo<=16000000) :
  Wp S A (pyIter (.ref s.heap.objs.size)) (Pi S κ M h tg (rng lo (hi - lo).toNat,none)) E { s with heap:=s.heap.push { cls:=.type "range",data:=.fields #[.int lo t,.int hi u,.int 1 v] },toks:=tk }:=by
 refine wpAny_pyIter_range (IsRange.new ..) (small_one h1 h2 h3 h4) ?_;have R1:Mem S κ M h { s with heap:=s.heap.push { cls:=.type "range",data:=.fields #[.int lo t,.int hi u,.int 1 v] },toks:=tk }:=R.kept fun b o e=>Heap.get?_push_of_some _ e;refine ⟨M,_,[(s.heap.push { cls:=.type "range",data:=.fields #[.int lo t,.int hi u,.int 1 v] }).objs.size],_,.refl,R1.kept (t:=tk) fun b o e=>Heap.get?_push_of_some _ e,rfl,vB,?_,R1.one,?_⟩
 case refine_2=>show (rng lo (hi - lo).toNat).length<=sizeLine;unfold rng;rw [List.length_map,List.length_range,sizeLine_eq];omega
 have e1:lo+((0:Nat):Int)*1=lo:=by simp
 have e2:(((hi - lo).toNat:Nat):Int) - ((0:Nat):Int)=Builtin.Range.rangeSize lo hi 1:=by rw [rangeSize_one];split<;>omega
 show IsRangeIter _ _ (lo+((0:Nat):Int)*1) ((((hi - lo).toNat:Nat):Int) - ((0:Nat):Int)) 1;rw [e1,e2];exact Heap.get?_push_size _ rfl
end
section
variable {X:Cx} {st:Sta} {d:Nat} {v:Evs} {a b tg iter:Expr} {κ:Kp} {M:Mp} {δ:DSt} {h h':aA} {s:Shared} {E:Value->Shared->Prop} {pos p:Pos}
def Pi.go {S:Sx} {M M':Mp} {q:List PyData×Cw} {u:Value} (l:Le M M') (x:Pi S κ M' h tg q u s):Pi S κ M h tg q u s:=let ⟨N,it,fp,tn,a,b⟩:=x;⟨N,it,fp,tn,l.trans a,b⟩
def vC (S:Snd v) (G:Good X st d):SI X tg iter (aZ (v.E st iter)):=by
 intro κ M δ h s p h' R F e;obtain ⟨x,h1,e1,e⟩:=aG e;refine thn (S.E G iter R F e1) fun u s1 ⟨M1,l1,R1,r1⟩=>?_;rcases x with (_ | _ | _ | _ | xs | xs | _) | i<;>first | cases e;done | skip
 ·cases e;obtain ⟨a,us,n,rfl,z,⟨⟨n,rfl⟩,hz⟩,rr⟩:=rep_l.mp (show Rep X.S M1.Z (.list _) u from r1);exact wpAny_pyIter_list (cY (R1.z _ _ z)).isList (Pi.go l1 ⟨M1,_,[s1.heap.objs.size],_,.refl,R1.kept (t:=s1.toks) fun b o e=>Heap.get?_push_of_some _ e,rfl,pJ (fun _=>⟨_,_,z,hz,rr⟩) (fun i z=>nomatch z),⟨_,Heap.get?_push_size _ rfl,rfl,rfl⟩,R1.one,by rw [rr.length];exact hz⟩)
 ·cases e;obtain ⟨a,us,n,rfl,z,hz,rr⟩:=gX R1 r1 rfl;exact wpAny_pyIter_tuple (show s1.heap.IsTuple a us.toArray from fS (R1.z _ _ z)) (Pi.go l1 ⟨M1,_,[s1.heap.objs.size],_,.refl,R1.kept (t:=s1.toks) fun b o e=>Heap.get?_push_of_some _ e,rfl,vA z rr,⟨_,Heap.get?_push_size _ rfl,rfl,rfl⟩,R1.one,by rw [rr.length];exact hz⟩)
 ·dsimp only at e;split at e
  ·rename_i xs ei;cases e;obtain ⟨p,ep,rfl⟩:=r1;obtain ⟨us,n,ho,hz,rr⟩:=R1.cel i p _ ep ei;exact wpAny_pyIter_list (cY ho).isList (Pi.go l1 ⟨M1,_,[s1.heap.objs.size],_,.refl,R1.kept (t:=s1.toks) fun b o e=>Heap.get?_push_of_some _ e,rfl,pJ (fun z=>nomatch z) (fun j z=>by cases z;exact ⟨rfl,p,ep,rfl⟩),⟨_,Heap.get?_push_size _ rfl,rfl,rfl⟩,R1.one,by rw [rr.length];exact hz⟩)
  ·cases e
def bA3 {i j:Int} (h:fN i j=true):j - i<=16000000/\-(2^62)<=i/\i < 2^62/\-(2^62)<=j/\j < 2^62:=by
 unfold fN at h
 simpa only [Bool.and_eq_true,decide_eq_true_eq] using h
def eO (G:Good X st d) {x:Str} (hx:(dF st x&&(slot st x).isNone&&st.bl.contains x)=true):cG x=true/\Gl X x/\X.S.mg x=none:=by
 rw [Bool.and_eq_true,Bool.and_eq_true] at hx;obtain ⟨h1,h2⟩:=nH G hx.1.1;exact ⟨h1,h2,G.bl _ hx.2⟩
theorem bF1 (S:Snd v) (G:Good X st d) (hx:(dF st "range"&&(slot st "range").isNone&&st.bl.contains "range")=true) (hs:aH a=true):SI X tg (.Call (.Name "range" p) [a] [] pos) (xb (v.E st a) fun w=>fun _ h=>(match w with
   | .d (.int j)=>if fN 0 j=true then some ((rng 0 j.toNat,none),h) else none
   | _=>none)):=by
 intro κ M δ h s q h' R F e;obtain ⟨h1,h2,h3⟩:=eO G hx;obtain ⟨x,hh,e1,e⟩:=aG e;have ea:aV v st [a] δ h=some ([x],hh):=by unfold aV;rw [if_pos hs];unfold aV xb aD;rw [e1];rfl
 have es:=bZ (X:=X) (es:=[]) a hs;refine Call_ (eK F R h2 h3 boot_range h1 (PyProof.Rows.callWith_type1 (thn (cD S G [a] pos R F ea) fun us s1 ⟨M1,l1,R1,r0⟩=>?_) es rfl));obtain ⟨u,rfl,r1⟩:=w1 r0;split at e
 ·obtain ⟨hb,e⟩:=aF e;cases e;obtain ⟨t,rfl⟩:=wi.mp r1;obtain ⟨b1,b2,b3,b4,b5⟩:=bA3 hb;refine call_range_1 (thn (tL (tg:=tg) R1 b2 b3 b4 b5 b1) fun _ _ q=>Pi.go l1 ?_);rw [Int.sub_zero] at q;exact q
 ·cases e
theorem bF2 (S:Snd v) (G:Good X st d) (hx:(dF st "range"&&(slot st "range").isNone&&st.bl.contains "range")=true) (hs:aH a=true) (hs2:aH b=true):SI X tg (.Call (.Name "range" p) [a,b] [] pos) (xb (v.E st a) fun u=>xb (v.E st b) fun w=>fun _ h=>(match u,w with
   | .d (.int i),.d (.int j)=>if fN i j=true then some ((rng i (j - i).toNat,none),h) else none
   | _,_=>none)):=by
 intro κ M δ h s q h' R F e;obtain ⟨h1,h2,h3⟩:=eO G hx;obtain ⟨x,hh,e1,e⟩:=aG e;obtain ⟨y,hh2,e2,e⟩:=aG e;have ea:aV v st [a,b] δ h=some ([x,y],hh2):=by unfold aV;rw [if_pos hs];unfold xb;rw [e1];unfold aV;dsimp only [Option.bind];rw [if_pos hs2];unfold aV xb aD;dsimp only;rw [e2];rfl
 refine Call_ (eK F R h2 h3 boot_range h1 (PyProof.Rows.callWith_type1 (thn (cD S G [a,b] pos R F ea) fun us s1 ⟨M1,l1,R1,r0⟩=>?_) (bZ a hs) (by rw [bZ b hs2];rfl)));obtain ⟨u,v,rfl,r1,r2⟩:=w2 r0;split at e
 ·obtain ⟨hb,e⟩:=aF e;cases e;obtain ⟨t,rfl⟩:=wi.mp r1;obtain ⟨t',rfl⟩:=wi.mp r2;obtain ⟨b1,b2,b3,b4,b5⟩:=bA3 hb;exact call_range_2 (thn (tL R1 b2 b3 b4 b5 b1) fun _ _ q=>Pi.go l1 q)
 ·cases e
noncomputable def fZ (κ:Kp) (fp:List Addr) (hp:Heap):Kp:=fun a=>if a∈fp then (hp.get? a).map fun o=>(true,o) else κ a
noncomputable def unK (fp:List Addr) (κ:Kp):Kp:=fun a=>if a∈fp then none else κ a
def Mem.pin {S:Sx} {fp:List Addr} (R:Mem S κ M h s) (hf:∀ b∈fp,bV κ M b):Mem S (fZ κ fp s.heap) M h s:=by
 refine ⟨R.z,fun a b o e=>?_,R.len,R.ap,fun q hq a ha=>?_,R.cel,R.base,R.bare,R.os⟩
 ·unfold fZ at e;split at e
  ·rename_i hm;obtain ⟨o',e1,e2⟩:=map_some e;cases e2;exact ⟨fun _=>e1,⟨_,e1⟩,(hf a hm).1⟩
  ·exact R.k a b o e
 ·obtain ⟨h1,h2,h3⟩:=R.off q hq a ha;refine ⟨h1,?_,h3⟩;unfold fZ;rw [if_neg fun hm=>by rcases ha with z | z;exact ((hf a hm).2.2 q hq).1 z.symm;exact ((hf a hm).2.2 q hq).2 z.symm];exact h2
def Fra.kp {κ':Kp} (F:Fra X κ M δ) (k:∀ a,bS7 X a->κ' a=κ a):Fra X κ' M δ :=
 ⟨F.ok,F.len,let ⟨o,m,h1,h2,h3⟩:=F.loc;⟨o,m,by rw [k _ (.inl rfl)];exact h1,h2,fun i x w a b c=>let ⟨u,r,l⟩:=h3 i x w a b c;⟨u,r,l.imp id fun ⟨q,c,o,e1,e2,e3⟩=>⟨q,c,o,e1,by rw [k _ (.inr (.inl ⟨x,e1⟩))];exact e2,e3⟩⟩⟩,fun x c e=>let ⟨o,v,h1,h2⟩:=F.cell x c e;⟨o,v,by rw [k _ (.inr (.inl ⟨x,e⟩))];exact h1,h2⟩,F.frs.kp fun a h=>k a (.inr (.inr h))⟩
def Fra.mine (F:Fra X κ M δ) {a:Addr} (ha:bS7 X a):κ a≠none:=by
 rcases ha with rfl | ⟨x,e⟩ | ⟨l,env,z1,z2,z3⟩
 ·obtain ⟨o,m,h1,_⟩:=F.loc;rw [h1];exact fun z=>nomatch z
 ·obtain ⟨o,v,h1,_⟩:=F.cell x a e;rw [h1];exact fun z=>nomatch z
 ·obtain ⟨l',y1,y2⟩:=F.frs;rw [z1] at y1;cases y1;obtain ⟨_,L,o,y3,y4,_⟩:=y2 env z2;rw [z3] at y3;cases y3;rw [y4];exact fun z=>nomatch z
def Fra.pin {fp:List Addr} {hp:Heap} (F:Fra X κ M δ) (hf:∀ b∈fp,bV κ M b):Fra X (fZ κ fp hp) M δ:=F.kp fun a ha=>by
 unfold fZ;rw [if_neg fun hm=>F.mine ha (hf a hm).2.1]
def aG4 {S:Sx} {fp:List Addr} {hp:Heap} {κ2:Kp} {M2:Mp} {h2:aA} {s2:Shared} (F:Fra X κ M δ) (hf:∀ b∈fp,bV κ M b) (ho:∀ b∈fp,∃ o,hp.get? b=some o) (o2:Own X (fZ κ fp hp) κ2) (R2:Mem S κ2 M2 h2 s2) :
  Own X κ (unK fp κ2)/\Mem S (unK fp κ2) M2 h2 s2/\(∀ b∈fp,bV (unK fp κ2) M2 b)/\(∀ b∈fp,∀ o,hp.get? b=some o->s2.heap.get? b=some o)/\∀ δ',Fra X κ2 M2 δ'->Fra X (unK fp κ2) M2 δ':=by
 have same:∀ b∈fp,κ2 b=fZ κ fp hp b:=fun b hb=>by
  by_cases e:κ2 b=fZ κ fp hp b
  ·exact e
  ·refine absurd (hf b hb).2.1 (F.mine ?_);rcases o2 b e with z | z
   ·exact .inl z
   ·exact .inr (.inl z.2)
 have pins:∀ b∈fp,∀ o,hp.get? b=some o->κ2 b=some (true,o):=fun b hb o e=>by rw [same b hb];unfold fZ;rw [if_pos hb,e];rfl
 refine ⟨fun a ha=>?_,R2.less fun a x e=>?_,fun b hb=>?_,fun b hb o e=>?_,fun δ' F'=>F'.kp fun a ha=>?_⟩
 ·have nm:a∉fp:=fun hm=>ha (by unfold unK;rw [if_pos hm,(hf a hm).2.1]);refine o2 a fun e=>ha ?_;unfold unK;rw [if_neg nm,e];unfold fZ;rw [if_neg nm]
 ·unfold unK at e;split at e
  ·cases e
  ·exact e
 ·obtain ⟨o,e⟩:=ho b hb;have k2:=pins b hb o e;exact ⟨(R2.k b _ _ k2).2.2,by unfold unK;rw [if_pos hb],R2.kc k2⟩
 ·exact (R2.k b _ _ (pins b hb o e)).1 rfl
 ·have nm:a∉fp:=fun hm=>F.mine ha (hf a hm).2.1;unfold unK;rw [if_neg nm]
end
end DL

namespace DL
open PySem PySem.Spec PyProof.Rows L2 CI
section
variable {X:Cx} {st:Sta} {d:Nat} {v:Evs} {a b c tg iter:Expr} {κ:Kp} {M:Mp} {δ:DSt} {h h':aA} {s:Shared} {pos:Pos} {body els:List Stmt} {x:Str} {g:XG} {tb:XS}
def Ps.go {κ1:Kp} {M1:Mp} {fl:Fl} {f:Flow} (o:Own X κ κ1) (l:Le M M1) (p:Ps X κ1 M1 h fl f s):Ps X κ M h fl f s:=let ⟨κ2,M2,a,b,q⟩:=p;⟨κ2,M2,o.trans a,l.trans b,q⟩
def quiet (F:Fra X κ M δ):interactive X.env=false:=by simp [interactive,F.ok.kind]
theorem tM (S:Snd v) (G:Good X st d):∀ ss,SSs X ss (xSs v st ss)
 | []=>fun _ _ _ _ _ _ _ R F e=>by cases e;exact wpAny_execs_nil ⟨_,_,.refl,.refl,R,F⟩
 | t::r=>by
  intro κ M δ h s fl h' R F e;obtain ⟨⟨f1,h1⟩,e1,e⟩:=bind_some (show (v.S st t δ h).bind (fun p=>match p.1 with
   | .nx δ'=>xSs v st r δ' p.2
   | f=>some (f,p.2))=some (fl,h') from e)
  refine wpAny_execs_cons (thn (S.S G t R F e1) fun f s1 ⟨κ1,M1,o1,l1,R1,q⟩=>?_);cases f1 with
  | nx δ1 =>
   cases f<;>first | exact q.elim | skip
   exact thn (tM S G r R1 q e) fun _ _ p=>p.go o1 l1
  | rt w=>cases e;cases f<;>first | exact q.elim | exact ⟨κ1,M1,o1,l1,R1,q⟩
  | bk w=>cases e;cases f<;>first | exact q.elim | exact ⟨κ1,M1,o1,l1,R1,q⟩
  | ct w=>cases e;cases f<;>first | exact q.elim | exact ⟨κ1,M1,o1,l1,R1,q⟩
def mM {t:Stmt}:SS X t fun _ _=>none:=fun _ _ _ _ _ _ _ _ _ e=>by cases e
def bU0 {f:XR W} (hf:SE X a f):SS X (.Return (some a) pos) fun δ h=>(f δ h).bind fun p=>some (.rt p.1,p.2):=by
 intro κ M δ h s fl h' R F e;obtain ⟨⟨w,h1⟩,e1,e⟩:=bind_some e;cases e;exact wpAny_Return_some (thn (hf R F e1) fun u s1 ⟨M1,l1,R1,r1⟩=>⟨κ,M1,.refl,l1,R1,r1⟩)
def cK6 (S:Snd v) (G:Good X st d):SS X (.If c body els pos) fun δ h=>(v.T st c δ h).bind fun p=>if p.1=true then xSs v st body δ p.2 else xSs v st els δ p.2:=by
 intro κ M δ h s fl h' R F e;obtain ⟨⟨t,h1⟩,e1,e⟩:=bind_some e;refine wpAny_If (thn (S.T G c R F e1) fun t' s1 ⟨et,M1,l1,R1⟩=>?_);subst et;cases t' with
 | true=>exact thn (tM S G body R1 (F.go l1) e) fun _ _ p=>p.go .refl l1
 | false=>exact thn (tM S G els R1 (F.go l1) e) fun _ _ p=>p.go .refl l1
def bF3 (S:Snd v) (G:Good X st d) (hs:swapsWith a none pos.line X.env=pure false):SS X (.Expr a pos) fun δ h=>(v.E st a δ h).bind fun p=>some (.nx δ,p.2):=by
 intro κ M δ h s fl h' R F e;obtain ⟨⟨w,h1⟩,e1,e⟩:=bind_some e;cases e;exact wpAny_Expr_any (thn (S.E G a R F e1) fun u s1 ⟨M1,l1,R1,r1⟩=>⟨κ,M1,.refl,l1,R1,F.go l1⟩) (quiet F) hs
def xF {α:Type} {l:List α} {i:Nat} {x:α} (e:l[i]?=some x):l.drop i=x::l.drop (i+1):=by
 obtain ⟨hi,rfl⟩:=List.getElem?_eq_some_iff.mp e;exact List.drop_eq_getElem_cons hi
def bU1 {f:XR (List PyData×Cw)} (hd:X.A.handled=none) (hi:SI X tg iter f) (hg:SG X tg g) (hb:SSs X body tb) (hs:∀ x,foldedSetIterable iter X.env x=pure x) :
  SS X (.For tg iter body [] pos) fun δ h=>(f δ h).bind fun p=>aW g tb p.1.2 p.1.1 p.1.1 δ p.2:=by
 intro κ M δ h s fl h' R F e;obtain ⟨⟨⟨all,c⟩,h1⟩,e1,e⟩:=bind_some e;refine wpAny_For (thn (hi R F e1) fun v s1 q1=>thn q1 fun itv s2 q2=>?_) hs;obtain ⟨M2,it,fp,tn,l2,R2,rfl,T,t2,f2,_⟩:=q2;dsimp only at T e;have hp:PassesOwn (model X.S.P X.S.w) X.A X.env NE:=PassesOwn.never;obtain ⟨I,hI⟩:∃ I:Nat->Shared->Prop,I=fun n s'=>∃ i κ' M' δ' hh,n=all.length - i/\i<=all.length/\Own X κ κ'/\Le M2 M'/\Mem X.S κ' M' hh s'/\Fra X κ' M' δ'/\tn i s'.heap/\(∀ b∈fp,bV κ' M' b)/\aW g tb c all (all.drop i) δ' hh=some (fl,h'):=⟨_,rfl⟩;refine codeAny_forLoop_any I ?_ all.length (by rw [hI];exact ⟨0,κ,M2,δ,h1,rfl,Nat.zero_le _,.refl,.refl,R2,F.go l2,t2,f2,e⟩);intro n s3 hn;rw [hI] at hn;obtain ⟨i,κ3,M3,δ3,h3,rfl,hle,o3,l3,R3,F3,t3,f3,e3⟩:=hn;cases q:all[i]? with
 | none =>
  have hl:all.length<=i:=List.getElem?_eq_none_iff.mp q;rw [List.drop_of_length_le hl] at e3;obtain ⟨co,e3⟩:=aF (show (if condB c all h3=true then some (Fl.nx δ3,h3) else none)=some (fl,h') from e3);cases e3;refine wpAny_passesOwn hp (thn (T.done hd R3 l3 f3 t3 hl co) fun r s4 ⟨hr,R4⟩=>?_);subst hr;exact wpAny_execs_nil ⟨κ3,M3,o3,l2.trans l3,R4,F3⟩
 | some x =>
  have hlt:i < all.length:=(List.getElem?_eq_some_iff.mp q).1;rw [xF q] at e3;obtain ⟨co,e3⟩:=aF (show (if condB c all h3=true then (g (.d x) δ3 h3).bind (fun p=>(tb p.1 p.2).bind fun q=>(match q.1 with
    | .nx δ'=>aW g tb c all (all.drop (i+1)) δ' q.2
    | .ct δ'=>aW g tb c all (all.drop (i+1)) δ' q.2
    | .bk δ'=>some (.nx δ',q.2)
    | .rt w=>some (.rt w,q.2))) else none)=some (fl,h') from e3)
  obtain ⟨⟨δ4,h4⟩,e4,e3⟩:=bind_some e3;obtain ⟨⟨f5,h5⟩,e5,e3⟩:=bind_some e3;refine wpAny_passesOwn hp (thn (T.item hd R3 l3 f3 t3 q co) fun r s4 ⟨u,hr,q4⟩=>?_);subst hr;refine wpAny_passesOwn hp (thn q4 fun _ s5 ⟨M5,l5,R5,r5,t5,fr5⟩=>?_);have F5:=F3.go l5;refine wpAny_passesOwn hp (thn (hg (R5.pin fr5) (F5.pin fr5) (show RepW X.S M5 (.d x) u from r5) e4) fun _ s6 ⟨κ6,M6,o6,l6,R6,F6⟩=>?_);refine wpAny_passesOwn hp (thn (hb R6 F6 e5) fun f s7 ⟨κ7,M7,o7,l7,R7,q7⟩=>?_);obtain ⟨u1,u2,u3,u4,u5⟩:=aG4 F5 fr5 (T.obj _ _ t5) (o6.trans o7) R7;have l37:=l5.trans (l6.trans l7);have again:∀ {δ'},Fra X κ7 M7 δ'->aW g tb c all (all.drop (i+1)) δ' h5=some (fl,h')->∃ m,m < all.length - i/\I m s7:=fun F7 e7 =>
   ⟨all.length - (i+1),by omega,by rw [hI];exact ⟨i+1,_,M7,_,h5,rfl,hlt,o3.trans u1,l3.trans l37,u2,u5 _ F7,T.keep _ _ _ t5 u4,u3,e7⟩⟩
  cases f5 with
  | nx δ5=>cases f<;>first | exact q7.elim | exact again q7 e3
  | ct δ5=>cases f<;>first | exact q7.elim | exact again q7 e3
  | bk δ5=>cases e3;cases f<;>first | exact q7.elim | exact ⟨_,M7,o3.trans u1,l2.trans (l3.trans l37),u2,u5 _ q7⟩
  | rt w=>cases e3;cases f<;>first | exact q7.elim | exact ⟨_,M7,o3.trans u1,l2.trans (l3.trans l37),u2,q7⟩

def bF4 (G:Good X st d) {i:Nat} (hi:slot st x=some i) (hl:(oS st.S x&&(st.top||dJ st.S x))=true):SG X (.Name x pos) fun w δ h=>some (δ.set i (some w),h):=by
 intro κ M δ h s w u δ' h' R F r e;cases e;obtain ⟨h1,h2⟩:=uY G hl;exact wpAny_assign_Name (xD F R (jO G hi) h1 h2 r fun s' κ' o R' F' _=>⟨κ',M,o,.refl,R',F'⟩)
def xG (e:Expr) (hs:aH e=true) (es:List Expr):(assignEach (e::es) X.env).map (·.2)=assign e X.env::(assignEach es X.env).map (·.2)/\(assignEach (e::es) X.env).length=(assignEach es X.env).length+1/\((assignEach es X.env).findIdx? (·.1)=none->(assignEach (e::es) X.env).findIdx? (·.1)=none):=by
 have t:assignEach (e::es) X.env=(false,assign e X.env)::assignEach es X.env:=by cases e<;>first | rfl | cases hs
 rw [t];refine ⟨rfl,rfl,fun z=>?_⟩;rw [List.findIdx?_cons,z];rfl
theorem xH:∀ (es:List Expr),es.all aH=true->(assignEach es X.env).length=es.length/\(assignEach es X.env).findIdx? (·.1)=none
 | [],_=>⟨rfl,rfl⟩
 | e::es,h=>by
  rw [List.all_cons,Bool.and_eq_true] at h;obtain ⟨h1,h2⟩:=xH es h.2;obtain ⟨_,h4,h5⟩:=xG (X:=X) e h.1 es;exact ⟨by rw [h4,h1];rfl,h5 h2⟩
theorem aG5 (S:Snd v) (G:Good X st d):∀ (es:List Expr),es.all aH=true->∀ {κ M δ h s xs us δ' h'},Mem X.S κ M h s->Fra X κ M δ->Reps' X.S M xs us->kU (lW v st es) xs δ h=some (δ',h') ->
  es.length=xs.length/\Wp X.S X.A (assignInOrder ((assignEach es X.env).map (·.2)) us) (fun _ s'=>∃ κ' M',Own X κ κ'/\Le M M'/\Mem X.S κ' M' h' s'/\Fra X κ' M' δ') NE s
 | [],_,κ,M,δ,h,s,xs,us,δ',h',R,F,r,e=>by
  cases xs with
  | nil=>cases e;cases r;exact ⟨rfl,assignInOrder_nil ⟨κ,M,.refl,.refl,R,F⟩⟩
  | cons _ _=>cases e
 | t::es,ha,κ,M,δ,h,s,xs,us,δ',h',R,F,r,e=>by
  rw [List.all_cons,Bool.and_eq_true] at ha;cases xs with
  | nil=>cases e
  | cons x xs =>
   cases r with
   | @cons _ u _ us r1 r2 =>
    obtain ⟨⟨δ1,h1⟩,e1,e⟩:=bind_some (show (v.G st t (.d x) δ h).bind (fun p=>kU (lW v st es) xs p.1 p.2)=some (δ',h') from e);have len:es.length=xs.length:=by
     have go:∀ (es:List Expr) (xs:List PyData) δ h r,kU (lW v st es) xs δ h=some r->es.length=xs.length:=by
      intro es;induction es with
      | nil=>intro xs δ h r e;cases xs with | nil=>rfl | cons _ _=>cases e
      | cons t es ih =>
       intro xs δ h r e;cases xs with
       | nil=>cases e
       | cons x xs =>
        obtain ⟨p,_,e⟩:=bind_some (show (v.G st t (.d x) δ h).bind (fun p=>kU (lW v st es) xs p.1 p.2)=some r from e);rw [List.length_cons,List.length_cons,ih _ _ _ _ e]
     exact go _ _ _ _ _ e
    refine ⟨by rw [List.length_cons,List.length_cons,len],?_⟩;rw [(xG (X:=X) t ha.1 es).1];refine assignInOrder_cons (thn (S.G G t R F (show RepW X.S M (.d x) u from r1) e1) fun _ s1 ⟨κ1,M1,o1,l1,R1,F1⟩=>?_);exact thn (aG5 S G es ha.2 R1 F1 (Reps'.go l1 r2) e).2 fun _ s2 ⟨κ2,M2,o2,l2,q⟩=>⟨κ2,M2,o1.trans o2,l1.trans l2,q⟩
def bU2 (S:Snd v) (G:Good X st d) {es:List Expr} {k} (ha:es.all aH=true):SG X (.Tuple es k pos) (bK (lW v st es)):=by
 intro κ M δ h s w u δ' h' R F r e;unfold bK at e;split at e
 ·obtain ⟨a,us,n,rfl,z,hz,rr⟩:=gX (h:=h) R r rfl;obtain ⟨h1,h2⟩:=xH (X:=X) es ha;obtain ⟨hl,_⟩:=aG5 S G es ha R F rr e;refine assign_Tuple_tuple G.rm.hd (fS (R.z _ _ z)) (by rw [h1,hl,rr.length];simp) h2 fun h2 hx=>?_;exact (aG5 S G es ha (R.kept (t:=s.toks) fun b o e=>hx b o (Nat.ne_of_lt (Heap.lt_size e)) e) F (by simpa using rr) e).2
 ·cases e
def vD (its:List Value) (n j:Nat) (u:Value):Obj.mapSeq (·.setIfInBounds j u) (cM its n)=cM (its.set j u) n:=by simp [Obj.mapSeq]
def Mem.upd {S:Sx} {i:Nat} {p:Addr×Addr} {us us':List Value} {n n' t:Nat} {xs:List PyData} {f:Obj->Obj} (R:Mem S κ M h s) (ei:M.m[i]?=some p) (hl:∃ ys,h[i]?=some (.l ys)) (ho:s.heap.get? p.1=some (cM us n)) (hf:f (cM us n)=cM us' n') (r:Reps' S M xs us') (z:us'.length<=sizeLine) :
  Mem S κ M (h.set i (.l xs)) { s with heap:=s.heap.update p.1 f,toks:=t }:=by
 have e:(s.heap.update p.1 f).get? p.1=some (cM us' n'):=by rw [Heap.get?_update_self f ho (by rw [hf]<;>rfl),hf]
 obtain ⟨_,_,o2,ho2⟩:=R.off p (List.mem_of_getElem? ei) p.2 (.inr rfl);refine R.wr ei (fun b o n1 _ q=>(Heap.get?_update_other _ _ (Ne.symm n1)).trans q) ⟨⟨_,e⟩,?_⟩ R.bare rfl ⟨us',n',e,z,r⟩
 by_cases hq:p.2=p.1
 ·exact ⟨_,by rw [hq];exact e⟩
 ·exact ⟨o2,(Heap.get?_update_other _ _ (Ne.symm hq)).trans ho2⟩
def nK {S:Sx} {Z:Zm} {k:Key} {y x:PyData} {u:Value} (ek:cC y=some k) (rx:Rep S Z x u) {kvs:List (PyData×PyData)} {vs:List (Key×Value)} (r:RepK S Z kvs vs):RepK S Z (mL kvs y x) (stored vs k u):=by
 unfold mL stored;have ea:(kvs.any fun p=>decide (cC p.1=cC y))=vs.any fun kv=>decide (kv.1=k):=by
  rw [ek];induction r with
  | nil=>rfl
  | cons h t ih=>rw [List.any_cons,List.any_cons,ih,h.1];simp
 rw [ea,ek];split
 ·rename_i hq;clear ea hq;induction r with
  | nil=>exact .nil
  | @cons p q ps qs h t ih =>
   rw [List.map_cons,List.map_cons];refine .cons ?_ ih
   by_cases e:q.1=k
   ·rw [if_pos (by rw [h.1,e]),if_pos e];exact ⟨h.1,rx⟩
   ·rw [if_neg (by rw [h.1];exact fun z=>e (Option.some.inj z)),if_neg e];exact h
 ·exact Paired.snoc r ⟨ek,rx⟩
def bF5 {S:Sx} {A:Around} {E:Value->Shared->Prop} {i j:Nat} {p:Addr×Addr} {xs:List PyData} {k:Int} {t:Tok} {x:PyData} {u:Value} {Q:Unit->Shared->Prop} (R:Mem S κ M h s) (ei:M.m[i]?=some p) (eh:h[i]?=some (.l xs)) (ej:ixN xs.length k=some j) (rx:Rep S M.Z x u)
  (q:∀ s',Mem S κ M (h.set i (.l (xs.set j x))) s'->Q () s'):Wp S A (setItem (.ref p.1) (.int k t) u) Q E s:=by
 obtain ⟨us,n,ho,hz,rr⟩:=R.cel i p _ ei eh;have hl:=rr.length;obtain ⟨h1,h2,h3,h4⟩:=rA ej;have hn:=rC;have R':=R.upd (t:=s.toks) ei ⟨_,eh⟩ ho (vD us n j u) (bQ7 rx j rr) (by rw [List.length_set];exact hz)
 by_cases h0:0<=k
 ·have hk:k.toNat=j:=by rw [seqIndex_of h0 h4] at h1;exact Option.some.inj h1
  exact PySem.W.ki_setAt ho h0 (by omega) (by rw [List.size_toArray,<- hl];exact h4) (by rw [hk];exact q _ R')
 ·have hk:(k+(us.toArray.size:Int)).toNat=j:=by rw [seqIndex_neg (by omega) h3] at h1;rw [List.size_toArray,<- hl];exact Option.some.inj h1
  exact PySem.W.ki_setBack ho (by omega) (by rw [List.size_toArray,<- hl];exact h3) (by omega) (by rw [hk];exact q _ R')
def bF6 {S:Sx} {A:Around} {E:Value->Shared->Prop} {i:Nat} {p:Addr×Addr} {kvs:List (PyData×PyData)} {y x:PyData} {k:Key} {u uk:Value} {Q:Unit->Shared->Prop} (R:Mem S κ M h s) (ei:M.m[i]?=some p) (eh:h[i]?=some (.k kvs)) (ek:cC y=some k) (hlt:kvs.length < sizeLine) (ry:Rep S M.Z y uk) (rx:Rep S M.Z x u)
  (q:∀ s',Mem S κ M (h.set i (.k (mL kvs y x))) s'->Q () s'):Wp S A (setItem (.ref p.1) uk u) Q E s:=by
 obtain ⟨vs,dd,rk,hd,hz⟩:=R.cel i p _ ei eh;have hl:=rk.length;refine wpAny_setItem_pairs (hsz:=hz) (uX ek ry) dd fun h' dd' hs=>q _ ?_;obtain ⟨o',es',ep',ho',hx'⟩:=id dd';obtain ⟨_,_,o2,ho2⟩:=R.off p (List.mem_of_getElem? ei) p.2 (.inr rfl);refine R.wr ei (fun b o n1 _ q=>(hs.2 b n1).trans q) ⟨⟨_,ho'⟩,?_⟩ R.bare rfl ⟨_,dd',nK ek rx rk,hd,?_⟩
 ·by_cases hq:p.2=p.1
  ·exact ⟨_,by rw [hq];exact ho'⟩
  ·exact ⟨o2,(hs.2 _ hq).trans ho2⟩
 ·have:(mL kvs y x).length<=kvs.length+1:=by
   unfold mL;split
   ·rw [List.length_map];omega
   ·rw [List.length_append];simp
  rw [<- (nK ek rx rk).length];omega
def nM {S:Sx} {Z:Zm} {y x:PyData} {a:Addr} {u:Value} (hk:hkB 4 y=true) (ry:Rep S Z y (.ref a)) (rx:Rep S Z x u) {kvs:List (PyData×PyData)} {xs:List (HK×Addr×Value)} (r:iX S Z kvs xs):iX S Z (putN kvs y x) (storedH xs ⟨y,hk⟩ a u):=by
 unfold putN storedH;rw [aF0 hk r];cases q:(atKey xs ⟨y,hk⟩).isSome with
 | false=>exact Paired.snoc r ⟨rfl,ry,rx⟩
 | true =>
  rw [if_pos rfl,if_pos rfl];clear q;unfold iX at r ⊢;induction r with
  | nil=>exact .nil
  | @cons p z _ _ b _ ih =>
   refine .cons ?_ ih;have e:(peq p.1 y=true) ↔ z.1=⟨y,hk⟩:=by
    rw [b.1,(hV z.1.2 hk).2];exact (Subtype.ext_iff (a1:=z.1) (a2:=⟨y,hk⟩)).symm
   unfold putAt;dsimp only
   by_cases c:z.1=⟨y,hk⟩
   ·rw [if_pos (e.mpr c),if_pos c];exact ⟨b.1,b.2.1,rx⟩
   ·rw [if_neg fun z'=>c (e.mp z'),if_neg c];exact b
def aS9 {S:Sx} {A:Around} {E:Value->Shared->Prop} {d i:Nat} {w:W} {p:Addr×Addr} {kvs:List (PyData×PyData)} {y x:PyData} {u uk:Value} {Q:Unit->Shared->Prop} (hr:Room d A) (R:Mem S κ M h s) (ei:M.m[i]?=some p) (eh:h[i]?=some (.n kvs)) (hy:(fY y&&hkB 4 y)=true) (hlt:kvs.length < sizeLine) (ry:Rep S M.Z y uk) (rx:Rep S M.Z x u)
  (q:∀ s',Mem S κ M (h.set i (.n (putN kvs y x))) s'->Q () s'):Wp S A (setItem (.ref p.1) uk u) Q E s:=by
 obtain ⟨j,p',xs,ej,ep,ei2,e3,dd,rr,hs,hz⟩:=aE9 (x:=.c i) (u:=.ref p.1) R ⟨p,ei,rfl⟩ (by unfold tC;dsimp only;rw [eh]);cases ej;rw [ei] at ep;cases ep;obtain ⟨hk,a,rfl,ik,ra⟩:=qZ (x:=.d y) (h:=h) R ry rfl hy;have hl:=rr.length;refine wpAny_setItem_heap hr.nd ik dd (fun h' dd' sb=>q _ ?_) (hsz:=hz);obtain ⟨o',es',ep',ho',hx1,hx2,hx3,_,hx5⟩:=dd';obtain ⟨_,_,o2,ho2⟩:=R.off p (List.mem_of_getElem? ei) p.2 (.inr rfl);have rp:=nM hk ra rx rr;refine R.wr ei (fun b o n1 _ q=>(sb.2 b n1).trans q) ⟨⟨_,ho'⟩,?_⟩ R.bare rfl ⟨_,⟨o',es',ep',ho',hx1,hx2,hx3,hx5⟩,rp,hs,?_⟩
 ·by_cases hq:p.2=p.1
  ·exact ⟨_,by rw [hq];exact ho'⟩
  ·exact ⟨o2,(sb.2 _ hq).trans ho2⟩
 ·have:(putN kvs y x).length<=kvs.length+1:=by
   unfold putN;split
   ·rw [List.length_map];omega
   ·rw [List.length_append];simp
  rw [<- rp.length];omega
def bU3 (S:Snd v) (G:Good X st d) (ha:∀ v,assign (.Subscript a b pos) X.env v=(do
   let ov <- holding [v] (eval a X.env)
   let iv <- holding [v,ov] (eval b X.env)
   standAt pos
   holding [v,ov,iv] (setItem ov iv v)
   release [v,ov,iv] [])):SG X (.Subscript a b pos) fun w δ h=>(v.E st a δ h).bind fun p=>(v.E st b δ p.2).bind fun q=>(match p.1,q.1,w with
  | .c j,.d y,.d x=>uV j y x δ q.2
  | _,_,_=>none):=by
 intro κ M δ h s w u δ' h' R F r e;obtain ⟨⟨x1,h1⟩,e1,e⟩:=bind_some e;obtain ⟨⟨x2,h2⟩,e2,e⟩:=bind_some e;rw [ha];refine wpAny_bind (wpAny_holding (thn (S.E G a R F e1) fun ov s1 ⟨M1,l1,R1,r1⟩=>?_));refine wpAny_bind (wpAny_holding (thn (S.E G b R1 (F.go l1) e2) fun iv s2 ⟨M2,l2,R2,r2⟩=>?_));refine wpAny_bind (wpAny_standAt (wpAny_bind (wpAny_holding ?_)));have l:=l1.trans l2;have rw':=r.go l;have fin:∀ {hh:aA} {s3:Shared},Mem X.S κ M2 hh s3->Wp X.S X.A (release [u,ov,iv] []) (fun _ s'=>∃ κ' M',Own X κ κ'/\Le M M'/\Mem X.S κ' M' hh s'/\Fra X κ' M' δ) NE s3:=fun R3=>wpAny_release ⟨κ,M2,.refl,l,R3,F.go l⟩;rcases x1 with _ | j
 ·cases e
 rcases x2 with y | _
 case c=>cases e
 rcases w with x | _
 case c=>cases e
 obtain ⟨p,ep,rfl⟩:=r1.go l2;dsimp only at e;unfold uV at e;cases ej:h2[j]? with
 | none=>rw [ej] at e;cases e
 | some c =>
  rw [ej] at e;cases c with
  | l xs =>
   cases y<;>first | cases e;done | skip
   rename_i k;obtain ⟨n,en,e⟩:=map_some e;cases e;obtain ⟨t,rfl⟩:=wi.mp r2;exact bF5 R2 ep ej en rw' fun s3 R3=>fin R3
  | k kvs =>
   obtain ⟨⟨hk,hlt⟩,e⟩:=aF e;cases e;obtain ⟨k,ek⟩:=Option.isSome_iff_exists.mp hk;exact bF6 R2 ep ej ek hlt r2 rw' fun s3 R3=>fin R3
  | n kvs =>
   obtain ⟨⟨hk,hlt⟩,e⟩:=aF e;cases e;exact aS9 (w:=.d .none) G.rm R2 ep ej hk hlt r2 rw' fun s3 R3=>fin R3
  | _=>cases e
end
end DL

namespace DL
open PySem PySem.Spec PyProof.Rows L2 CI
structure CompSc (N N':List Str) (ixs:List (Option Nat)) (S sc:Scope):Prop where
 kind:sc.kind=.function
 nocell:∀ y∈sc.names,y.2≠.cell
 loc:∀ y∈sc.names,y.2=.local->sc.names.lookup y.1=some .local
 free:∀ y∈sc.names,y.2=.free->S.names.lookup y.1=some .cell\/S.names.lookup y.1=some .free
 nd:N'.Nodup
 len:ixs.length=N'.length
 cap:((ixs.zip N').all fun p=>match p.1 with
  | none=>true
  | some i=>decide (N[i]?=some p.2)&&decide (sc.names.lookup p.2=some NameKind.free))=true


def CompSc.at {N N':List Str} {ixs:List (Option Nat)} {S sc:Scope} (h:CompSc N N' ixs S sc) {j i:Nat} {x:Str} (e1:N'[j]?=some x) (e2:ixs[j]?=some (some i)) :
  N[i]?=some x/\sc.names.lookup x=some .free:=by
 have hm:(some i,x)∈ixs.zip N':=by
  refine List.mem_of_getElem? (i:=j) ?_;rw [List.getElem?_zip_eq_some];exact ⟨e2,e1⟩
 have q:=List.all_eq_true.mp h.cap _ hm;simp only [Bool.and_eq_true,decide_eq_true_eq] at q;exact q

theorem iE {env:Env}:∀ (names:List (Str×NameKind)) (acc:List (Str×Addr)),(∀ y∈names,y.2=.free->∃ c,env.cells.lookup y.1=some c) ->
  (∀ x c,acc.lookup x=some c->env.cells.lookup x=some c) ->
  ∃ cl,(∀ x c,cl.lookup x=some c->env.cells.lookup x=some c)/\(∀ y∈names,y.2=.free->∃ c,cl.lookup y.1=some c)/\(∀ x c,acc.lookup x=some c->∃ d,cl.lookup x=some d) /\
   (forIn names acc fun (x:Str×NameKind) (r:List (Str×Addr))=>(if (x.2==NameKind.free)=true then (do let a <- cellOf env x.1;pure (ForInStep.yield ((x.1,a)::r))) else pure (ForInStep.yield r):Sem (ForInStep (List (Str×Addr)))))=(pure cl:Sem (List (Str×Addr)))
 | [],acc,_,ha=>⟨acc,ha,fun _ h=>(nomatch h),fun x c h=>⟨c,h⟩,rfl⟩
 | (n,k)::r,acc,h,ha=>by
  by_cases hk:k=.free
  ·subst hk;obtain ⟨c,hc⟩:=h (n,.free) List.mem_cons_self rfl;obtain ⟨cl,h1,h2,h3,h4⟩:=iE r ((n,c)::acc) (fun y hy=>h y (List.mem_cons_of_mem _ hy)) (fun x d hd=>by
    rw [List.lookup_cons] at hd;cases q:x==n with
    | true =>
     rw [q] at hd;have e1:x=n:=by simpa using q
     have e2:c=d:=Option.some.inj hd;rw [e1,<- e2];exact hc
    | false=>rw [q] at hd;exact ha x d hd)
   refine ⟨cl,h1,fun y hy hf=>?_,fun x d hd=>?_,?_⟩
   ·rcases List.mem_cons.mp hy with e | hy
    ·subst e;exact h3 n c (by simp [List.lookup_cons])
    ·exact h2 y hy hf
   ·cases q:x==n with
    | true =>
     have e1:x=n:=by simpa using q
     subst e1;exact h3 x c (by simp [List.lookup_cons])
    | false=>exact h3 x d (by rw [List.lookup_cons,q];exact hd)
   ·rw [<- h4,List.forIn_cons];have e:cellOf env n=pure c:=by unfold cellOf;rw [hc]
    show ((if (NameKind.free==NameKind.free)=true then (do let a <- cellOf env n;pure (ForInStep.yield ((n,a)::acc))) else pure (ForInStep.yield acc):Sem _) >>= _)=_;rw [if_pos (by decide),e];rfl
  ·obtain ⟨cl,h1,h2,h3,h4⟩:=iE r acc (fun y hy=>h y (List.mem_cons_of_mem _ hy)) ha;refine ⟨cl,h1,fun y hy hf=>?_,h3,?_⟩
   ·rcases List.mem_cons.mp hy with e | hy
    ·subst e;exact absurd hf hk
    ·exact h2 y hy hf
   ·rw [<- h4,List.forIn_cons];have e:(k==NameKind.free)=false:=by simpa using hk
    show ((if (k==NameKind.free)=true then (do let a <- cellOf env n;pure (ForInStep.yield ((n,a)::acc))) else pure (ForInStep.yield acc):Sem _) >>= _)=_;rw [if_neg (by rw [e];exact Bool.false_ne_true)];rfl
def nN {sc:Scope} {env:Env} (h:∀ y∈sc.names,y.2=.free->∃ c,env.cells.lookup y.1=some c) :
  ∃ cl,closureFor sc env=pure cl/\(∀ x c,cl.lookup x=some c->env.cells.lookup x=some c)/\(∀ y∈sc.names,y.2=.free->∃ c,cl.lookup y.1=some c):=by
 obtain ⟨cl,h1,h2,_,h4⟩:=iE (env:=env) sc.names [] h (fun x c e=>by simp at e);refine ⟨cl,?_,h1,h2⟩;unfold closureFor;exact (congrArg (fun m:Sem (List (Str×Addr))=>m >>= fun r=>pure r) h4).trans rfl

theorem fG {env:Env} {x:Str}:∀ {names:List (Str×NameKind)} {k:NameKind},names.lookup x=some k ->
  (names.map fun (n,k)=>if (k==NameKind.free&&env.scope.kind==.function&&env.kindOf n==some .cell) then (n,NameKind.cell) else (n,k)).lookup x
   = some (if (k==NameKind.free&&env.scope.kind==.function&&env.kindOf x==some .cell) then NameKind.cell else k)
 | [],_,h=>by simp at h
 | (n,k0)::r,k,h=>by
  rw [List.lookup_cons] at h;rw [List.map_cons];cases q:x==n with
  | true =>
   have e1:x=n:=by simpa using q
   subst e1;rw [q] at h;have e2:k0=k:=Option.some.inj h;subst e2;dsimp only
   by_cases hc:(k0==NameKind.free&&env.scope.kind==.function&&env.kindOf x==some .cell)=true
   ·rw [if_pos hc,if_pos hc,List.lookup_cons,q]
   ·rw [if_neg hc,if_neg hc,List.lookup_cons,q]
  | false =>
   rw [q] at h;have ih:=fG (env:=env) h;dsimp only
   by_cases hc:(k0==NameKind.free&&env.scope.kind==.function&&env.kindOf n==some .cell)=true
   ·rw [if_pos hc,List.lookup_cons,q];exact ih
   ·rw [if_neg hc,List.lookup_cons,q];exact ih
theorem jP {env:Env} {x:Str}:∀ {names:List (Str×NameKind)},names.lookup x=none ->
  (names.map fun (n,k)=>if (k==NameKind.free&&env.scope.kind==.function&&env.kindOf n==some .cell) then (n,NameKind.cell) else (n,k)).lookup x=none
 | [],_=>rfl
 | (n,k0)::r,h=>by
  rw [List.lookup_cons] at h;rw [List.map_cons];cases q:x==n with
  | true=>rw [q] at h;cases h
  | false =>
   rw [q] at h;have ih:=jP (env:=env) h;dsimp only
   by_cases hc:(k0==NameKind.free&&env.scope.kind==.function&&env.kindOf n==some .cell)=true
   ·rw [if_pos hc,List.lookup_cons,q];exact ih
   ·rw [if_neg hc,List.lookup_cons,q];exact ih

def zN {prog:Program} {w:World} {A:Around} {R:Result->Shared->Prop} {s:Shared} {elt target iter:Expr} {ifs:List Expr} {scope:Scope} {pos:Pos} {it acc:Value} {env:Env} (I:Nat->Shared->Prop)
  (turn:∀ n s,I n s->wpAny (model prog w) A (pyNext it) (fun r s₁=>match r with
   | none=>R (.ok .next) s₁
   | some v=>wpAny (model prog w) A (letOwnedTupleGo target it v) (fun _ t₁=>wpAny (model prog w) A (assign target env v) (fun _ s₂ =>
     wpAny (model prog w) A (forIn ifs true fun c r=>if r=true then do let ok <- isTrue c env (eval c env);pure (ForInStep.yield ok) else pure (ForInStep.yield r)) (fun ok s₃ =>
      if ok=true then wpAny (model prog w) A (eval elt env) (fun x s₄ =>
       wpAny (model prog w) A (call (.builtin "list.append") [acc,x]) (fun _ s₅=>∃ m,m < n/\I m s₅) (fun _ _=>False) s₄) (fun _ _=>False) s₃
      else ∃ m,m < n/\I m s₃) (fun _ _=>False) s₂) (fun _ _=>False) t₁) (fun _ _=>False) s₁) (fun _ _=>False) s)
  (n:Nat) (h:I n s):codeAny (model prog w) A (.compLoop (.ListComp elt [⟨target,iter,ifs,0⟩] scope pos) 0 it acc env) R s:=by
 refine codeAny_loop rfl I (fun n s hI=>?_) n h;show wpAny _ A ((compTurn (.ListComp elt [⟨target,iter,ifs,0⟩] scope pos) 0 it acc env).onRaise (fun x=>do noteFrame x env;theTreesLotGoes x)) _ _ s;refine wpAny_noted (wpAny_noRaise ?_);rw [compTurn_list];refine wpAny_bind (wpAny_standAt (wpAny_bind (thn (turn n s hI) fun r s₁ h₁=>?_)));cases r with
 | none=>exact wpAny_pure h₁
 | some v =>
  refine wpAny_bind (thn h₁ fun _ t₁ h₂=>wpAny_bind (thn h₂ fun _ s₂ h₃=>wpAny_bind (thn h₃ fun ok s₃ h₄=>?_)));cases ok with
  | false=>exact wpAny_pure ⟨rfl,h₄⟩
  | true=>exact wpAny_bind (wpAny_bind (thn h₄ fun x s₄ h₅=>wpAny_bind (thn h₅ fun _ s₅ h₆=>wpAny_pure (wpAny_pure ⟨rfl,h₆⟩))))

def aT1 {ixs:List (Option Nat)} {δ:DSt} {j:Nat} {w:W} (e:(aY ixs δ)[j]?=some (some w)):∃ i,ixs[j]?=some (some i)/\δ[i]?=some (some w):=by
 unfold aY at e;rw [List.getElem?_map] at e;cases h:ixs[j]? with
 | none=>rw [h] at e;cases e
 | some o =>
  rw [h] at e;cases o with
  | none=>cases e
  | some i =>
   refine ⟨i,rfl,?_⟩;have e':(δ[i]?).bind id=some w:=Option.some.inj e;cases q:δ[i]? with
   | none=>rw [q] at e';cases e'
   | some w=>rw [q] at e';exact congrArg some e'
def Pl (S:Sx) (κ:Kp) (M:Mp) (h:aA) (ws:List W) (u:Value) (s:Shared):Prop :=
 ∃ M',Le M M'/\Mem S κ M' h s/\∃ a us n,u=.ref a/\s.heap.get? a=some (cM us n)/\bV κ M' a/\us.length<=sizeLine/\RepWs S M' ws us
def fU (g:XG) (tt:XR Bool) (te:XR W) (c:Cw) (all:List PyData):List PyData->DSt->aA->List W->Option (List W×aA)
 | [],_,h,ac=>if condB c all h=true then some (ac,h) else none
 | x::r,δ,h,ac=>if condB c all h=true then
   (g (.d x) δ h).bind fun p=>(tt p.1 p.2).bind fun q=>if q.1=true then
     (te p.1 q.2).bind fun y=>fU g tt te c all r p.1 y.2 (ac++[y.1])
    else fU g tt te c all r p.1 q.2 ac
  else none
theorem jQ {g:XG} {tt:XR Bool} {te:XR W} {c:Cw} {all:List PyData}:∀ {r:List PyData} {δ:DSt} {h:aA} {ac xs:List PyData} {h':aA},aQ g tt te c all r δ h ac=some (xs,h')->fU g tt te c all r δ h (ac.map .d)=some (xs.map .d,h')
 | [],δ,h,ac,xs,h',e=>by
  unfold aQ at e;obtain ⟨co,e⟩:=aF e;cases e;unfold fU;rw [if_pos co]
 | x::r,δ,h,ac,xs,h',e=>by
  unfold aQ at e;obtain ⟨co,e⟩:=aF e;obtain ⟨p,e1,e⟩:=bind_some e;obtain ⟨q,e2,e⟩:=bind_some e;unfold fU;rw [if_pos co,e1];show (tt p.1 p.2).bind _=_;rw [e2];show (if q.1=true then _ else _)=_
  by_cases hq:q.1=true
  ·rw [if_pos hq] at e ⊢;obtain ⟨⟨y,hy⟩,e3,e⟩:=bind_some e;rw [e3];cases y with
   | c i=>cases e
   | d z =>
    have:=jQ (show aQ g tt te c all r p.1 hy (ac++[z])=_ from e);rw [List.map_append] at this;exact this
  ·rw [if_neg hq] at e ⊢;exact jQ e
theorem kY {g:XG} {tt:XR Bool} {te:XR W} {c:Cw} {all:List PyData}:∀ {r:List PyData} {δ:DSt} {h:aA} {ac xs:List Nat} {h':aA},dK g tt te c all r δ h ac=some (xs,h')->fU g tt te c all r δ h (ac.map .c)=some (xs.map .c,h')
 | [],δ,h,ac,xs,h',e=>by
  unfold dK at e;obtain ⟨co,e⟩:=aF e;cases e;unfold fU;rw [if_pos co]
 | x::r,δ,h,ac,xs,h',e=>by
  unfold dK at e;obtain ⟨co,e⟩:=aF e;obtain ⟨p,e1,e⟩:=bind_some e;obtain ⟨q,e2,e⟩:=bind_some e;unfold fU;rw [if_pos co,e1];show (tt p.1 p.2).bind _=_;rw [e2];show (if q.1=true then _ else _)=_
  by_cases hq:q.1=true
  ·rw [if_pos hq] at e ⊢;obtain ⟨⟨y,hy⟩,e3,e⟩:=bind_some e;rw [e3];cases y with
   | d i=>cases e
   | c z =>
    have:=kY (show dK g tt te c all r p.1 hy (ac++[z])=_ from e);rw [List.map_append] at this;exact this
  ·rw [if_neg hq] at e ⊢;exact kY e
noncomputable def blk (X:Cx) (N':List Str) (sc:Scope) (cl:List (Str×Addr)) (C:Addr):Cx:={ X with N:=N',env:=compEnvC sc cl C X.env,fn:=false }
def SIf (X:Cx) (ifs:List Expr) (f:XR Bool):Prop:=∀ ⦃κ M δ h s w h'⦄,Mem X.S κ M h s->Fra X κ M δ->f δ h=some (w,h')->Wp X.S X.A (forIn ifs true fun c r=>if r=true then do let ok <- isTrue c X.env (eval c X.env);pure (ForInStep.yield ok) else pure (ForInStep.yield r)) (Pt X.S κ M h' w) NE s
section
variable {X:Cx} {κ:Kp} {M:Mp} {δ:DSt} {h h':aA} {s:Shared} {N':List Str} {ixs:List (Option Nat)} {sc:Scope} {cl:List (Str×Addr)} {C:Addr} {tg iter elt:Expr} {ifs:List Expr} {pos:Pos} {g:XG} {tt:XR Bool} {te:XR W} {f:XR (List PyData×Cw)}
def zO {κ':Kp} {o:Obj} (F:Fra X κ M δ) (SC:CompSc X.N N' ixs X.env.scope sc) (hcl1:∀ x c,cl.lookup x=some c->X.env.cells.lookup x=some c) (hcl2:∀ y∈sc.names,y.2=.free->∃ c,cl.lookup y.1=some c)
  (k:∀ a,κ a≠none->κ' a=κ a) (hC:κ' C=some (false,o)) (ho:aZ9 o fun _=>none) (hb:X.S.base.objs.size<=C):Fra (blk X N' sc cl C) κ' M (aY ixs δ):=by
 have kfree:∀ {x:Str} {k:NameKind},(relabel sc X.env).names.lookup x=some k->k=.cell\/k=.free->(x,NameKind.free)∈sc.names:=fun {x k} e hk=>by
  cases q:sc.names.lookup x with
  | none =>
   have z:=jP (env:=X.env) q;have z':(relabel sc X.env).names.lookup x=none:=z;rw [e] at z';cases z'
  | some k0 =>
   have z:=fG (env:=X.env) q;have z':(relabel sc X.env).names.lookup x=_:=z;rw [e] at z';have m:=PySem.mem_of_lookup q;have hz:=Option.some.inj z'
   by_cases hc:(k0==NameKind.free&&X.env.scope.kind==.function&&X.env.kindOf x==some .cell)=true
   ·have h0:k0=.free:=by
     simp only [Bool.and_eq_true,beq_iff_eq] at hc;exact hc.1.1
    rw [<- h0];exact m
   ·rw [if_neg hc] at hz;subst hz;rcases hk with hk | hk
    ·exact absurd hk (SC.nocell _ m)
    ·rw [<- hk];exact m
 refine ⟨⟨F.ok.mod,SC.kind,F.ok.glob,F.ok.blt,fun x y c e1 e2=>F.ok.inj x y c (hcl1 x c e1) (hcl1 y c e2),fun x hx=>?_,hb,SC.nd⟩,?_,⟨o,_,hC,ho,fun j x w e1 e2 e3=>?_⟩,fun x c e=>?_,F.frs.kp fun a z=>k a (F.mine (.inr (.inr z)))⟩
 ·rcases hx with hx | hx
  ·exact hcl2 _ (kfree hx (.inl rfl)) rfl
  ·exact hcl2 _ (kfree hx (.inr rfl)) rfl
 ·show (aY ixs δ).length=N'.length;unfold aY;rw [List.length_map];exact SC.len
 ·obtain ⟨i,ei,ev⟩:=aT1 e2;obtain ⟨eN,ef⟩:=SC.at e1 ei;have hm:=PySem.mem_of_lookup ef;have hvis:X.env.scope.names.lookup x=some .cell\/X.env.scope.names.lookup x=some .free:=SC.free _ hm rfl;obtain ⟨_,m,_,_,hl⟩:=F.loc;obtain ⟨u,r,l⟩:=hl i x w eN ev (.inr hvis);refine ⟨u,r,?_⟩;rcases l with ⟨hk,_⟩ | ⟨_,c,oc,ec,eo,ed⟩
  ·have hk':X.env.scope.names.lookup x=some .local:=hk;rcases hvis with z | z
   ·rw [hk'] at z;cases z
   ·rw [hk'] at z;cases z
  ·obtain ⟨c',ec'⟩:=hcl2 _ hm rfl;have e5:=hcl1 _ _ ec';rw [ec] at e5;have e6:c=c':=Option.some.inj e5;subst e6;refine .inr ⟨?_,c,oc,ec',by rw [k c (by rw [eo];exact fun z=>nomatch z)];exact eo,ed⟩;have z:=fG (env:=X.env) ef;have z':(relabel sc X.env).names.lookup x=_:=z
   by_cases hc:(NameKind.free==NameKind.free&&X.env.scope.kind==.function&&X.env.kindOf x==some .cell)=true
   ·rw [if_pos hc] at z';exact .inl z'
   ·rw [if_neg hc] at z';exact .inr z'
 ·obtain ⟨oc,v,e1,e2⟩:=F.cell x c (hcl1 x c e);exact ⟨oc,v,by rw [k c (by rw [e1];exact fun z=>nomatch z)];exact e1,e2⟩
def zP {S:Sx} {A:Around} {E:Value->Shared->Prop} {a:Addr} {us:List Value} {n:Nat} {u:Value} {Q:Value->Shared->Prop} (R:Mem S κ M h s) (ea:κ a=some (true,cM us n)) (hz:us.length < sizeLine)
  (q:∀ s' n',Mem S (κ.up a (true,cM (us++[u]) n')) M h s'->(∀ b o,b≠a->s.heap.get? b=some o->s'.heap.get? b=some o)->Q .none s'):Wp S A (call (.builtin "list.append") [.ref a,u]) Q E s:=by
 have e:=(R.k a _ _ ea).1 rfl;refine call_meets F.slot_list_append ⟨_,e,rfl⟩ F.entry_list_append (F.args_list_append_2 _ _) (PySem.list_append a us.toArray n u (by rw [List.size_toArray];omega)) ⟨e,?_⟩;have q2:=PySem.IsL.update e (·.push u);have ep:us.toArray.push u=(us++[u]).toArray:=by simp
 rw [ep] at q2;have k:∀ b o,b≠a->s.heap.get? b=some o->(s.heap.update a (Obj.mapSeq (·.push u))).get? b=some o:=fun b o hb e=>(Heap.get?_update_other s.heap _ (Ne.symm hb)).trans e;exact q _ _ (R.own ea k q2 R.bare rfl) k
def tN (hd:X.A.handled=none) (SC:CompSc X.N N' ixs X.env.scope sc) (hcl1:∀ x c,cl.lookup x=some c->X.env.cells.lookup x=some c) (hcl2:∀ y∈sc.names,y.2=.free->∃ c,cl.lookup y.1=some c)
  (hg:∀ cl C,SG (blk X N' sc cl C) tg g) (ht:∀ cl C,SIf (blk X N' sc cl C) ifs tt) (he:∀ cl C,SE (blk X N' sc cl C) elt te) {all:List PyData} {c:Cw} {it:Addr} {fp:List Addr} {tn:Nat->Heap->Prop} {ws:List W} {R':Value->Addr->Result->Shared->Prop}
  (F:Fra X κ M δ) (R:Mem X.S κ M h s) (T:Turn X.S tg all c M fp it tn) (t0:tn 0 s.heap) (f0:∀ b∈fp,bV κ M b) (hz:all.length<=sizeLine) (e:fU g tt te c all all (aY ixs δ) h []=some (ws,h'))
  (hR:∀ {s':Shared} {m:Str->Option Value} {M':Mp} {us:List Value} {n:Nat},Le M M'->Mem X.S κ M' h' s'->s'.heap.get? s.heap.objs.size=some (cM us n)->bV κ M' s.heap.objs.size->bV κ M' (s.heap.objs.size+1)->us.length<=sizeLine->RepWs X.S M' ws us->s'.heap.Ns (s.heap.objs.size+1) m->R' (.ref s.heap.objs.size) (s.heap.objs.size+1) (.ok .next) s') :
  Wp X.S X.A (newList []) (fun acc s₃=>Wp X.S X.A (newFunctionEnv sc X.env.globals cl [] X.env.qual none .none (some X.env)) (fun cenv s₄ =>
   codeAny (model X.S.P X.S.w) X.A (.compStart (.ListComp elt [⟨tg,iter,ifs,0⟩] sc pos) 0 (.ref it) acc { cenv with scope:=relabel sc X.env }) (R' acc cenv.locals) s₄) NE s₃) NE s:=by
 refine wpAny_newObj_type (wpAny_newFunctionEnv SC.nocell (by intro y hy;simp at hy) (fun h₁ hns₁ hsb₁=>?_) SC.kind);dsimp only at hns₁ hsb₁ ⊢;have eC:(s.heap.push { cls:=.type "list",dict:=none,data:=.seq ([]:List Value).toArray }).objs.size=s.heap.objs.size+1:=by rw [Heap.size_push]
 rw [eC] at hns₁ hsb₁ ⊢;obtain ⟨acc,ea⟩:∃ a,a=s.heap.objs.size:=⟨_,rfl⟩;rw [<- ea] at hns₁ hsb₁ hR ⊢;have nAC:acc≠acc+1:=Nat.ne_of_lt (Nat.lt_succ_self _);have old:∀ b o,s.heap.get? b=some o->h₁.get? b=some o:=fun b o e=>hsb₁.extBut b o (by rw [ea];exact Nat.ne_of_lt (Nat.lt_succ_of_lt (Heap.lt_size e))) (Heap.get?_push_of_some _ (Heap.get?_push_of_some _ e));have hacc:h₁.get? acc=some (cM [] 0):=by
  refine hsb₁.extBut _ _ nAC ?_;rw [ea];exact Heap.get?_push_of_some _ (Heap.get?_push_size _ rfl)
 obtain ⟨oC,es,ep,hoC,hd1,hk1,hm1⟩:=id hns₁;have fA:bV κ M acc:=ea ▸ R.size;have fC:bV κ M (acc+1):=R.new (Heap.get?_none_of_le (by rw [ea];exact Nat.le_succ _));have R1:Mem X.S κ M h { s with heap:=h₁,toks:=s.toks+([]:List (Str×Value)).length }:=R.kept old;have R2:=(R1.more (b:=true) ⟨fA.1,fA.2.2⟩ hacc).more (b:=false) ⟨fC.1,fC.2.2⟩ hoC;have hfl:∀ b∈fp,b≠acc/\b≠acc+1:=fun b hb=>by
  obtain ⟨o,q⟩:=T.obj _ _ t0 b hb;have:=Heap.lt_size q;rw [<- ea] at this;exact ⟨Nat.ne_of_lt this,Nat.ne_of_lt (Nat.lt_succ_of_lt this)⟩
 have F2:Fra (blk X N' sc cl (acc+1)) ((κ.up acc (true,cM [] 0)).up (acc+1) (false,oC)) M (aY ixs δ):=zO F SC hcl1 hcl2 (fun a ha=>by
  rw [dT fun z=>ha (by rw [z];exact fC.2.1),dT fun z=>ha (by rw [z];exact fA.2.1)]) nE ⟨es,ep,hd1,hk1,hm1⟩ (by rw [ea];exact Nat.le_succ_of_le (F.size R))
 have f2:∀ b∈fp,bV ((κ.up acc (true,cM [] 0)).up (acc+1) (false,oC)) M b:=fun b hb=>⟨(f0 b hb).1,by rw [dT (hfl b hb).2,dT (hfl b hb).1];exact (f0 b hb).2.1,(f0 b hb).2.2⟩;generalize hY:blk X N' sc cl (acc+1)=Y at F2;have hg':SG Y tg g:=by subst hY;exact hg _ _
 have ht':SIf Y ifs tt:=by subst hY;exact ht _ _
 have he':SE Y elt te:=by subst hY;exact he _ _
 have eS:Y.S=X.S:=by subst hY;rfl
 have eA:Y.A=X.A:=by subst hY;rfl
 have eL:Y.env.locals=acc+1:=by subst hY;rfl
 have eF:Y.fn=false:=by subst hY;rfl
 have loop:∀ s₃:Shared,s₃={ s with heap:=h₁,toks:=s.toks+([]:List (Str×Value)).length } ->
   codeAny (model X.S.P X.S.w) X.A (.compLoop (.ListComp elt [⟨tg,iter,ifs,0⟩] sc pos) 0 (.ref it) (.ref acc) Y.env) (R' (.ref acc) (acc+1)) s₃:=by
  rintro s₃ rfl;clear hY;obtain ⟨I,hI⟩:∃ I:Nat->Shared->Prop,I=fun n s'=>∃ i κ' M' δ' hh us m ac,n=all.length - i/\i<=all.length/\(κ' acc=some (true,cM us m)/\∀ a,a≠acc->a≠acc+1->κ' a=κ a)/\Le M M'/\Mem X.S κ' M' hh s'/\Fra Y κ' M' δ'/\tn i s'.heap/\(∀ b∈fp,bV κ' M' b)/\ac.length<=i/\RepWs X.S M' ac us/\fU g tt te c all (all.drop i) δ' hh ac=some (ws,h'):=⟨_,rfl⟩;refine zN I ?_ all.length (by rw [hI];exact ⟨0,_,M,_,h,[],0,[],rfl,Nat.zero_le _,⟨by rw [dT nAC];exact nE,fun a h1 h2=>by rw [dT h2,dT h1]⟩,.refl,R2,F2,T.keep _ _ _ t0 (fun b _ o e=>old b o e),f2,Nat.le_refl _,.nil,e⟩);intro n s3 hn;rw [hI] at hn;obtain ⟨i,κ3,M3,δ3,h3,us,m,ac,rfl,hle,⟨ka,ko⟩,l3,R3,F3,t3,f3,hac,rac,e3⟩:=hn;have hlen:=rac.length;have back:∀ {κ7 M7 h7 s7},(κ7 acc=some (true,cM us m)/\∀ a,a≠acc->a≠acc+1->κ7 a=κ a)->Mem X.S κ7 M7 h7 s7->Mem X.S κ M7 h7 s7:=fun k R7=>R7.less fun a x q=>by
   rw [k.2 a (fun z=>by rw [z,fA.2.1] at q;cases q) (fun z=>by rw [z,fC.2.1] at q;cases q)];exact q
  cases q:all[i]? with
  | none =>
   have hl:all.length<=i:=List.getElem?_eq_none_iff.mp q;rw [List.drop_of_length_le hl] at e3;obtain ⟨co,e3⟩:=aF (show (if condB c all h3=true then some (ac,h3) else none)=some (ws,h') from e3);cases e3;refine thn (T.done hd R3 l3 f3 t3 hl co) fun r s4 ⟨hr,R4⟩=>?_;subst hr;obtain ⟨mC,hnC,_⟩:=F3.ns (h:=h') (s:=s4) (by rw [eS];exact R4);rw [eL] at hnC;have ho:=(R4.k acc _ _ ka).1 rfl;have za:=(R4.k acc _ _ ka).2.2;obtain ⟨oL,_,kL,_⟩:=F3.loc;rw [eL] at kL;have R5:=back ⟨ka,ko⟩ R4;have fr:bV κ M3 acc:=⟨za,fA.2.1,R4.kc ka⟩;exact hR l3 R5 ho fr ⟨(R4.k _ _ _ kL).2.2,fC.2.1,R4.kc kL⟩ (by omega) rac hnC
  | some x =>
   have hlt:i < all.length:=(List.getElem?_eq_some_iff.mp q).1;rw [xF q] at e3;unfold fU at e3;obtain ⟨co,e3⟩:=aF e3;obtain ⟨⟨δ4,h4⟩,e4,e3⟩:=bind_some e3;obtain ⟨⟨tb,h5⟩,e5,e3⟩:=bind_some e3;refine thn (T.item hd R3 l3 f3 t3 q co) fun r s4 ⟨u,hr,q4⟩=>?_;subst hr;refine thn q4 fun _ s5 ⟨M5,l5,R5,r5,t5,fr5⟩=>?_;have F5:=F3.go l5;rw [<- eS] at R5;have w6:=hg' (R5.pin fr5) (F5.pin fr5) (show RepW Y.S M5 (.d x) u by rw [eS];exact r5) e4;rw [eS,eA] at w6;refine thn w6 fun _ s6 ⟨κ6,M6,o6,l6,R6,F6⟩=>?_;rw [<- eS] at R6;have w7:=ht' R6 F6 e5;rw [eS,eA] at w7;refine thn w7 fun t' s7 ⟨et,M7,l7,R7⟩=>?_;subst et;have notC:∀ a,a≠acc+1->κ6 a=fZ κ3 fp s5.heap a:=fun a ha=>by
    by_cases z:κ6 a=fZ κ3 fp s5.heap a
    ·exact z
    ·rcases o6 a z with y | y
     ·rw [eL] at y;exact absurd y ha
     ·rw [eF] at y;exact absurd y.1 Bool.false_ne_true
   have k6:κ6 acc=some (true,cM us m):=by
    rw [notC acc nAC];unfold fZ;rw [if_neg fun hm=>(hfl acc hm).1 rfl];exact ka
   have kun:∀ κ8:Kp,(∀ a,a≠acc->κ8 a=κ6 a)->∀ a,a≠acc->a≠acc+1->unK fp κ8 a=κ a:=fun κ8 hk a h1 h2=>by
    unfold unK;split
    ·rename_i hm;rw [<- ko a h1 h2];exact (f3 a hm).2.1.symm
    ·rename_i hm;rw [hk a h1,notC a h2];unfold fZ;rw [if_neg hm];exact ko a h1 h2
   cases t' with
   | false =>
    obtain ⟨u1,u2,u3,u4,u5⟩:=aG4 F5 fr5 (T.obj _ _ t5) o6 R7;exact ⟨all.length - (i+1),by omega,by rw [hI];exact ⟨i+1,_,M7,δ4,h5,us,m,ac,rfl,hlt,⟨by unfold unK;rw [if_neg fun hm=>(hfl acc hm).1 rfl];exact k6,kun κ6 fun _ _=>rfl⟩,l3.trans (l5.trans (l6.trans l7)),u2,u5 _ (F6.go l7),T.keep _ _ _ t5 u4,u3,by omega,rac.go (l5.trans (l6.trans l7)),e3⟩⟩
   | true =>
    obtain ⟨⟨y,h8⟩,e8,e3⟩:=bind_some (show (te δ4 h5).bind (fun y=>fU g tt te c all (all.drop (i+1)) δ4 y.2 (ac++[y.1]))=some (ws,h') from e3);rw [<- eS] at R7;have w8:=he' R7 (F6.go l7) e8;rw [eS,eA] at w8;refine thn w8 fun v s8 ⟨M8,l8,R8,r8⟩=>?_;refine zP R8 k6 (by omega) fun s9 m9 R9 k9=>?_;have o9:Own Y (fZ κ3 fp s5.heap) κ6:=o6;obtain ⟨_,u2,u3,u4,_⟩:=aG4 (X:=Y) F5 fr5 (T.obj _ _ t5) o9 R8;have u4':∀ b∈fp,∀ o,s5.heap.get? b=some o->s9.heap.get? b=some o:=fun b hb o e=>k9 b o (hfl b hb).1 (u4 b hb o e);have Rn:Mem X.S (unK fp (κ6.up acc (true,cM (us++[v]) m9))) M8 h8 s9:=R9.less fun a x q=>by
     unfold unK at q;split at q
     ·cases q
     ·exact q
    have fn:∀ b∈fp,bV (unK fp (κ6.up acc (true,cM (us++[v]) m9))) M8 b:=fun b hb=>⟨(u3 b hb).1,by unfold unK;rw [if_pos hb],(u3 b hb).2.2⟩;have Fn:Fra Y (unK fp (κ6.up acc (true,cM (us++[v]) m9))) M8 δ4:=(F6.go (l7.trans l8)).kp fun a ha=>by
     have z:=F5.mine ha;have n1:a∉fp:=fun hm=>z (fr5 a hm).2.1;have n2:a≠acc:=fun hz=>by
      rcases ha with y | ⟨x,y⟩ | ⟨l,env,z1,z2,z3⟩
      ·rw [eL] at y;exact nAC (hz.symm.trans y)
      ·obtain ⟨o,vv,q1,q2⟩:=F3.cell x a y;rw [hz,ka] at q1;cases q1;cases q2
      ·obtain ⟨l',y1,y2⟩:=F3.frs;rw [z1] at y1;cases y1;obtain ⟨_,L,o,y3,y4,_⟩:=y2 env z2;rw [z3] at y3;cases y3;rw [hz,ka] at y4;cases y4
     unfold unK;rw [if_neg n1,dT n2]
    have l:=l3.trans (l5.trans (l6.trans (l7.trans l8)));exact ⟨all.length - (i+1),by omega,by rw [hI];exact ⟨i+1,_,M8,δ4,h8,us++[v],m9,ac++[y],rfl,hlt,⟨by unfold unK;rw [if_neg fun hm=>(hfl acc hm).1 rfl];exact nE,kun _ fun a h1=>dT h1⟩,l,Rn,Fn,T.keep _ _ _ t5 u4',fn,by rw [List.length_append,List.length_singleton];omega,Paired.snoc (rac.go (l5.trans (l6.trans (l7.trans l8)))) r8,e3⟩⟩
 have eEnv:Y.env={ (newEnv sc (acc+1) X.env.globals cl X.env.qual none .none (some X.env) builtinsNs) with scope:=relabel sc X.env }:=by subst hY;rfl
 rw [eEnv] at loop;exact codeAny_compStart_list (loop _ rfl) (T.self X.A 0 _ _ _ (T.keep _ _ _ t0 fun b _ o e=>old b o e) (loop _ rfl))
end
end DL

namespace DL
open PySem PySem.Spec PyProof.Rows L2 CI
section
variable {X:Cx} {st:Sta} {d:Nat} {v:Evs} {κ:Kp} {M:Mp} {δ:DSt} {h h' h2:aA} {s:Shared} {N':List Str} {ixs:List (Option Nat)} {sc:Scope} {a b e tg iter elt:Expr} {es:List Expr} {ifs:List Expr} {pos:Pos} {g:XG} {tt:XR Bool} {te:XR W} {f:XR (List PyData×Cw)} {x:Str} {i:Nat} {w:W}
def Mem.drop {S:Sx} {C:Addr} {h3:Heap} (R:Mem S κ M h s) (f:bV κ M C) (k:Heap.SameBut C s.heap h3):Mem S κ M h { s with heap:=h3 }:=R.keep (fun b o e nf=>(k.2 b fun z=>nf (by rw [z];exact f)).trans e) R.bare rfl
def aG6 {all:List PyData} {c:Cw} {h1:aA} {ws:List W} (hd:X.A.handled=none) (SC:CompSc X.N N' ixs X.env.scope sc) (hi:SI X tg iter f) (hg:∀ cl C,SG (blk X N' sc cl C) tg g) (ht:∀ cl C,SIf (blk X N' sc cl C) ifs tt) (he:∀ cl C,SE (blk X N' sc cl C) elt te) (hs:∀ x,foldedSetIterable iter X.env x=pure x)
  (R:Mem X.S κ M h s) (F:Fra X κ M δ) (e1:f δ h=some ((all,c),h1)) (e2:fU g tt te c all all (aY ixs δ) h1 []=some (ws,h')):Wp X.S X.A (eval (.ListComp elt [⟨tg,iter,ifs,0⟩] sc pos) X.env) (Pl X.S κ M h' ws) NE s:=by
 obtain ⟨cl,ecl,hcl1,hcl2⟩:=nN (sc:=sc) (env:=X.env) fun y hy hf=>F.ok.has y.1 (SC.free y hy hf);rw [eval_ListComp];refine wpAny_comprehension_free (use:=none) rfl hs ecl SC.kind SC.loc ?_;refine thn (hi R F e1) fun v s1 q1=>thn q1 fun itv s2 q2=>?_;obtain ⟨M2,it,fp,tn,l2,R2,rfl,T,t2,f2,hz⟩:=q2;refine tN (R':=fun acc C=>compPost (model X.S.P X.S.w) X.A NE none (Pl X.S κ M h' ws) acc C) hd SC hcl1 hcl2 hg ht he (F.go l2) R2 T t2 f2 hz e2 fun {s' m M' us n} l R ho fa fc z r hn=>⟨m,hn,fun h3 k3=>?_⟩;exact ⟨M',l2.trans l,R.drop fc k3,_,us,n,rfl,(k3.2 _ (Nat.ne_of_lt (Nat.lt_succ_self _))).trans ho,fa,z,r⟩
def bF7 {all:List PyData} {c:Cw} {h1:aA} {ws:List W} {py spos:Pos} (hd:X.A.handled=none) (SC:CompSc X.N N' ixs X.env.scope sc) (hi:SI X tg iter f) (hg:∀ cl C,SG (blk X N' sc cl C) tg g) (ht:∀ cl C,SIf (blk X N' sc cl C) ifs tt) (he:∀ cl C,SE (blk X N' sc cl C) elt te) (hs:∀ x,foldedSetIterable iter X.env x=pure x)
  (R:Mem X.S κ M h s) (F:Fra X κ M δ) (e1:f δ h=some ((all,c),h1)) (e2:fU g tt te c all all (aY ixs δ) h1 []=some (ws,h')) (cv:∀ {κ:Kp} {M:Mp} {u:Value} {s:Shared},Pl X.S κ M h' ws u s->Pw X.S κ M h2 w u s)
  (hiN:X.N[i]?=some x) (hx:X.env.scope.names.lookup x=some .local) (hsw:swapsWith (.ListComp elt [⟨tg,iter,ifs,0⟩] sc pos) (some (.Name x py)) spos.line X.env=pure true):Wp X.S X.A (exec (.Assign [.Name x py] (.ListComp elt [⟨tg,iter,ifs,0⟩] sc pos) spos) X.env) (Ps X κ M h2 (.nx (δ.set i (some w)))) NE s:=by
 obtain ⟨cl,ecl,hcl1,hcl2⟩:=nN (sc:=sc) (env:=X.env) fun y hy hf=>F.ok.has y.1 (SC.free y hy hf);rw [exec_Assign_Name_used _ _ _ _ hsw];refine wpAny_bind (wpAny_standAt (wpAny_bind ?_));show wpAny _ _ (do let _ <- comprehension (.ListComp elt [⟨tg,iter,ifs,0⟩] sc pos) sc X.env _ (newList []) false (eval iter X.env) (some (assign (.Name x py) X.env))) _ _ s;refine wpAny_bind (thn (wpAny_comprehension_free (use:=some (assign (.Name x py) X.env)) (Q:=fun _ s'=>Ps X κ M h2 (.nx (δ.set i (some w))) .next s') rfl hs ecl SC.kind SC.loc ?_) fun _ s' hq=>wpAny_pure (wpAny_pure hq));refine thn (hi R F e1) fun v s1 q1=>thn q1 fun itv s2 q2=>?_;obtain ⟨M2,it,fp,tn,l2,R2,rfl,T,t2,f2,hz⟩:=q2;refine tN (R':=fun acc C=>compPost (model X.S.P X.S.w) X.A NE (some (assign (.Name x py) X.env)) (fun _ s'=>Ps X κ M h2 (.nx (δ.set i (some w))) .next s') acc C) hd SC hcl1 hcl2 hg ht he (F.go l2) R2 T t2 f2 hz e2 fun {s' m M' us n} l R ho fa fc z r hn=>?_;show wpAny _ _ (assign (.Name x py) X.env (.ref s2.heap.objs.size)) _ _ s';generalize eC:s2.heap.objs.size+1=C at fc hn;have nA:s2.heap.objs.size≠C:=by rw [<- eC];exact Nat.ne_of_lt (Nat.lt_succ_self _)
 obtain ⟨oC,es,ep,hoC,hC⟩:=id hn;have RC:=R.more (b:=true) ⟨fc.1,fc.2.2⟩ hoC;have FC:Fra X (κ.up C (true,oC)) M' δ:=((F.go l2).go l).kp fun a ha=>dT fun z=>F.mine ha (by rw [z];exact fc.2.1);obtain ⟨M3,l3,R3,r3⟩:=cv ⟨M',.refl,RC,_,us,n,rfl,ho,⟨fa.1,by rw [dT nA];exact fa.2.1,fa.2.2⟩,z,r⟩;refine wpAny_assign_Name (xD (FC.go l3) R3 hiN (.inl hx) (.inr hx) r3 fun s4 κ4 o4 R4 F4 _=>?_);have kC:κ4 C=some (true,oC):=by
  by_cases q:κ4 C=κ.up C (true,oC) C
  ·rw [q];exact nE
  ·have own:C=X.env.locals\/∃ x,X.env.cells.lookup x=some C:=by
    rcases o4 C q with y | y
    ·exact .inl y
    ·exact .inr y.2
   exact absurd fc.2.1 (F.mine (own.imp_right .inl))
 have h4:=(R4.k C _ _ kC).1 rfl;refine ⟨m,⟨oC,es,ep,h4,hC⟩,fun h5 k5=>⟨unK [C] κ4,M3,fun a ha=>?_,l2.trans (l.trans l3),?_,F4.kp fun a ha=>?_⟩⟩
 ·have na:a≠C:=fun z=>ha (by unfold unK;rw [if_pos (by simp [z]),z];exact fc.2.1.symm);refine o4 a fun q=>ha ?_;unfold unK;rw [if_neg (by simpa using na),q,dT na]
 ·have R5:Mem X.S (unK [C] κ4) M3 h2 s4:=R4.less fun a x q=>by
   unfold unK at q;split at q
   ·cases q
   ·exact q
  exact R5.drop ⟨(R4.k C _ _ kC).2.2,by unfold unK;rw [if_pos (by simp)],R4.kc kC⟩ k5
 ·unfold unK;rw [if_neg fun hm=>F.mine ha (by rw [List.mem_singleton.mp hm];exact fc.2.1)]
def bU4 {S:Sx} {xs:List PyData} {u:Value} (p:Pl S κ M h (xs.map .d) u s):Pf S κ M h xs u s:=let ⟨N,l,R,a,us,n,e1,e2,f,z,r⟩:=p;⟨N,l,R,a,us,n,e1,e2,f,z,show Paired (fun a b=>RepW S N (.d a) b) xs us from wW r⟩
def cK7 {S:Sx} {is:List Nat} {u:Value} (p:Pl S κ M h (is.map .c) u s):Pw S κ M (h++[.r is]) (.c h.length) u s:=by
 obtain ⟨N,l,R,a,us,n,rfl,e,f,z,r⟩:=p;exact ⟨N.cel (a,a),l.trans .cel,R.add f f ⟨⟨_,e⟩,_,e⟩ ⟨us,n,e,z,r.go .cel⟩,(a,a),by show (N.m++[(a,a)])[h.length]?=_;rw [<- R.len];simp,rfl⟩
def rI {N:List Str} {S:Scope} (h:tE N sc S=true):CompSc N (zF sc) (pE N sc) S sc:=by
 unfold tE at h;simp only [Bool.and_eq_true,decide_eq_true_eq,List.all_eq_true] at h;obtain ⟨h1,h2,h3,h4,h5,h6⟩:=h;refine ⟨h1,fun y hy e=>?_,fun y hy e=>?_,fun y hy e=>?_,h5,by unfold pE;rw [List.length_map],?_⟩
 ·have:=h2 y hy;rw [e] at this;simp at this
 ·have:=h3 y hy;rw [e] at this
  simpa using this
 ·have:=h4 y hy;rw [e] at this
  simpa using this
 ·rw [List.all_eq_true];exact h6
def dM (G:Good X st d) (cl:List (Str×Addr)) (C:Addr):Good (blk X (zF sc) sc cl C) (st.blk sc) d:=by
 refine ⟨G.bl,G.gc,G.tk,G.fn,G.fnW,G.cls,G.om,G.fo,rfl,?_,(fun z=>nomatch z),G.rm,fun q z=>nomatch z⟩;show relabel sc X.env=bD5 sc st.S;unfold relabel bD5 Env.kindOf;rw [G.S]
theorem vE (S:Snd v) (G:Good X st d):∀ ifs,SIf X ifs (aR8 v st ifs)
 | []=>fun _ _ _ _ _ _ _ R F e=>by cases e;exact wpAny_tests_nil ⟨rfl,_,.refl,R⟩
 | [c]=>fun _ _ _ _ _ _ _ R F e=>wpAny_tests_one (S.T G c R F e)
 | _::_::_=>fun _ _ _ _ _ _ _ R F e=>by cases e
def rJ (h:jM e=false) (env:Env) (y:Value):foldedSetIterable e env y=pure y:=by
 cases e<;>first | rfl | cases h
def ItS (v:Evs):Prop:=∀ {X:Cx} {st:Sta} {d:Nat},Good X st d->∀ tg iter,SI X tg iter (pC v st tg iter)
def bF8 (S:Snd v) (I:ItS v) (G:Good X st d):SF X (.ListComp elt [⟨tg,iter,ifs,0⟩] sc pos) (lV v st elt tg iter ifs sc):=by
 unfold lV;split
 ·rename_i hc;rw [Bool.and_eq_true] at hc;have hs:jM iter=false:=by simpa using hc.2
  intro κ M δ h s w h' R F e;obtain ⟨⟨all,c⟩,h1,e1,e⟩:=aG e;exact thn (aG6 G.rm.hd (by rw [G.S,G.N];exact rI hc.1) (I G tg iter) (fun cl C=>S.G (dM G cl C) tg) (fun cl C=>vE S (dM G cl C) ifs) (fun cl C=>S.E (dM G cl C) elt) (rJ hs _) R F e1 (jQ e)) fun _ _ p=>bU4 p
 ·exact fun _ _ _ _ _ _ _ _ _ e=>by cases e
def pK {f:XR (List PyData)} (hf:SF X e f):SE X e (bB f):=by
 intro κ M δ h s w h' R F e;obtain ⟨⟨xs,h1⟩,e1,e⟩:=bind_some (show (f δ h).bind _=_ from e);cases e;exact thn (hf R F e1) fun _ _ p=>aE7 p
def nO {f:XR (List PyData)} (hf:SF X e f):SE X e (aJ f):=by
 intro κ M δ h s w h' R F e;obtain ⟨⟨xs,h1⟩,e1,e⟩:=bind_some (show (f δ h).bind _=_ from e);cases e;exact thn (hf R F e1) fun _ _ p=>qY p
def hU:SF X e xno:=fun _ _ _ _ _ _ _ _ _ e=>by cases e
def Pf.go {S:Sx} {M M':Mp} {xs:List PyData} {u:Value} (l:Le M M') (p:Pf S κ M' h xs u s):Pf S κ M h xs u s:=let ⟨N,a,b⟩:=p;⟨N,l.trans a,b⟩
theorem bU5 (S:Snd v) (G:Good X st d):SF X (.BinOp a .Add b pos) (xb (v.E st a) fun u=>xb (v.E st b) fun w=>fun _ h=>(match ref h u,ref h w with
  | some (.list xs),some (.list ys)=>if xs.length+ys.length<=sizeLine then some (xs++ys,h) else none
  | _,_=>none)):=by
 intro κ M δ h s w h' R F e;obtain ⟨x,h1,e1,e⟩:=aG e;obtain ⟨y,h2,e2,e⟩:=aG e;refine wpAny_BinOp (thn (S.E G a R F e1) fun u s1 ⟨M1,l1,R1,r1⟩=>thn (S.E G b R1 (F.go l1) e2) fun v s2 ⟨M2,l2,R2,r2⟩=>?_);split at e
 ·rename_i ha hb;obtain ⟨hz,e⟩:=aF e;cases e;obtain ⟨a,us,n,rfl,ea,la,ra'⟩:=dS R2 (r1.go l2) ha;obtain ⟨b,vs,m,rfl,eb,lb,rb'⟩:=dS R2 r2 hb;have k1:=ra'.length;have k2:=rb'.length;refine PySem.P.add_list ea eb ?_ (by rw [List.size_toArray,List.size_toArray];omega);have ea:us.toArray++vs.toArray=(us++vs).toArray:=by simp
  rw [ea];exact Pf.go (l1.trans l2) (R2.lstP (t:=s2.toks) (zE ra' rb') (by rw [List.length_append];omega))
 ·cases e
theorem cK8 (S:Snd v) (G:Good X st d) {lo hi:Option Expr} {p2:Pos}:SF X (.Subscript a (.Slice lo hi none p2) pos) (xb (v.E st a) fun x=>xb (kW v st lo) fun l=>xb (kW v st hi) fun u=>fun _ h=>(match ref h x with
  | some (.list xs)=>some (cut xs l u,h)
  | _=>none)):=by
 intro κ M δ h s w h' R F e;refine bT9 S G (Q:=Pf X.S κ M h') (r:=(w,h')) R F e fun l1 R1 r1 hs pl pu e=>?_;split at e
 ·rename_i ea;cases e;obtain ⟨t,q⟩:=sl_l (A:=X.A) (E:=NE) R1 r1 ea hs pl pu;exact ⟨"list",_,slot_list_getitem.lookup,t,thn q fun _ _ p=>p.go l1⟩
 ·cases e
def bU6 (S:Snd v) (G:Good X st d) {lo hi:Option Expr} {p2:Pos}:SE X (.Subscript a (.Slice lo hi none p2) pos) (xb (v.E st a) fun x=>xb (kW v st lo) fun l=>xb (kW v st hi) fun u=>fun _ h=>xSl x l u h):=by
 intro κ M δ h s w h' R F e;refine bT9 S G (Q:=Pw X.S κ M h') (r:=(w,h')) R F e fun l1 R1 r1 hs pl pu e=>?_;unfold xSl at e;split at e
 ·cases e;obtain ⟨t,q⟩:=sl_t (A:=X.A) (E:=NE) R1 r1 hs pl pu;exact ⟨"tuple",_,PyProof.Rows.slot_tuple_getitem.lookup,t,thn q fun _ _ p=>p.go l1⟩
 ·split at e
  ·rename_i ea;cases e;obtain ⟨t,q⟩:=sl_l (A:=X.A) (E:=NE) R1 r1 ea hs pl pu;exact ⟨"list",_,slot_list_getitem.lookup,t,thn q fun _ _ p=>(qY p).go l1⟩
  ·cases e
theorem pL (its:List Value):∀ (k:Nat) (acc:List Value),List.foldl (fun x1 x2=>x1++x2) acc.toArray (List.replicate k its.toArray)=(acc++(List.replicate k its).flatten).toArray
 | 0,acc=>by simp
 | k+1,acc=>by
  have e:acc.toArray++its.toArray=(acc++its).toArray:=by simp
  have e2:(acc++its)++(List.replicate k its).flatten=acc++(List.replicate (k+1) its).flatten:=by
   rw [List.replicate_succ,List.flatten_cons,List.append_assoc]
  rw [<- e2,<- pL its k (acc++its),<- e,List.replicate_succ,List.foldl_cons]
def aT2 {α:Type} (xs:List α) (k:Nat):(List.replicate k xs).flatten.length=k*xs.length:=by
 induction k with
 | zero=>simp
 | succ k ih=>rw [List.replicate_succ,List.flatten_cons,List.length_append,ih,Nat.succ_mul,Nat.add_comm]
theorem bU7 {S:Sx} {xs:List PyData} {us:List Value} (r:Reps' S M xs us):∀ k,Reps' S M (List.replicate k xs).flatten (List.replicate k us).flatten
 | 0=>.nil
 | k+1=>by rw [List.replicate_succ,List.replicate_succ,List.flatten_cons,List.flatten_cons];exact zE r (bU7 r k)
theorem bU8 (S:Snd v) (G:Good X st d) {p:Pos}:SF X (.BinOp (.List es p) .Mult b pos) (xb (bB (xPl (aV v st es))) fun u=>xb (v.E st b) fun w=>fun _ h=>(match u,w with
  | .c i,.d (.int k)=>(match h[i]? with
   | some (.l xs)=>if -(2^63)<=k/\k < 2^63/\xs.length*k.toNat<=sizeLine then some ((List.replicate k.toNat xs).flatten,h) else none
   | _=>none)
  | _,_=>none)):=by
 intro κ M δ h s w h' R F e;obtain ⟨x,h1,e1,e⟩:=aG e;obtain ⟨y,h2,e2,e⟩:=aG e;refine wpAny_BinOp (thn (pK (uZ S G) R F e1) fun u s1 ⟨M1,l1,R1,r1⟩=>thn (S.E G b R1 (F.go l1) e2) fun v s2 ⟨M2,l2,R2,r2⟩=>?_);rcases x with _ | i
 ·cases e
 rcases y with (_ | _ | k | _ | _ | _ | _) | _<;>first | cases e;done | skip
 dsimp only at e;split at e
 ·rename_i xs ei;obtain ⟨⟨q1,q2,hz⟩,e⟩:=aF e;cases e;obtain ⟨t,rfl⟩:=wi.mp r2;obtain ⟨p,ep,rfl⟩:=r1.go l2;obtain ⟨us,n,ho,hl,rr⟩:=R2.cel i p _ ep ei;have hlen:=rr.length;have hsz:us.toArray.size*k.toNat<=sizeLine:=by rw [List.size_toArray,<- hlen];exact hz
  have hcap:¬ us.toArray.size*k.toNat > (2^63 - 1) / 8:=by
   have:(sizeLine:Nat)<=(2^63 - 1) / 8:=by decide
   omega
  have hfit:¬ (!Builtin.List.listFitsIndex k)=true:=by rw [fitsIndex_both q1 q2];exact Bool.false_ne_true
  have hlong:¬ Builtin.List.listTooLong (us.toArray.size*k.toNat)=true:=by
   unfold Builtin.List.listTooLong;rw [decide_eq_false (by omega)];exact Bool.false_ne_true
  have hnew:List.foldl (fun x1 x2=>x1++x2) #[] (List.replicate (if us.toArray.isEmpty=true then 0 else k.toNat) us.toArray)=(List.replicate k.toNat us).flatten.toArray:=by
   have f0:∀ m:Nat,List.foldl (fun x1 x2=>x1++x2) #[] (List.replicate m us.toArray)=(List.replicate m us).flatten.toArray:=fun m=>by
    have:=pL us m [];rw [List.nil_append] at this;exact this
   rw [f0];cases us with
   | nil=>simp
   | cons a r'=>rw [if_neg (by simp)]
  refine wpAny_binaryOp_repeat_ref (T:="list") (U:="int") (by decide) ⟨_,ho,rfl⟩ (fun s'=>typeIs_int s' k t) noFill_list_mul PySem.F.fills_int_mul PySem.F.slot_int_rmul repeat_list PySem.F.slot_int_index.lookup
   (call_meets PySem.F.slot_int_rmul (typeIs_int s2 k t) PySem.F.entry_int_rmul (PySem.F.args_int_rmul_2 _ _) (int___rmul___int_list k t p.1 us.toArray n)
    ⟨ho,rfl,⟨_,ho,rfl⟩,call_meets PySem.F.slot_list_mul ⟨_,ho,rfl⟩ PySem.F.entry_list_mul (PySem.F.args_list_mul_2 _ _) (AutoListH.list___mul___list_int_3 p.1 us.toArray n k t hfit hcap hlong) ⟨ho,?_⟩⟩)
  rw [hnew];exact Pf.go (l1.trans l2) (R2.lstP (t:=s2.toks) (n:=0) (bU7 rr k.toNat) (by rw [aT2,Nat.mul_comm,<- hlen];exact hz))
 ·cases e
end
end DL

namespace DL
open PySem PySem.Spec PyProof.Rows L2 CI
section
variable {S:Sx} {κ:Kp} {M:Mp} {h h':aA} {s:Shared} {A:Around} {E:Value->Shared->Prop} {d:Nat}
def Room.deeper {k:Nat} (r:Room (k+1) A) (env:Env):Room k (A.deeper env) :=
 ⟨r.hd,by have:=r.dp;show A.depth+1+3*k+5 < _;omega,by have:=r.un;show A.units+3+16*k+200 < _;omega⟩
def vG {C:Addr} {us:List Value} {kw:List (Str×Value)}:(A.under (.builtin "type.__call__" ⟨.ref C::us,kw⟩)).depth=A.depth+1:=by
 first | rfl | simp [Around.under,Code.weight,Code.isCreation,Code.isGuard,Code.isCaller,Code.frames,Code.isFrame,guardIds]
def vH {C:Addr} {us:List Value} {kw:List (Str×Value)}:(A.under (.builtin "type.__call__" ⟨.ref C::us,kw⟩)).units=A.units+1:=by
 first | rfl | simp [Around.under,Code.cUnits,Code.frames,Code.isFrame]
def Room.make {k:Nat} (r:Room (k+1) A) (C:Addr) (us:List Value) (kw:List (Str×Value)):Room k (A.under (.builtin "type.__call__" ⟨.ref C::us,kw⟩)) :=
 ⟨r.hd,by have:=r.dp;rw [vG];omega,by have:=r.un;rw [vH];omega⟩
def FrO.make (r:FrO κ A) (C:Addr) (us:List Value) (kw:List (Str×Value)):FrO κ (A.under (.builtin "type.__call__" ⟨.ref C::us,kw⟩)):=by
 have:(A.under (.builtin "type.__call__" ⟨.ref C::us,kw⟩)).frames=A.frames:=by
  first | rfl | simp [Around.under,Code.frames,Code.isFrame]
 unfold FrO;rw [this];exact r
def aG7 {f:Addr} {fd:FuncData} {ps:List Str} {m:XFW} {us:List Value} {ws:List W} {w:W} (F:FnS S d f fd ps m) (hr:Room d A) (fo:FrO κ A) (hb:eG S.K fd ps) (md:Mod S) (hz:S.base.objs.size<=s.heap.objs.size) (R:Mem S κ M h s) (r:RepWs S M ws us) (e:m ws h=some (w,h')):Wp S A (call (.ref f) us) (Pw S κ M h' w) E s:=by
 have hl:us.length=ps.length:=by rw [<- r.length];exact F.len _ _ _ e
 refine wpAny_call (codeAny_mono (F.run (args:=⟨us,[]⟩) hr fo md hz R (hb s us (md.kin.keeps R.bk) hl) r e) fun r s' ⟨u,hq,p⟩=>?_);subst hq;exact p
def Mem.made {C:Addr} (R:Mem S κ M h s):Mem S κ (M.cel (s.heap.objs.size+1,s.heap.objs.size)) (h++[.o C []]) { s with heap:=(s.heap.push PySem.W.emptyDict).push (PySem.W.instObj C s.heap.objs.size) }:=by
 have e1:(s.heap.push PySem.W.emptyDict).get? s.heap.objs.size=some PySem.W.emptyDict:=Heap.get?_push_size s.heap rfl;have e1':=Heap.get?_push_of_some (PySem.W.instObj C s.heap.objs.size) e1;have e2:((s.heap.push PySem.W.emptyDict).push (PySem.W.instObj C s.heap.objs.size)).get? (s.heap.objs.size+1)=some (PySem.W.instObj C s.heap.objs.size):=by
  have:=Heap.get?_push_size (s.heap.push PySem.W.emptyDict) (o:=PySem.W.instObj C s.heap.objs.size) rfl
  rwa [Heap.size_push] at this
 have e3:(s.heap.push PySem.W.emptyDict).Ns s.heap.objs.size (fun _=>none):=⟨PySem.W.emptyDict,#[],_,e1,rfl,(fun e he=>absurd he (by simp)),fun _=>rfl⟩;have R1:Mem S κ M h { s with heap:=(s.heap.push PySem.W.emptyDict).push (PySem.W.instObj C s.heap.objs.size) }:=R.kept (t:=s.toks) fun b o e=>Heap.get?_push_of_some _ (Heap.get?_push_of_some _ e);refine R1.add (p:=(s.heap.objs.size+1,s.heap.objs.size)) (R.new (Heap.get?_none_of_le (Nat.le_succ _))) R.size ⟨⟨_,e2⟩,_,e1'⟩ ?_;exact ⟨Nat.ne_of_lt (Nat.lt_succ_self _),Nat.zero_le _,e2,fun _=>none,(Heap.Ns1.of_empty e3).at fun o q=>Heap.get?_push_of_some _ q,fun _=>True.intro,fun y hy=>absurd rfl hy⟩
def aG8 {k:Nat} {C f:Addr} {fd:FuncData} {ps:List Str} {m:XFW} {us:List Value} {ws:List W} {w:W} (K:Mk S.K C f) (F:FnS S k f fd ps m) (hr:Room (k+1) A) (fo:FrO κ A) (hb:eG S.K fd ps) (md:Mod S) (hz:S.base.objs.size<=s.heap.objs.size) (R:Mem S κ M h s) (r:RepWs S M ws us) (e:xMk C m ws h=some (w,h')):Wp S A (call (.ref C) us) (Pw S κ M h' w) E s:=by
 obtain ⟨⟨w1,h1⟩,e1,e⟩:=bind_some (show (m (.c h.length::ws) (h++[.o C []])).bind _=_ from e);have R2:=R.made (C:=C);have ez:(M.cel (s.heap.objs.size+1,s.heap.objs.size)).m[h.length]?=some (s.heap.objs.size+1,s.heap.objs.size):=by show (M.m++[_])[h.length]?=_;rw [<- R.len];simp
 have r2:RepWs S (M.cel (s.heap.objs.size+1,s.heap.objs.size)) (.c h.length::ws) (Value.ref (s.heap.objs.size+1)::us):=.cons ⟨_,ez,rfl⟩ (r.go .cel);have hl:(Value.ref (s.heap.objs.size+1)::us).length=ps.length:=by rw [<- r2.length];exact F.len _ _ _ e1
 have kin:=md.kin.keeps R.bk;refine wpAny_call (aF7 (f:=f) kin K.makes K.init (beq_iff_eq.mp K.fn) (codeAny_mono (F.run (args:=⟨Value.ref (s.heap.objs.size+1)::us,[]⟩) (hr.make C us []) (fo.make C us []) md (by rw [Heap.size_push,Heap.size_push];omega) R2 (hb _ _ (md.kin.keeps R2.bk) hl) r2 e1) fun r s' ⟨u,hq,M3,l3,R3,r3⟩=>?_));subst hq;rcases w1 with (_ | _ | _ | _ | _ | _ | _) | _<;>first | cases e;done | skip
 cases e;exact ⟨wn.mp r3,M3,Le.trans .cel l3,R3,⟨_,l3.at ez,rfl⟩⟩
theorem pO (f g:Str) (w:W):∀ fs:List (Str×W),(fF f w fs).lookup g=if g=f then some w else fs.lookup g
 | []=>by
  show List.lookup g [(f,w)]=_
  by_cases h:g=f
  ·have hb:(g==f)=true:=beq_iff_eq.mpr h;simp only [List.lookup,hb,if_pos h]
  ·have hb:(g==f)=false:=beq_eq_false_iff_ne.mpr h;simp only [List.lookup,hb,if_neg h]
 | (k,x)::r=>by
  have ih:=pO f g w r;rw [show fF f w ((k,x)::r)=(if k=f then (k,w)::r else (k,x)::fF f w r) from rfl]
  by_cases hk:k=f
  ·rw [if_pos hk]
   by_cases h:g=k
   ·have hb:(g==k)=true:=beq_iff_eq.mpr h;simp only [List.lookup,hb,if_pos (h.trans hk)]
   ·have hb:(g==k)=false:=beq_eq_false_iff_ne.mpr h;simp only [List.lookup,hb,if_neg (fun e:g=f=>h (e.trans hk.symm))]
  ·rw [if_neg hk]
   by_cases h:g=k
   ·have hb:(g==k)=true:=beq_iff_eq.mpr h;simp only [List.lookup,hb,if_neg (fun e:g=f=>hk (h.symm.trans e))]
   ·have hb:(g==k)=false:=beq_eq_false_iff_ne.mpr h;simp only [List.lookup,hb];exact ih
theorem pQ (f:Str) (w:W):∀ fs:List (Str×W),f∈(fF f w fs).map (·.1)/\(∀ g,g∈fs.map (·.1)->g∈(fF f w fs).map (·.1))/\(fF f w fs).length<=fs.length+1
 | []=>⟨by simp [fF],fun g h=>by simp at h,by simp [fF]⟩
 | (k,x)::r=>by
  obtain ⟨i1,i2,i3⟩:=pQ f w r;rw [show fF f w ((k,x)::r)=(if k=f then (k,w)::r else (k,x)::fF f w r) from rfl]
  by_cases hk:k=f
  ·rw [if_pos hk];subst hk;exact ⟨by simp,fun g h=>by simpa using h,by rw [List.length_cons,List.length_cons];omega⟩
  ·rw [if_neg hk];refine ⟨?_,fun g h=>?_,by rw [List.length_cons,List.length_cons];omega⟩
   ·rw [List.map_cons];exact List.mem_cons_of_mem _ i1
   ·rw [List.map_cons] at h ⊢;rcases List.mem_cons.mp h with e | e
    ·exact List.mem_cons.mpr (.inl e)
    ·exact List.mem_cons_of_mem _ (i2 g e)
def zQ {w:W} {u:Value} (r:RepW S M w u):PySem.W.handedIn u=true:=by
 cases w with
 | c i=>obtain ⟨p,_,rfl⟩:=r;rfl
 | d x =>
  cases x with
  | none=>cases wn.mp r;rfl
  | bool b=>cases wb.mp r;rfl
  | int i=>obtain ⟨t,rfl⟩:=wi.mp r;rfl
  | str x=>obtain ⟨⟨t,rfl⟩,_⟩:=rep_s.mp (show Rep S M.Z _ _ from r);rfl
  | list x=>obtain ⟨a,_,_,rfl,_⟩:=rep_l.mp (show Rep S M.Z _ _ from r);rfl
  | tuple x=>obtain ⟨a,_,_,rfl,_⟩:=rep_t.mp (show Rep S M.Z _ _ from r);rfl
  | dict x=>obtain ⟨a,_,_,rfl,_⟩:=rep_d.mp (show Rep S M.Z _ _ from r);rfl
def rK {i:Nat} {p:Addr×Addr} {C:Addr} {fs:List (Str×W)} (R:Mem S κ M h s) (ep:M.m[i]?=some p) (ei:h[i]?=some (.o C fs)):∃ mA,ObjM s.heap p.1 p.2 C mA/\(∀ f,RelO S M (fs.lookup f) (mA f))/\PySem.Within mA (fs.map (·.1))/\fs.length<=1000:=by
 obtain ⟨ne,z,ob,mA,n,r,q⟩:=R.cel i p _ ep ei;exact ⟨mA,⟨ob,n,ne⟩,r,q,z⟩
def RelO.some_of {w:W} {o:Option Value} (r:RelO S M (some w) o):∃ u,o=some u/\RepW S M w u:=by
 cases o with
 | none=>exact (show False from r).elim
 | some u=>exact ⟨u,rfl,r⟩
def RelO.none_of {o:Option Value} (r:RelO S M none o):o=none:=by
 cases o with
 | none=>rfl
 | some u=>exact (show False from r).elim
def vI {b:Bool} {i:Nat} {p:Addr×Addr} {C:Addr} {fs:List (Str×W)} {f:Str} {w:W} (kin:S.K.In S.base) (R:Mem S κ M h s) (ep:M.m[i]?=some p) (ei:h[i]?=some (.o C fs)) (c:Cls S.K C) (n:NoAttr S.K C f) (l:fs.lookup f=some w):Wp S A (getAttr (.ref p.1) f b) (Pw S κ M h w) E s:=by
 obtain ⟨mA,O,r,_⟩:=rK R ep ei;obtain ⟨u,hu,ru⟩:=RelO.some_of (w:=w) (o:=mA f) (by rw [<- l];exact r f);exact aS5 (kin.keeps R.bk) O (c.get f) c.hd n hu (zQ ru) ((R.tok _).pw ru)
def vJ {i:Nat} {p:Addr×Addr} {C:Addr} {fs:List (Str×W)} {f:Str} {w:W} {u:Value} {Q:Unit->Shared->Prop} (kin:S.K.In S.base) (R:Mem S κ M h s) (ep:M.m[i]?=some p) (ei:h[i]?=some (.o C fs)) (c:Cls S.K C) (n:NoAttr S.K C f) (hl:fs.length < 1000) (rw':RepW S M w u)
  (q:∀ s',Mem S κ M (h.set i (.o C (fF f w fs))) s'->Q () s'):Wp S A (setAttr (.ref p.1) f u) Q E s:=by
 obtain ⟨mA,O,r,wi,_⟩:=rK R ep ei;have hz:(fs.map (·.1)).length<=sizeLine:=by rw [List.length_map,sizeLine_eq];omega
 refine aS6 (kin.keeps R.bk) O c.sa c.po n.taker c.hd wi hz fun h' O' sb=>q _ ?_;have hd:∃ o,h'.get? p.2=some o:=let ⟨o,_,_,e',_⟩:=O'.ns;⟨o,e'⟩
 obtain ⟨k1,k2,k3⟩:=pQ f w fs;refine R.wr ep (fun b o _ n2 q=>(sb.2 b n2).trans q) ⟨⟨_,O'.obj⟩,hd⟩ R.bare rfl ⟨O.ne,by omega,O'.obj,_,O'.ns,fun g=>?_,fun g hg=>?_⟩
 ·show RelO S M ((fF f w fs).lookup g) (if g=f then some u else mA g);rw [pO]
  by_cases q:g=f
  ·rw [if_pos q,if_pos q];exact rw'
  ·rw [if_neg q,if_neg q];exact r g
 ·by_cases q:g=f
  ·rw [q];exact k1
  ·refine k2 g (wi g fun z=>hg ?_);show (if g=f then some u else mA g)=none;rw [if_neg q];exact z
def Mem.lset {i:Nat} {p:Addr×Addr} {us us':List Value} {n t:Nat} {c:Cell} {f:Array Value->Array Value} (R:Mem S κ M h s) (ei:M.m[i]?=some p) (e:s.heap.get? p.1=some (cM us n)) (hf:f us.toArray=us'.toArray)
  (x:∀ (h2:Heap) (n':Nat),h2.get? p.1=some (cM us' n')->CellOk S M h2 p c):Mem S κ M (h.set i c) { s with heap:=s.heap.update p.1 (Obj.mapSeq f),toks:=t }:=by
 have q:=PySem.IsL.update e f;rw [hf] at q;obtain ⟨_,_,o2,ho2⟩:=R.off p (List.mem_of_getElem? ei) p.2 (.inr rfl);refine R.wr ei (fun b o n1 _ q=>(Heap.get?_update_other _ _ (Ne.symm n1)).trans q) ⟨⟨_,q⟩,?_⟩ R.bare rfl (x _ _ q)
 by_cases hq:p.2=p.1
 ·exact ⟨_,by rw [hq];exact q⟩
 ·exact ⟨o2,(Heap.get?_update_other _ _ (Ne.symm hq)).trans ho2⟩
def bF9 {i:Nat} {p:Addr×Addr} {xs:List PyData} {x:PyData} {u:Value} (R:Mem S κ M h s) (ep:M.m[i]?=some p) (ei:h[i]?=some (.l xs)) (hz:xs.length < sizeLine) (rx:Rep S M.Z x u):Wp S A (call (.builtin "list.append") [.ref p.1,u]) (Pw S κ M (h.set i (.l (xs++[x]))) (.d .none)) E s:=by
 obtain ⟨us,n,e,hl,r⟩:=R.cel i p _ ep ei;have hlen:=r.length;refine call_meets F.slot_list_append ⟨_,e,rfl⟩ F.entry_list_append (F.args_list_append_2 _ _) (PySem.list_append p.1 us.toArray n u (by rw [List.size_toArray];omega)) ⟨e,?_⟩;exact (R.lset (t:=s.toks) (us':=us++[u]) (c:=.l (xs++[x])) ep e (by simp) fun h2 n' e'=>⟨_,n',e',by rw [List.length_append,List.length_singleton];omega,Paired.snoc r rx⟩).pn
theorem pU {α:Type}:∀ (l:List α) (i:Nat),(l.eraseIdx i).length<=l.length
 | [],_=>Nat.le_refl _
 | _::_,0=>Nat.le_succ _
 | _::r,i+1=>Nat.succ_le_succ (pU r i)
def bG0 {i j:Nat} {p:Addr×Addr} {xs:List PyData} {x:PyData} {k:Int} {t:Tok} (R:Mem S κ M h s) (ep:M.m[i]?=some p) (ei:h[i]?=some (.l xs)) (ej:ixN xs.length k=some j) (ex:xs[j]?=some x) (h1:-(2^63)<=k) (h2:k < 2^63):Wp S A (call (.builtin "list.pop") [.ref p.1,.int k t]) (Pw S κ M (h.set i (.l (xs.eraseIdx j))) (.d x)) E s:=by
 obtain ⟨us,n,e,hl,r⟩:=R.cel i p _ ep ei;have hlen:=r.length;obtain ⟨u,hu,ru⟩:=mY r ex;refine call_meets F.slot_list_pop ⟨_,e,rfl⟩ F.entry_list_pop (F.args_list_pop_2 _ _)
  (MeetsSeq.list_pop_at p.1 us.toArray n k t j u (fitsIndex_both h1 h2) (by rw [List.size_toArray,<- hlen];exact (rA ej).1) (by rw [<- Array.getElem?_toList];exact hu) (by rw [List.size_toArray];omega)) ⟨e,?_⟩
 have R1:=R.lset (t:=s.toks) (us':=us.eraseIdx j) (c:=.l (xs.eraseIdx j)) (f:=(·.eraseIdxIfInBounds j)) ep e (by show us.toArray.eraseIdxIfInBounds j=_;rw [List.eraseIdxIfInBounds_toArray]) fun h2 n' e'=>⟨_,n',e',Nat.le_trans (pU us j) hl,aD5 j r⟩;exact R1.pw ru
def bG1 {i:Nat} {p:Addr×Addr} {xs ys:List PyData} {b:Addr} {vs:List Value} {m:Nat} (R:Mem S κ M h s) (ep:M.m[i]?=some p) (ei:h[i]?=some (.l xs)) (eb:s.heap.get? b=some (cM vs m)) (rb:Reps' S M ys vs) (hz:xs.length+ys.length<=sizeLine) :
  Wp S A (call (.builtin "list.extend") [.ref p.1,.ref b]) (Pw S κ M (h.set i (.l (xs++ys))) (.d .none)) E s:=by
 obtain ⟨us,n,e,hl,r⟩:=R.cel i p _ ep ei;have h1:=r.length;have h2:=rb.length;have hsz:us.toArray.size+vs.toArray.size<=sizeLine:=by rw [List.size_toArray,List.size_toArray];omega
 have hlong:¬ (!us.toArray.isEmpty&&Builtin.List.listTooLong (us.toArray.size+vs.toArray.size))=true:=by
  unfold Builtin.List.listTooLong;rw [decide_eq_false (by omega),Bool.and_false];exact Bool.false_ne_true
 refine call_meets F.slot_list_extend ⟨_,e,rfl⟩ F.entry_list_extend (F.args_list_extend_2 _ _)
  (AutoSeq1.list_extend_list_list_0 p.1 us.toArray n b vs.toArray m hlong (by rw [List.size_toArray];omega) (by omega)) ⟨e,eb,?_⟩
 exact (R.lset (t:=s.toks) (us':=us++vs) (c:=.l (xs++ys)) ep e (by simp) fun h2 n' e'=>⟨_,n',e',by rw [List.length_append];omega,zE r rb⟩).pn
def aG9 {x:W} {xs:List PyData} {z:PyData} {u v:Value} {j:Nat} (hr:Room d A) (R:Mem S κ M h s) (r1:RepW S M (.d (.list xs)) u) (r2:RepW S M (.d z) v) (hp:(aN 64 (.list xs)&&aN 64 z)=true) (ej:xs.findIdx? (fun y=>PyData.eqv y z)=some j):Wp S A (call (.builtin "list.index") [u,v]) (Pw S κ M h (.d (.int j))) E s:=by
 rw [Bool.and_eq_true] at hp;obtain ⟨⟨as,z1⟩,s1⟩:=oT (h:=h) R r1 rfl hp.1;obtain ⟨⟨bs,z2⟩,s2⟩:=oT (h:=h) R r2 rfl hp.2;obtain ⟨p,us,n,rfl,ho,hz,rr⟩:=dS (h:=h) R r1 rfl;cases z1 with
 | @list _ o items m _ _ h1 h2 h3 h4 =>
  rw [ho] at h1;cases h1;injection h3 with h3 _
  subst h3;have cl:=SeqAt.canLay_of_shaped s1;rw [PyData.canLay0] at cl;have em:=SeqAt.readsAll_map xs _ _ cl h4;have hl:=rr.length;obtain ⟨hjl,hit,hno⟩:=List.findIdx?_eq_some_iff_getElem.mp ej;have sz:us.toArray.size=us.length:=List.size_toArray;have at_:∀ (m:Nat) (hm:m < us.toArray.size) (hm':m < xs.length),SeqAt.readOf s.heap us.toArray[m]=xs[m]:=fun m hm hm'=>by
   have:xs[m]?=(us.toArray.toList.map (SeqAt.readOf s.heap))[m]?:=by rw [em]
   rw [List.getElem?_map,List.getElem?_eq_getElem hm',Array.getElem?_toList,Array.getElem?_eq_getElem hm] at this;exact (Option.some.inj this).symm
  have hsl:(sizeLine:Int) < 2^63 - 1:=by decide
  refine call_meets PySem.F.slot_list_index ⟨_,ho,rfl⟩ PySem.F.entry_list_index (PySem.F.args_list_index_2 _ _)
   (SeqAt.list_indexAt p us.toArray n none #[] v (fun y=>PyData.eqv (SeqAt.readOf s.heap y) z) j (by omega) (by omega) ?_ ?_) ⟨ho,SeqAt.items_eqAt h4 z2 cl (SeqAt.canLay_of_shaped s2) ?_,R.pi⟩
  ·show PyData.eqv (SeqAt.readOf s.heap us.toArray[j]) z=true;rw [at_ j (by omega) hjl];exact hit
  ·intro m hm hmj;show PyData.eqv (SeqAt.readOf s.heap us.toArray[m]) z=false;rw [at_ m hm (by omega)];exact Bool.eq_false_iff.mpr (hno m hmj)
  ·exact room_in_shaped (xs:=xs) (A:=A) s2 hr.u65
end
def aH0 {prog:Program} {w:World} {A:Around} {E:Value->Shared->Prop} {s:Shared} {env:Env} {o:Expr} {name:Str} {apos pos:Pos} {args:List Expr} {Q:Value->Shared->Prop}
  (hbase:attributeBase o name env (eval o env)=eval o env)
  (hfew:((backTo pos (starEach args env)).all (fun x=>!x.1)&&(backToKw pos (keywordEach [] env)).all (fun x=>x.1.isSome)&&decide (args.length+([]:List Keyword).length+(if ([]:List Keyword).isEmpty then 0 else 1) < 30))=true)
  (hline:(apos.endLine==pos.line)=true)
  (h:wpAny (model prog w) A (eval o env) (fun ov s₁=>∀ pl,wpAny (model prog w) A (getMethod ov name pl) (fun fx s₂=>wpAny (model prog w) A (callWith pos fx.1 fx.2 (backTo pos (starEach args env)) (backToKw pos (keywordEach [] env))) Q E s₂) E s₁) E s) :
  wpAny (model prog w) A (eval (.Call (.Attribute o name apos) args [] pos) env) Q E s:=by
 rw [arm_eval_Call,hbase];refine wpAny_bind (wpAny_mono h (fun ov s₁ h₁=>?_) fun _ _ e=>e);refine wpAny_bind (wpAny_standAt ?_);have hform:methodCallForm (args.length+([]:List Keyword).length) (backTo pos (starEach args env)) (backToKw pos (keywordEach [] env))=true:=hfew;have hpos:methodCallPos true o env apos pos=pure pos:=by unfold methodCallPos;simp [hline]
 unfold methodCall;rw [hform];exact wpAny_bind (wpAny_holding (wpAny_mono (h₁ _) (fun fx s₂ h₂=>wpAny_bind (wpAny_of_eq hpos h₂)) fun _ _ x=>x))
section
variable {X:Cx} {st:Sta} {d:Nat} {v:Evs} {κ:Kp} {M:Mp} {δ:DSt} {h h':aA} {s:Shared} {a o:Expr} {es:List Expr} {pos p apos:Pos} {x m:Str} {w:W}
def Fra.kin (F:Fra X κ M δ):X.S.K.In X.S.base:=F.ok.mod.kin
theorem xI (S:Snd v) (G:Good X st d) (l:List Nat):∀ (es:List Expr) (n:Nat),SA X es (iZ v st l n es)
 | [],n=>fun pos _ _ _ _ _ _ _ R F e=>by cases e;exact Calls.spliced_nil ⟨_,.refl,R,.nil⟩
 | a::es,n=>by
  intro pos κ M δ h s ws h' R F e;have e:(if aH a=true then xb (if (l.contains n&&!aE1 a)=true then bB (v.F st a) else v.E st a) fun w=>xb (iZ v st l (n+1) es) fun ws=>aD (w::ws) else xno) δ h=some (ws,h'):=e
  by_cases hs:aH a=true
  ·rw [if_pos hs] at e;obtain ⟨x,h1,e1,e⟩:=aG e;obtain ⟨y,h2,e2,e⟩:=aG e;cases e;have ha:SE X a (if (l.contains n&&!aE1 a)=true then bB (v.F st a) else v.E st a):=by
    split
    ·exact pK (S.F G a)
    ·exact S.E G a
   rw [bZ a hs];show Wp _ _ (spliced ((false,eval a X.env)::backTo pos (starEach es X.env))) _ _ s;refine Calls.spliced_cons (thn (ha R F e1) fun u s1 ⟨M1,l1,R1,r1⟩=>?_);exact thn (xI S G l es (n+1) pos R1 (F.go l1) e2) fun us s2 ⟨M2,l2,R2,r2⟩=>⟨M2,l1.trans l2,R2,.cons (r1.go l2) r2⟩
  ·rw [if_neg hs] at e;cases e
theorem nP {v:Evs} {st:Sta} {l:List Nat}:∀ {es:List Expr} {n:Nat} {δ:DSt} {h:aA} {r:List W×aA},iZ v st l n es δ h=some r->es.all aH=true
 | [],_,_,_,_,_=>rfl
 | a::es,n,δ,h,r,e=>by
  have e:(if aH a=true then xb (if (l.contains n&&!aE1 a)=true then bB (v.F st a) else v.E st a) fun w=>xb (iZ v st l (n+1) es) fun ws=>aD (w::ws) else xno) δ h=some r:=e
  by_cases hs:aH a=true
  ·rw [if_pos hs] at e;obtain ⟨x,h1,e1,e⟩:=aG e;obtain ⟨y,h2,e2,e⟩:=aG e;rw [List.all_cons,hs,nP e2];rfl
  ·rw [if_neg hs] at e;cases e
def aH1 {m:XFW} {fa:XR (List W)} (G:Good X st d) (ht:dF st x=true) (hm:FnG X.S d x m) (hA:SA X (a::es) fa) (hstar:∀ {δ h r},fa δ h=some r->(a::es).all aH=true):SE X (.Call (.Name x p) (a::es) [] pos) (xb fa fun ws=>fun _ h=>m ws h):=by
 intro κ M δ h s w h' R F e;obtain ⟨hn,hg⟩:=nH G ht;obtain ⟨ws,h1,e1,e⟩:=aG e;have hst:=hstar e1;rw [List.all_cons,Bool.and_eq_true] at hst;rcases hm with z | ⟨f,fd,ps,mg,kp,hb,FF⟩
 ·rw [z] at e;cases e
 refine wpAny_Call_Name_kw (fT F R hg mg hn ?_);refine PySem.W.callWith_K (h₀:=X.S.base) F.kin kp (thn (hA pos R F e1) fun us s1 ⟨M1,l1,R1,r1⟩=>⟨F.kin.keeps R1.bk,?_⟩) (bZ a hst.1) (cA pos es hst.2);exact thn (aG7 FF G.rm F.frs hb F.ok.mod ((F.go l1).size R1) R1 r1 e) fun _ _ q=>q.go l1
def bU9 (S:Snd v) (G:Good X st d) {m:XFW} (ht:dF st x=true) (hm:FnG X.S d x m):SE X (.Call (.Name x p) (a::es) [] pos) (xb (aV v st (a::es)) fun ws=>fun _ h=>m ws h):=aH1 G ht hm (cD S G _) eY
def cK9 (S:Snd v) (G:Good X st d) {C:Addr} {m:XFW} (ht:dF st x=true) (hm:st.ob.cls x=some (C,m)):SE X (.Call (.Name x p) (a::es) [] pos) (xb (aV v st (a::es)) fun ws=>fun _ h=>xMk C m ws h):=by
 intro κ M δ h s w h' R F e;obtain ⟨hn,hg⟩:=nH G ht;obtain ⟨ws,h1,e1,e⟩:=aG e;have hst:=eY e1;rw [List.all_cons,Bool.and_eq_true] at hst;rcases G.cls _ _ _ hm with z | ⟨k,f,fd,ps,hk,K,FF,mg,hb⟩
 ·unfold xMk at e;rw [z] at e;cases e
 refine wpAny_Call_Name_kw (fT F R hg mg hn ?_);refine PySem.W.callWith_K (h₀:=X.S.base) F.kin K.kp (thn (cD S G _ pos R F e1) fun us s1 ⟨M1,l1,R1,r1⟩=>⟨F.kin.keeps R1.bk,?_⟩) (bZ a hst.1) (cA pos es hst.2);exact thn (aG8 K FF (G.rm.mono hk) F.frs hb F.ok.mod ((F.go l1).size R1) R1 r1 e) fun _ _ q=>q.go l1
theorem tO (env:Env) (cpos:Pos):∀ (es:List Expr),es.all aH=true->(backTo cpos (starEach es env)).all (fun x=>!x.1)=true
 | [],_=>rfl
 | e::es,h=>by
  rw [List.all_cons,Bool.and_eq_true] at h;have t:starEach (e::es) env=(false,eval e env)::starEach es env:=by
   have h1:=h.1;cases e<;>first | rfl | cases h1
  rw [t];exact tO env cpos es h.2
def vK (hs:(a::es).all aH=true) (hl:(a::es).length < 29) (env:Env) (cpos:Pos) :
  ((backTo cpos (starEach (a::es) env)).all (fun x=>!x.1)&&(backToKw cpos (keywordEach [] env)).all (fun x=>x.1.isSome)
   && decide ((a::es).length+([]:List Keyword).length+(if ([]:List Keyword).isEmpty then 0 else 1) < 30))=true:=by
 rw [tO _ _ _ hs];have:(a::es).length+0+0 < 30:=by omega
 show (true&&true&&decide _)=true;simp only [Bool.true_and,decide_eq_true_eq];exact this
def rL (ho:iA o=true) (m:Str) (env:Env):attributeBase o m env (eval o env)=eval o env:=by
 cases o<;>first | rfl | cases ho
def zR (ho:aE4 o=true) (m:Str) (env:Env):attributeBase o m env (eval o env)=eval o env:=by
 cases o<;>first | rfl | (cases ho;done) | skip
 rename_i f a k p;cases f<;>first | (cases ho;done) | skip
 cases a<;>first | (cases ho;done) | skip
 cases k<;>first | (cases ho;done) | rfl
def cL0 (S:Snd v) (G:Good X st d) {C:Addr} {g:XFW} (hm:st.ob.om m=some (C,g)) (ho:aE4 o=true) (hl:(apos.endLine==pos.line)=true) (hn:(a::es).length < 29) (hst:(a::es).all aH=true) :
  SE X (.Call (.Attribute o m apos) (a::es) [] pos) (xMo v st o m C g (a::es)):=by
 intro κ M δ h s w h' R F e;obtain ⟨x,h1,e1,e⟩:=aG e;have hst':=hst;rw [List.all_cons,Bool.and_eq_true] at hst';rcases x with _ | j
 ·cases e
 dsimp only at e;split at e
 ·rename_i C' fs ej;obtain ⟨⟨hC,hlk⟩,e5⟩:=aF e;clear e;subst hC;obtain ⟨⟨ws,h2⟩,e2,e⟩:=bind_some e5;rcases G.om _ _ _ hm with z | ⟨c,f,fd,ps,hM,FF,hb⟩
  ·rw [z] at e;cases e
  refine aH0 (zR ho _ _) (vK hst hn _ _) hl (thn (S.E G o R F e1) fun u s1 ⟨M1,l1,R1,r1⟩ pl=>?_);obtain ⟨p,ep,rfl⟩:=id r1;obtain ⟨mA,O,r,_⟩:=rK R1 ep ej;refine aF6 (F.kin.keeps R1.bk) O (c.get m) hM.at_ hM.fn (RelO.none_of (by rw [<- hlk];exact r m)) ?_;refine PySem.W.callWith_K (first:=[.ref p.1]) (h₀:=X.S.base) F.kin hM.kp (thn (cD S G _ pos R1 (F.go l1) e2) fun us s2 ⟨M2,l2,R2,r2⟩=>⟨F.kin.keeps R2.bk,?_⟩) (bZ a hst'.1) (cA pos es hst'.2);exact thn (aG7 (us:=.ref p.1::us) FF G.rm F.frs hb F.ok.mod (((F.go l1).go l2).size R2) R2 (.cons (r1.go l2) r2) e) fun _ _ q=>q.go (l1.trans l2)
 ·cases e
def bV0 (S:Snd v) (G:Good X st d) {f:Str} (ho:iA o=true):SE X (.Attribute o f pos) (bR7 v st o f):=by
 intro κ M δ h s w h' R F e;obtain ⟨x,h1,e1,e⟩:=aG e;refine Attribute_any_ (thn (S.E G o R F e1) fun u s1 ⟨M1,l1,R1,r1⟩=>?_) (by rw [arm_eval_Attribute,rL ho]);rcases x with _ | j
 ·cases e
 dsimp only at e;split at e
 ·rename_i C fs ej;obtain ⟨hf,e⟩:=aF e;obtain ⟨w2,e3,e4⟩:=map_some e;cases e4;obtain ⟨h5,h6⟩:=G.fo C f hf;obtain ⟨p,ep,rfl⟩:=r1;exact thn (vI F.kin R1 ep ej h5 h6 e3) fun _ _ q=>q.go l1
 ·cases e
theorem bV1 (S:Snd v) (G:Good X st d) {f:Str} {b:Expr} {fb:XR W} (hb:SE X b fb) (hs:swapsWith b (some (.Attribute o f apos)) pos.line X.env=pure false):SS X (.Assign [.Attribute o f apos] b pos) fun δ h=>(fb δ h).bind fun p=>(v.E st o δ p.2).bind fun q=>match q.1 with
 | .c j=>(match q.2[j]? with
  | some (.o C fs)=>if st.ob.fo C f=true/\fs.length < 1000 then some (.nx δ,q.2.set j (.o C (fF f p.1 fs))) else none
  | _=>none)
 | _=>none:=by
 intro κ M δ h s fl h' R F e;obtain ⟨⟨w,h1⟩,e1,e⟩:=bind_some e;obtain ⟨⟨x,h2⟩,e2,e⟩:=bind_some e;refine plainObj_wpAny_Assign_Attribute (thn (hb R F e1) fun u s1 ⟨M1,l1,R1,r1⟩=>thn (S.E G o R1 (F.go l1) e2) fun ov s2 ⟨M2,l2,R2,r2⟩=>?_) hs;rcases x with _ | j
 ·cases e
 dsimp only at e;split at e
 ·rename_i C fs ej;obtain ⟨⟨hf,hlt⟩,e⟩:=aF e;cases e;obtain ⟨h5,h6⟩:=G.fo C f hf;obtain ⟨p,ep,rfl⟩:=r2;exact vJ F.kin R2 ep ej h5 h6 hlt (r1.go l2) fun s3 R3=>⟨κ,M2,.refl,l1.trans l2,R3,F.go (l1.trans l2)⟩
 ·cases e
def nQ (S:Snd v) (G:Good X st d) {f:Value} {ws:List W} {h1:aA} {Q:Value->Shared->Prop} (hx:(dF st x&&(slot st x).isNone&&st.bl.contains x)=true) (hv:bootBuiltins x=some f) (hf:(∃ i,f=.builtin i)\/∃ i,f=.type i) (R:Mem X.S κ M h s) (F:Fra X κ M δ) (e:aV v st (a::es) δ h=some (ws,h1))
  (q:∀ {M1 us s1},Le M M1->Mem X.S κ M1 h1 s1->RepWs X.S M1 ws us->Wp X.S X.A (call f us) Q NE s1):Wp X.S X.A (eval (.Call (.Name x p) (a::es) [] pos) X.env) Q NE s:=by
 obtain ⟨h1,h2,h3⟩:=eO G hx;have hst:=eY e;rw [List.all_cons,Bool.and_eq_true] at hst;refine wpAny_Call_Name_kw (eK F R h2 h3 hv h1 ?_);rcases hf with ⟨i,rfl⟩ | ⟨i,rfl⟩
 ·exact PyProof.Rows.callWith_builtin1 (thn (cD S G _ pos R F e) fun us s1 ⟨M1,l1,R1,r1⟩=>q l1 R1 r1) (bZ a hst.1) (cA pos es hst.2)
 ·exact PyProof.Rows.callWith_type1 (thn (cD S G _ pos R F e) fun us s1 ⟨M1,l1,R1,r1⟩=>q l1 R1 r1) (bZ a hst.1) (cA pos es hst.2)
def rM (F:Fra X κ M δ) (R:Mem X.S κ M h s):(s.heap.objs.size==sysModules)=false:=by
 have h:mainGlobals < s.heap.objs.size:=(F.ok.mod.glob.keeps R.bk).lt;have:sysModules < s.heap.objs.size:=Nat.lt_trans (by decide) h;exact beq_eq_false_iff_ne.mpr (Nat.ne_of_gt this)
def bV2 (S:Snd v) (G:Good X st d) {f:Value} {g:List W->aA->Option (W×aA)} (hx:(dF st x&&(slot st x).isNone&&st.bl.contains x)=true) (hv:bootBuiltins x=some f) (hf:(∃ i,f=.builtin i)\/∃ i,f=.type i) (hg:BfS X.S f g):SE X (.Call (.Name x p) (a::es) [] pos) (xb (aV v st (a::es)) fun ws=>fun _ h=>g ws h):=by
 intro κ M δ h s w h' R F e;obtain ⟨ws,h1,e1,e⟩:=aG e;exact nQ S G hx hv hf R F e1 fun l1 R1 r1=>thn (hg G.rm F.kin (rM (F.go l1) R1) R1 r1 e) fun _ _ q=>q.go l1
theorem bV3 (S:Snd v) (G:Good X st d) (hx:(dF st "list"&&(slot st "list").isNone&&st.bl.contains "list")=true):SF X (.Call (.Name "list" p) (a::es) [] pos) (xb (aV v st (a::es)) fun ws=>fun _ h=>(match ws with
  | [w]=>(match ref h w with
   | some (.list xs)=>some (xs,h)
   | some (.tuple xs)=>some (xs,h)
   | _=>none)
  | _=>none)):=by
 intro κ M δ h s w h' R F e;obtain ⟨ws,h1,e1,e⟩:=aG e;refine nQ (f:=.type "list") S G hx (by decide +kernel) (.inr ⟨_,rfl⟩) R F e1 fun {M1 us s1} l1 R1 r1=>?_;rcases ws with _ | ⟨x,_ | ⟨_,_⟩⟩
 ·cases e
 ·obtain ⟨u,rfl,ru⟩:=w1 r1;dsimp only at e;split at e
  ·rename_i ex;cases e;exact thn (aF3 R1 ru (.inl ex)) fun _ _ q=>q.go l1
  ·rename_i ex;cases e;exact thn (aF3 R1 ru (.inr ex)) fun _ _ q=>q.go l1
  ·cases e
 ·cases e
def aT3 {T:Str} {Ts:String} (h:aR7 T=some Ts):bootBuiltins T=some (.type Ts)/\nG Ts:=by
 unfold aR7 at h;split at h
 ·rename_i e;cases h;subst e;exact ⟨by decide +kernel,aS3⟩
 split at h
 ·rename_i e;cases h;subst e;exact ⟨by decide +kernel,aF4⟩
 split at h
 ·rename_i e;cases h;subst e;exact ⟨by decide +kernel,aS4⟩
 split at h
 ·rename_i e;cases h;subst e;exact ⟨by decide +kernel,zL⟩
 split at h
 ·rename_i e;cases h;subst e;exact ⟨by decide +kernel,aF5⟩
 ·cases h
def bV4 (S:Snd v) (G:Good X st d) {T:Str} {Ts:String} {q:Pos} (hx:(dF st "isinstance"&&(slot st "isinstance").isNone&&st.bl.contains "isinstance")=true) (hs:aH a=true) (hT:(dF st T&&(slot st T).isNone&&st.bl.contains T)=true) (ht:aR7 T=some Ts) :
  SE X (.Call (.Name "isinstance" p) [a,.Name T q] [] pos) (xb (v.E st a) fun w=>fun _ h=>(ref h w).bind fun d=>some (.d (.bool (isi d Ts)),h)):=by
 intro κ M δ h s w h' R F e;obtain ⟨x,h1,e1,e⟩:=aG e;obtain ⟨z,ez,e⟩:=bind_some e;cases e;obtain ⟨n1,n2,n3⟩:=eO G hx;obtain ⟨m1,m2,m3⟩:=eO G hT;obtain ⟨hb,hk⟩:=aT3 ht;refine wpAny_Call_Name_kw (eK (u:=.builtin "isinstance") F R n2 n3 (by decide +kernel) n1 ?_);refine PyProof.Rows.callWith_builtin1 ?_ (bZ a hs) (cA pos [.Name T q] rfl);rw [bZ a hs];show Wp _ _ (spliced ((false,eval a X.env)::backTo pos (starEach [.Name T q] X.env))) _ _ s;refine Calls.spliced_cons (thn (S.E G a R F e1) fun u s1 ⟨M1,l1,R1,r1⟩=>?_);rw [bZ (X:=X) (es:=[]) (.Name T q) rfl];show Wp _ _ (spliced ((false,eval (.Name T q) X.env)::[])) _ _ s1;refine Calls.spliced_cons (eK (F.go l1) R1 m2 m3 hb m1 (Calls.spliced_nil ?_));exact thn (bE6 F.kin hk R1 r1 ez) fun _ _ q=>q.go l1
def rO (S:Snd v) (G:Good X st d) {id:String} {x:W} {h1 h2:aA} {ws:List W} {Q:Value->Shared->Prop} (slot:Slot "list" m id) (hty:typeOf (.builtin id)=pure (.type "method_descriptor")) (ho:iA o=true) (hl:(apos.endLine==pos.line)=true) (hn:(a::es).length < 29)
  (R:Mem X.S κ M h s) (F:Fra X κ M δ) (e1:v.E st o δ h=some (x,h1)) (et:(∃ xs,DL.ref h1 x=some (.list xs))\/∃ i xs,x=.c i/\h1[i]?=some (.r xs)) (e2:aV v st (a::es) δ h1=some (ws,h2))
  (q:∀ {M2 u us s2},Le M M2->Mem X.S κ M2 h2 s2->RepW X.S M2 x u->RepWs X.S M2 ws us->Wp X.S X.A (call (.builtin id) (u::us)) Q NE s2):Wp X.S X.A (eval (.Call (.Attribute o m apos) (a::es) [] pos) X.env) Q NE s:=by
 have hst:=eY e2;have hst':=hst;rw [List.all_cons,Bool.and_eq_true] at hst';refine wpAny_Call_method_late (rL ho _ _) (vK hst hn _ _) hl rfl (thn (S.E G o R F e1) fun u s1 ⟨M1,l1,R1,r1⟩=>?_);have ty:∃ b us n,u=.ref b/\s1.heap.get? b=some (cM us n):=by
  obtain ⟨xs,ex⟩ | ⟨i,xs,rfl,ei⟩:=et
  ·obtain ⟨b,us,n,rfl,ho,_⟩:=dS R1 r1 ex;exact ⟨b,us,n,rfl,ho⟩
  ·obtain ⟨p,ep,rfl⟩:=r1;obtain ⟨us,n,ho,_⟩:=R1.cel i p _ ep ei;exact ⟨_,us,n,rfl,ho⟩
 obtain ⟨b,us,n,rfl,hob⟩:=ty;refine ⟨"list",id,PySem.F.plainAttrs_list,slot,hty,(cY hob).isList.typeIs,fun c ec=>by cases ec;exact ⟨_,hob,rfl⟩,?_⟩;have hA:=cD S G _ pos R1 (F.go l1) e2;rw [bZ a hst'.1] at hA ⊢;refine Calls.callWith_builtin (by show (false||(backTo pos (starEach es X.env)).any (·.1))=false;rw [cA pos es hst'.2]<;>rfl) (Calls.evalArgs_plain ?_);exact thn hA fun us s2 ⟨M2,l2,R2,r2⟩=>q (l1.trans l2) R2 (r1.go l2) r2
end
end DL

namespace PySem
open PyProof.Rows
section
variable {prog:Program} {w:World} {A:Around} {E:Value->Shared->Prop} {s:Shared}
def jR {it t:Addr} {i:Nat} {items:Array Value} {x:Value} {Q:Value->Shared->Prop} (hit:s.heap.IsTupleIter it t i) (hl:s.heap.IsTuple t items) (hx:items[i]?=some x)
  (hQ:∀ h',h'.IsTupleIter it t (i+1)->Heap.SameBut it s.heap h'->Q x { s with heap:=h' }):wpAny (model prog w) A (Builtin.SmallTypes.nextOf (.ref it)) Q E s:=by
 obtain ⟨o,ho,hc,hd⟩:=id hit;obtain ⟨ol,hol,hlc,nl,hdl⟩:=hl;unfold Builtin.SmallTypes.nextOf;refine wpAny_bind (wpAny_callSpecial?_slot (hit.typeIs) F.slot_tuple_iterator_next (wpAny_call_entry F.slot_tuple_iterator_next hit.typeIs F.entry_tuple_iterator_next ?_ (F.args_tuple_iterator_next_1 _)));refine wpAny_bind (wpAny_pure (a:=(Value.ref it,[])) ?_);refine wpAny_bind (wpAny_field ho hd rfl ?_);rw [if_neg (by exact Bool.false_ne_true)];refine wpAny_bind (wpAny_field ho hd rfl ?_);refine wpAny_bind (wpAny_seqItems hol hdl ?_);show wpAny _ _ (match items[((i:Int)).toNat]? with | some x=>_ | none=>_) _ _ _;rw [Int.toNat_natCast,hx];refine wpAny_bind (wpAny_setField ho hd (by simp) ?_);refine wpAny_pure ⟨x,rfl,wpAny_pure (hQ _ ⟨_,Heap.get?_update_self _ ho (Obj.isFreed_of_fields (Obj.data_mapFields hd _)),(Obj.cls_mapFields o _).trans hc,?_⟩ (Heap.SameBut.update _ _ _))⟩;rw [Obj.data_mapFields hd];rfl
def kZ {it t:Addr} {i:Nat} {items:Array Value} {Q:Value->Shared->Prop} (hh:A.handled=none) (hit:s.heap.IsTupleIter it t i) (hl:s.heap.IsTuple t items) (hx:items[i]?=none)
  (hE:∀ h' e,Heap.ExtBut it s.heap h'->(∃ o,h'.get? e=some o/\o.cls=.type "StopIteration")->E (.ref e) { s with heap:=h' }):wpAny (model prog w) A (Builtin.SmallTypes.nextOf (.ref it)) Q E s:=by
 obtain ⟨o,ho,hc,hd⟩:=id hit;obtain ⟨ol,hol,hlc,nl,hdl⟩:=hl;unfold Builtin.SmallTypes.nextOf;refine wpAny_bind (wpAny_callSpecial?_slot (hit.typeIs) F.slot_tuple_iterator_next (wpAny_call_entry F.slot_tuple_iterator_next hit.typeIs F.entry_tuple_iterator_next ?_ (F.args_tuple_iterator_next_1 _)));refine wpAny_bind (wpAny_pure (a:=(Value.ref it,[])) ?_);refine wpAny_bind (wpAny_field ho hd rfl ?_);rw [if_neg (by exact Bool.false_ne_true)];refine wpAny_bind (wpAny_field ho hd rfl ?_);refine wpAny_bind (wpAny_seqItems hol hdl ?_);show wpAny _ _ (match items[((i:Int)).toNat]? with | some x=>_ | none=>_) _ _ _;rw [Int.toNat_natCast,hx];refine wpAny_bind (wpAny_rule ?_);refine wpAny_bind (wpAny_setField ho hd (by simp) ?_);unfold Builtin.SmallTypes.stopIteration newExc;refine wpAny_bind (wpAny_bind (wpAny_newObj_type ?_ (by show (([]:List Value).toArray.size<=sizeLine);simp)));refine wpAny_bind (wpAny_pure (a:=Value.none) ?_);refine wpAny_newObj_type ?_ (sizeOk_excFields ..);unfold raiseNew;refine wpAny_bind (wpAny_handled ?_);rw [show A.in1.handled=none from hh];refine wpAny_throw (hE _ _ (fun b o' hb e=>?_) ⟨_,Heap.get?_push_size _ rfl,rfl⟩);refine Heap.get?_push_of_some _ (Heap.get?_push_of_some _ ?_);rw [(Heap.SameBut.update s.heap it _).2 b hb];exact e
noncomputable def SqAt:Bool->Heap->Addr->Array Value->Prop
 | true,h,l,xs=>h.IsTuple l xs
 | false,h,l,xs=>h.IsList l xs
noncomputable def ItAt:Bool->Heap->Addr->Addr->Nat->Prop
 | true,h,it,l,k=>h.IsTupleIter it l k
 | false,h,it,l,k=>h.IsListIter it l k
def jS (b:Bool) (l:Addr):Obj:={ cls:=.type (if b=true then "tuple_iterator" else "list_iterator"),data:=.fields #[.ref l,.int 0 0] }
def SqAt.keep {b:Bool} {h h':Heap} {l:Addr} {xs:Array Value} (x:SqAt b h l xs) (k:∀ o,h.get? l=some o->h'.get? l=some o):SqAt b h' l xs:=by
 cases b<;>exact let ⟨o,h1,h2⟩:=x;⟨o,k o h1,h2⟩
def ItAt.keep {b:Bool} {h h':Heap} {it l:Addr} {i:Nat} (x:ItAt b h it l i) (k:∀ o,h.get? it=some o->h'.get? it=some o):ItAt b h' it l i:=by
 cases b<;>exact let ⟨o,h1,h2⟩:=x;⟨o,k o h1,h2⟩
def ItAt.new {b:Bool} {h:Heap} {it l:Addr} (e:h.get? it=some (jS b l)):ItAt b h it l 0:=by
 cases b<;>exact ⟨_,e,rfl,rfl⟩
def fB {b:Bool} {l:Addr} {xs:Array Value} {Q:Value->Shared->Prop} (hl:SqAt b s.heap l xs) (h:Q (.ref s.heap.objs.size) { s with heap:=s.heap.push (jS b l) }):wpAny (model prog w) A (pyIter (.ref l)) Q E s:=by
 cases b
 ·exact wpAny_pyIter_list hl h
 ·exact wpAny_pyIter_tuple hl h
def fV {b:Bool} {it l:Addr} {i:Nat} {items:Array Value} {x:Value} {Q:Value->Shared->Prop} (hit:ItAt b s.heap it l i) (hl:SqAt b s.heap l items) (hx:items[i]?=some x)
  (hQ:∀ h',ItAt b h' it l (i+1)->Heap.SameBut it s.heap h'->Q x { s with heap:=h' }):wpAny (model prog w) A (Builtin.SmallTypes.nextOf (.ref it)) Q E s:=by
 cases b
 ·exact wpAny_nextOf_list_item hit hl hx hQ
 ·exact jR hit hl hx hQ
def jC {b:Bool} {it l:Addr} {i:Nat} {items:Array Value} {Q:Value->Shared->Prop} (hh:A.handled=none) (hit:ItAt b s.heap it l i) (hl:SqAt b s.heap l items) (hx:items[i]?=none)
  (hE:∀ h' e,Heap.ExtBut it s.heap h'->(∃ o,h'.get? e=some o/\o.cls=.type "StopIteration")->E (.ref e) { s with heap:=h' }):wpAny (model prog w) A (Builtin.SmallTypes.nextOf (.ref it)) Q E s:=by
 cases b
 ·exact wpAny_nextOf_list_end hh hit hl hx hE
 ·exact kZ hh hit hl hx hE
abbrev zH1 (b:Bool) (h:Heap) (l1:Addr):Heap:=h.push (jS b l1)
abbrev zH2 (b c:Bool) (h:Heap) (l1 l2:Addr):Heap:=(zH1 b h l1).push (jS c l2)
abbrev zH3 (b c:Bool) (h:Heap) (l1 l2:Addr):Heap:=(zH2 b c h l1 l2).push { cls:=.type "tuple",data:=.seq #[.ref h.objs.size,.ref (zH1 b h l1).objs.size] }
abbrev zH4 (b c:Bool) (h:Heap) (l1 l2:Addr):Heap:=(zH3 b c h l1 l2).push { cls:=.type "tuple",data:=.seq #[.none,.none] }
abbrev zH5 (b c:Bool) (h:Heap) (l1 l2:Addr):Heap:=(zH4 b c h l1 l2).push { cls:=.type "zip",data:=.fields #[.none,.bool false,.bool false,.ref (zH2 b c h l1 l2).objs.size,.ref (zH3 b c h l1 l2).objs.size] }
def aT4 (b c:Bool) (l1 l2:Addr) (xs ys:Array Value):Meets (Builtin.«zip.__new__» { pos:=[.type "zip",.ref l1,.ref l2] }) fun _ R s=>SqAt b s.heap l1 xs/\SqAt c s.heap l2 ys /\
  R (.ok (.ret (.ref (zH4 b c s.heap l1 l2).objs.size))) { s with heap:=zH5 b c s.heap l1 l2 }:=by
 refine Meets.of_wp fun prog w A R s h=>?_;obtain ⟨h1,h2,h⟩:=h;unfold Builtin.«zip.__new__»;refine wpAny_bind (wpAny_pure (a:=(Value.type "zip",[Value.ref l1,Value.ref l2])) ?_);dsimp only;rw [if_neg (by decide)];refine wpAny_bind ?_;unfold Builtin.SmallTypes.iterAll;refine wpAny_bind ?_;rw [List.forIn_cons];refine wpAny_bind (wpAny_bind (wpAny_holding (fB h1 (wpAny_pure ?_))));dsimp only;rw [List.forIn_cons];refine wpAny_bind (wpAny_bind (wpAny_holding (fB (h2.keep fun o e=>Heap.get?_push_of_some _ e) (wpAny_pure ?_))));dsimp only;rw [List.forIn_nil];refine wpAny_pure (wpAny_pure ?_);refine wpAny_bind (wpAny_newObj_type ?_ (by show (_:Array Value).size<=sizeLine;simp [sizeLine_eq]));refine wpAny_bind (wpAny_newObj_type ?_ (by show (_:Array Value).size<=sizeLine;simp [sizeLine_eq]));refine wpAny_bind ?_;unfold Builtin.SmallTypes.newRecord;refine wpAny_newObj_type (wpAny_pure ⟨_,rfl,h⟩) ?_;simp [sizeOk,Builtin.SmallTypes.ownedTupleFields,sizeLine_eq]
def aH2 {b c:Bool} {l1 l2:Addr} {xs ys:Array Value} {Q:Value->Shared->Prop} (h1:SqAt b s.heap l1 xs) (h2:SqAt c s.heap l2 ys)
  (h:∀ h',IsZip h' (s.heap.objs.size+4) (s.heap.objs.size+2) (s.heap.objs.size+3) .none->IsPair h' (s.heap.objs.size+2) (.ref s.heap.objs.size) (.ref (s.heap.objs.size+1))->IsPair h' (s.heap.objs.size+3) .none .none ->
   ItAt b h' s.heap.objs.size l1 0->ItAt c h' (s.heap.objs.size+1) l2 0->h'.objs.size=s.heap.objs.size+5->(∀ a o,s.heap.get? a=some o->h'.get? a=some o)->Q (.ref (s.heap.objs.size+4)) { s with heap:=h' }) :
  wpAny (model prog w) A (call (.type "zip") [.ref l1,.ref l2]) Q E s:=by
 have z1:(zH1 b s.heap l1).objs.size=s.heap.objs.size+1:=Heap.size_push ..;have z2:(zH2 b c s.heap l1 l2).objs.size=s.heap.objs.size+2:=by rw [zH2,Heap.size_push,z1]
 have z3:(zH3 b c s.heap l1 l2).objs.size=s.heap.objs.size+3:=by rw [zH3,Heap.size_push,z2]
 have z4:(zH4 b c s.heap l1 l2).objs.size=s.heap.objs.size+4:=by rw [zH4,Heap.size_push,z3]
 have z5:(zH5 b c s.heap l1 l2).objs.size=s.heap.objs.size+5:=by rw [zH5,Heap.size_push,z4]
 have g5:(zH5 b c s.heap l1 l2).get? (zH4 b c s.heap l1 l2).objs.size=_:=Heap.get?_push_size _ rfl;have g4:(zH5 b c s.heap l1 l2).get? (zH3 b c s.heap l1 l2).objs.size=_:=Heap.get?_push_of_some _ (Heap.get?_push_size _ rfl);have g3:(zH5 b c s.heap l1 l2).get? (zH2 b c s.heap l1 l2).objs.size=_:=Heap.get?_push_of_some _ (Heap.get?_push_of_some _ (Heap.get?_push_size _ rfl));have g2:(zH5 b c s.heap l1 l2).get? (zH1 b s.heap l1).objs.size=_:=Heap.get?_push_of_some _ (Heap.get?_push_of_some _ (Heap.get?_push_of_some _ (Heap.get?_push_size _ rfl)));have g1:(zH5 b c s.heap l1 l2).get? s.heap.objs.size=_:=Heap.get?_push_of_some _ (Heap.get?_push_of_some _ (Heap.get?_push_of_some _ (Heap.get?_push_of_some _ (Heap.get?_push_size _ rfl))));refine callType_new F.called_zip (by decide) (F.typeCall_zip_2 _ _) (F.newCall_zip_2 _ _) (fun obj=>F.args_object_init_3 obj _ _) F.entry_zip_new (aT4 b c l1 l2 xs ys) ⟨h1,h2,?_⟩;have q:=h (zH5 b c s.heap l1 l2) (by rw [z4,z3,z2] at g5;exact g5) (by rw [z2,z1] at g3;exact g3) (by rw [z3] at g4;exact g4) (.new g1) (.new (by rw [z1] at g2;exact g2)) z5
  (fun a o e=>Heap.get?_push_of_some _ (Heap.get?_push_of_some _ (Heap.get?_push_of_some _ (Heap.get?_push_of_some _ (Heap.get?_push_of_some _ e)))))
 rw [<- z4] at q;exact ⟨⟨_,g5,rfl⟩,q⟩
def rP {h:Heap} {z TI TO:Addr} {f0 x:Value} (hz:IsZip h z TI TO f0):IsZip (h.update z (Obj.mapFields fun a=>a.setIfInBounds 0 x)) z TI TO x:=by
 refine (Heap.get?_update_self _ hz (Obj.isFreed_of_fields (Obj.data_mapFields rfl _))).trans ?_;rfl
def aH3 {h:Heap} {z TI TO:Addr} {f0:Value} (hz:IsZip h z TI TO f0):IsZip (h.update z (Obj.mapFields fun a=>a.setIfInBounds 1 (.bool false))) z TI TO f0:=by
 refine (Heap.get?_update_self _ hz (Obj.isFreed_of_fields (Obj.data_mapFields rfl _))).trans ?_;rfl
structure ZApart (z TI TO i1 i2:Addr):Prop where
 TIz:TI≠z
 TOz:TO≠z
 i1z:i1≠z
 i2z:i2≠z
 TITO:TI≠TO
 TOi1:TO≠i1
 TOi2:TO≠i2
 TIi1:TI≠i1
 TIi2:TI≠i2
 i12:i1≠i2
def zS {b c:Bool} {z TI TO i1 i2 l1 l2:Addr} {k:Nat} {xs ys:Array Value} {x y u v:Value} {Q:Value->Shared->Prop} (D:ZApart z TI TO i1 i2) (hz:IsZip s.heap z TI TO .none) (hTI:IsPair s.heap TI (.ref i1) (.ref i2)) (hTO:IsPair s.heap TO u v)
  (h1:ItAt b s.heap i1 l1 k) (h2:ItAt c s.heap i2 l2 k) (q1:SqAt b s.heap l1 xs) (q2:SqAt c s.heap l2 ys) (nz1:l1≠z) (nz2:l2≠z) (nT2:l2≠TO) (n21:l2≠i1) (hx:xs[k]?=some x) (hy:ys[k]?=some y)
  (hQ:∀ h',IsZip h' z TI TO (rawInt s.heap.objs.size)->IsPair h' TO x y->ItAt b h' i1 l1 (k+1)->ItAt c h' i2 l2 (k+1)->IsPair h' s.heap.objs.size x y->h'.objs.size=s.heap.objs.size+1 ->
   (∀ a o,a≠z->a≠TO->a≠i1->a≠i2->s.heap.get? a=some o->h'.get? a=some o)->Q (.ref s.heap.objs.size) { s with heap:=h' }) :
  wpAny (model prog w) A (Builtin.«zip.__next__» { pos:=[.ref z] }) (fun fin s'=>∃ v,fin=Fin.done (.ret v)/\Q v s') E s:=by
 unfold Builtin.«zip.__next__»;refine wpAny_bind (wpAny_pure (a:=(Value.ref z,[])) ?_);refine wpAny_bind (wpAny_field hz rfl rfl ?_);refine wpAny_bind (wpAny_field hz rfl rfl ?_);refine wpAny_bind (wpAny_seqItems hTI rfl ?_);dsimp only;rw [if_neg (by simp)];refine wpAny_bind ?_;unfold Builtin.SmallTypes.ownedTupleIsFree;refine wpAny_bind (wpAny_field hz rfl rfl ?_);refine wpAny_pure ?_;rw [if_pos rfl];refine wpAny_bind (wpAny_rule ?_);refine wpAny_bind (wpAny_field hz rfl rfl ?_);refine wpAny_bind (wpAny_setField hz rfl (by simp) ?_);have e1:=Heap.SameBut.update s.heap z (Obj.mapFields fun a=>a.setIfInBounds 0 Value.ellipsis);have hz1:=rP (x:=Value.ellipsis) hz;generalize s.heap.update z (Obj.mapFields fun a=>a.setIfInBounds 0 Value.ellipsis)=H1 at e1 hz1 ⊢;have h11:ItAt b H1 i1 l1 k:=h1.keep fun o e=>(e1.2 _ D.i1z).trans e;have q11:SqAt b H1 l1 xs:=q1.keep fun o e=>(e1.2 _ nz1).trans e;have hTO1:IsPair H1 TO u v:=(e1.2 _ D.TOz).trans hTO;refine wpAny_bind ?_;rw [show [Value.ref i1,Value.ref i2].zipIdx=[(Value.ref i1,0),(Value.ref i2,1)] from rfl,List.forIn_cons];refine wpAny_bind (wpAny_bind (wpAny_onRaise ?_))
 change wpAny _ _ (Builtin.SmallTypes.nextOf (Value.ref i1) >>= fun v=>pure (some v)) _ _ _
 refine wpAny_bind (fV h11 q11 hx fun H2 h12 e2=>wpAny_pure ?_);have hz2:IsZip H2 z TI TO .ellipsis:=(e2.2 _ D.i1z.symm).trans hz1;have hTO2:IsPair H2 TO u v:=(e2.2 _ D.TOi1).trans hTO1;refine wpAny_bind (wpAny_seqItems hTO2 rfl (wpAny_bind (wpAny_updateSeq_pair hTO2 fun H3 hTO3 e3=>wpAny_bind (wpAny_letGo (wpAny_pure ?_)))));have hTO3:IsPair H3 TO x v:=hTO3;have hz3:IsZip H3 z TI TO .ellipsis:=(e3.2 _ D.TOz.symm).trans hz2;have h23:ItAt c H3 i2 l2 k:=h2.keep fun o e=>(e3.2 _ D.TOi2.symm).trans ((e2.2 _ D.i12.symm).trans ((e1.2 _ D.i2z).trans e));have q23:SqAt c H3 l2 ys:=q2.keep fun o e=>(e3.2 _ nT2).trans ((e2.2 _ n21).trans ((e1.2 _ nz2).trans e));dsimp only;rw [List.forIn_cons];refine wpAny_bind (wpAny_bind (wpAny_onRaise ?_))
 change wpAny _ _ (Builtin.SmallTypes.nextOf (Value.ref i2) >>= fun v=>pure (some v)) _ _ _
 refine wpAny_bind (fV h23 q23 hy fun H4 h24 e4=>wpAny_pure ?_);have hz4:IsZip H4 z TI TO .ellipsis:=(e4.2 _ D.i2z.symm).trans hz3;have hTO4:IsPair H4 TO x v:=(e4.2 _ D.TOi2).trans hTO3;refine wpAny_bind (wpAny_seqItems hTO4 rfl (wpAny_bind (wpAny_updateSeq_pair hTO4 fun H5 hTO5 e5=>wpAny_bind (wpAny_letGo (wpAny_pure ?_)))));have hTO5:IsPair H5 TO x y:=hTO5;have hz5:IsZip H5 z TI TO .ellipsis:=(e5.2 _ D.TOz.symm).trans hz4;dsimp only;rw [List.forIn_nil];refine wpAny_pure ?_;refine wpAny_bind (wpAny_seqItems hTO5 rfl ?_);refine wpAny_bind (wpAny_newObj_type ?_ (by simp [sizeOk,sizeLine_eq]));have es:H5.objs.size=s.heap.objs.size:=by rw [e5.1,e4.1,e3.1,e2.1,e1.1]
 have g6:IsPair (H5.push { cls:=.type "tuple",data:=.seq #[x,y] }) H5.objs.size x y:=Heap.get?_push_size _ rfl;have k6:∀ a o,H5.get? a=some o->(H5.push { cls:=.type "tuple",data:=.seq #[x,y] }).get? a=some o:=fun a o e=>Heap.get?_push_of_some _ e;have s6:(H5.push { cls:=.type "tuple",data:=.seq #[x,y] }).objs.size=s.heap.objs.size+1:=by rw [Heap.size_push,es]
 have hz6:=k6 _ _ hz5;refine wpAny_bind ?_;unfold Builtin.SmallTypes.ownedTupleHandOut;refine wpAny_bind (wpAny_setField hz6 rfl (by simp) ?_);have hz7:=rP (x:=rawInt H5.objs.size) hz6;refine wpAny_setField hz7 rfl (by simp) ?_;have hz8:=aH3 hz7;have e7:=Heap.SameBut.update (H5.push { cls:=.type "tuple",data:=.seq #[x,y] }) z (Obj.mapFields fun a=>a.setIfInBounds 0 (rawInt H5.objs.size));have e8:=Heap.SameBut.update ((H5.push { cls:=.type "tuple",data:=.seq #[x,y] }).update z (Obj.mapFields fun a=>a.setIfInBounds 0 (rawInt H5.objs.size))) z (Obj.mapFields fun a=>a.setIfInBounds 1 (.bool false));have kk:∀ a o,a≠z->H5.get? a=some o->(((H5.push { cls:=.type "tuple",data:=.seq #[x,y] }).update z (Obj.mapFields fun a=>a.setIfInBounds 0 (rawInt H5.objs.size))).update z (Obj.mapFields fun a=>a.setIfInBounds 1 (.bool false))).get? a=some o :=
  fun a o n e=>(e8.2 a n).trans ((e7.2 a n).trans (k6 a o e))
 have nsz:H5.objs.size≠z:=fun e=>by
  have:=Heap.lt_size hz5;rw [<- e] at this;exact Nat.lt_irrefl _ this
 have g8:=(e8.2 _ nsz).trans ((e7.2 _ nsz).trans g6);have hs8:=e8.1.trans (e7.1.trans s6);have h15:ItAt b H5 i1 l1 (k+1):=h12.keep fun o e=>(e5.2 _ D.TOi1.symm).trans ((e4.2 _ D.i12).trans ((e3.2 _ D.TOi1.symm).trans e));have h25:ItAt c H5 i2 l2 (k+1):=h24.keep fun o e=>(e5.2 _ D.TOi2.symm).trans e;have q:=hQ _ (by rw [es] at hz8;rw [es];exact hz8) (kk _ _ D.TOz hTO5) (h15.keep fun o e=>kk _ _ D.i1z e) (h25.keep fun o e=>kk _ _ D.i2z e) (by rw [<- es];exact g8) hs8
  (fun a o n1 n2 n3 n4 e=>kk _ _ n1 ((e5.2 _ n2).trans ((e4.2 _ n4).trans ((e3.2 _ n2).trans ((e2.2 _ n3).trans ((e1.2 _ n1).trans e))))))
 refine wpAny_pure ⟨_,rfl,?_⟩;rw [<- es] at q;exact q
def aH4 {b c:Bool} {z TI TO i1 i2 l1 l2:Addr} {k:Nat} {xs ys:Array Value} {u v:Value} {Q:Fin->Shared->Prop} (hh:A.handled=none) (D:ZApart z TI TO i1 i2) (hz:IsZip s.heap z TI TO .none) (hTI:IsPair s.heap TI (.ref i1) (.ref i2)) (hTO:IsPair s.heap TO u v)
  (h1:ItAt b s.heap i1 l1 k) (h2:ItAt c s.heap i2 l2 k) (q1:SqAt b s.heap l1 xs) (q2:SqAt c s.heap l2 ys) (nz1:l1≠z) (nz2:l2≠z) (nT2:l2≠TO) (n21:l2≠i1) (hn:xs[k]?=none\/ys[k]?=none)
  (hE:∀ h' e,(∀ a o,a≠z->a≠TO->a≠i1->a≠i2->s.heap.get? a=some o->h'.get? a=some o)->(∃ o,h'.get? e=some o/\o.cls=.type "StopIteration")->E (.ref e) { s with heap:=h' }) :
  wpAny (model prog w) A (Builtin.«zip.__next__» { pos:=[.ref z] }) Q E s:=by
 unfold Builtin.«zip.__next__»;refine wpAny_bind (wpAny_pure (a:=(Value.ref z,[])) ?_);refine wpAny_bind (wpAny_field hz rfl rfl ?_);refine wpAny_bind (wpAny_field hz rfl rfl ?_);refine wpAny_bind (wpAny_seqItems hTI rfl ?_);dsimp only;rw [if_neg (by simp)];refine wpAny_bind ?_;unfold Builtin.SmallTypes.ownedTupleIsFree;refine wpAny_bind (wpAny_field hz rfl rfl ?_);refine wpAny_pure ?_;rw [if_pos rfl];refine wpAny_bind (wpAny_rule ?_);refine wpAny_bind (wpAny_field hz rfl rfl ?_);refine wpAny_bind (wpAny_setField hz rfl (by simp) ?_);have e1:=Heap.SameBut.update s.heap z (Obj.mapFields fun a=>a.setIfInBounds 0 Value.ellipsis);have hz1:=rP (x:=Value.ellipsis) hz;generalize s.heap.update z (Obj.mapFields fun a=>a.setIfInBounds 0 Value.ellipsis)=H1 at e1 hz1 ⊢;have h11:ItAt b H1 i1 l1 k:=h1.keep fun o e=>(e1.2 _ D.i1z).trans e;have q11:SqAt b H1 l1 xs:=q1.keep fun o e=>(e1.2 _ nz1).trans e;have hTO1:IsPair H1 TO u v:=(e1.2 _ D.TOz).trans hTO;have aR:∀ (H4 H5:Heap) (e:Addr),IsZip H5 z TI TO .ellipsis->(∀ a o,a≠z->a≠TO->a≠i1->a≠i2->s.heap.get? a=some o->H5.get? a=some o)->(∃ o,H5.get? e=some o/\o.cls=.type "StopIteration") ->
   wpAny (model prog w) A (setField (.ref z) 0 .none) (fun _ s''=>E (.ref e) s'') E { s with heap:=H5 }:=fun H4 H5 e hz5 kk ⟨o,ho,hc⟩=>by
  refine wpAny_setField hz5 rfl (by simp) ?_;have e6:=Heap.SameBut.update H5 z (Obj.mapFields fun a=>a.setIfInBounds 0 Value.none);refine hE _ e (fun a o n1 n2 n3 n4 g=>(e6.2 _ n1).trans (kk a o n1 n2 n3 n4 g)) ⟨o,(e6.2 _ fun z'=>?_).trans ho,hc⟩;rw [z'] at ho;have hz5:H5.get? z=_:=hz5;rw [ho] at hz5;cases hz5;simp at hc
 refine wpAny_bind ?_;rw [show [Value.ref i1,Value.ref i2].zipIdx=[(Value.ref i1,0),(Value.ref i2,1)] from rfl,List.forIn_cons];refine wpAny_bind (wpAny_bind (wpAny_onRaise ?_))
 change wpAny _ _ (Builtin.SmallTypes.nextOf (Value.ref i1) >>= fun v=>pure (some v)) _ _ _
 by_cases hx:xs[k]?=none
 ·refine wpAny_bind (jC hh h11 q11 hx fun H2 e g2 he=>aR H2 H2 e ?_ (fun a o n1 n2 n3 n4 g=>?_) he)
  ·exact g2 _ _ D.i1z.symm hz1
  ·exact g2 _ _ n3 ((e1.2 _ n1).trans g)
 obtain ⟨x,hx⟩:=Option.ne_none_iff_exists'.mp hx;have hy:ys[k]?=none:=hn.resolve_left (by rw [hx];simp);refine wpAny_bind (fV h11 q11 hx fun H2 h12 e2=>wpAny_pure ?_);have hz2:IsZip H2 z TI TO .ellipsis:=(e2.2 _ D.i1z.symm).trans hz1;have hTO2:IsPair H2 TO u v:=(e2.2 _ D.TOi1).trans hTO1;refine wpAny_bind (wpAny_seqItems hTO2 rfl (wpAny_bind (wpAny_updateSeq_pair hTO2 fun H3 hTO3 e3=>wpAny_bind (wpAny_letGo (wpAny_pure ?_)))));have hz3:IsZip H3 z TI TO .ellipsis:=(e3.2 _ D.TOz.symm).trans hz2;have h23:ItAt c H3 i2 l2 k:=h2.keep fun o e=>(e3.2 _ D.TOi2.symm).trans ((e2.2 _ D.i12.symm).trans ((e1.2 _ D.i2z).trans e));have q23:SqAt c H3 l2 ys:=q2.keep fun o e=>(e3.2 _ nT2).trans ((e2.2 _ n21).trans ((e1.2 _ nz2).trans e));dsimp only;rw [List.forIn_cons];refine wpAny_bind (wpAny_bind (wpAny_onRaise ?_))
 change wpAny _ _ (Builtin.SmallTypes.nextOf (Value.ref i2) >>= fun v=>pure (some v)) _ _ _
 refine wpAny_bind (jC hh h23 q23 hy fun H4 e g4 he=>aR H4 H4 e ?_ (fun a o n1 n2 n3 n4 g=>?_) he)
 ·exact g4 _ _ D.i2z.symm hz3
 ·exact g4 _ _ n4 ((e3.2 _ n2).trans ((e2.2 _ n3).trans ((e1.2 _ n1).trans g)))
end
end PySem
namespace PySem
open PySem.Spec PyProof.Rows
def SqAt.ob {b:Bool} {h:Heap} {l:Addr} {xs:Array Value} (x:SqAt b h l xs):∃ o,h.get? l=some o:=by cases b<;>exact ⟨_,x.choose_spec.1⟩
def ItAt.ob {b:Bool} {h:Heap} {it l:Addr} {i:Nat} (x:ItAt b h it l i):∃ o,h.get? it=some o:=by cases b<;>exact ⟨_,x.choose_spec.1⟩
def aH5 (b:Bool) (l:Addr) (xs:Array Value):Meets (Builtin.«enumerate.__new__» ⟨[.type "enumerate",.ref l],[]⟩) fun _ R s=>SqAt b s.heap l xs /\
  R (.ok (.ret (.ref (s.heap.push (jS b l)).objs.size))) { s with heap:=(s.heap.push (jS b l)).push { cls:=.type "enumerate",data:=.fields #[.none,.bool false,.ref s.heap.objs.size,rawInt 0,.none,.none] } }:=by
 refine Meets.of_wp fun prog w A R s h=>?_;obtain ⟨h1,h⟩:=h;obtain ⟨o,ho⟩:=h1.ob;obtain ⟨hp,g,d,tk,os⟩:=s;have hsub:=sub_enumerate
 wp_walk using AutoSeq1.wpAny_loadPart' ho
 refine wpAny_stack_any fun st=>wpAny_pure ?_;split
 ·rename_i c _ _ _ _ _;cases (c==Value.type "enumerate")
  ·wp_walk using AutoSeq1.wpAny_loadPart' ho,fB h1
   exact ⟨_,rfl,h⟩
  ·wp_walk using AutoSeq1.wpAny_loadPart' ho,fB h1
   exact ⟨_,rfl,h⟩
 ·wp_walk using AutoSeq1.wpAny_loadPart' ho,fB h1
  exact ⟨_,rfl,h⟩
section
variable {prog:Program} {w:World} {A:Around} {E:Value->Shared->Prop} {s:Shared}
def aT5 {b:Bool} {e it l:Addr} {i:Nat} {items:Array Value} {x old:Value} {Q:Option Value->Shared->Prop}
  (he:IsEnum s.heap e it i old) (hit:ItAt b s.heap it l i) (hl:SqAt b s.heap l items) (hx:items[i]?=some x) (hne:e≠it)
  (hQ:∀ h',IsEnumOut h' e it ((i:Int)+1) x s.heap.objs.size->ItAt b h' it l (i+1)->h'.get? s.heap.objs.size=some { cls:=.type "tuple",data:=.seq #[.int i s.toks,x] }->h'.objs.size=s.heap.objs.size+1 ->
   (∀ c o,c≠e->c≠it->s.heap.get? c=some o->h'.get? c=some o)->Q (some (.ref s.heap.objs.size)) { s with heap:=h',toks:=s.toks+1 }):wpAny (model prog w) A (pyNext (.ref e)) Q E s:=by
 have hT:s.TypeIs (.ref e) "enumerate":=⟨_,he,rfl⟩;have ne':∀ {h1 h2:Heap},Heap.SameBut e h1 h2->∀ o,h1.get? it=some o->h2.get? it=some o:=fun sb o q=>(sb.2 _ hne.symm).trans q;unfold pyNext;refine wpAny_bind (wpAny_attempt (wpAny_callSpecial?_slot (name:=Str.ofString "__next__") hT F.slot_enumerate_next (wpAny_call_entry F.slot_enumerate_next hT F.entry_enumerate_next ?_ (F.args_enumerate_next_1 _))));unfold Builtin.«enumerate.__next__»;refine wpAny_bind (wpAny_pure (a:=(Value.ref e,[])) (wpAny_bind (wpAny_field he rfl (x:=.ref it) rfl (wpAny_bind (fV hit hl hx fun H1 it1 e1=>?_)))));have he1:IsEnum H1 e it i old:=(e1.2 _ hne).trans he;refine wpAny_bind (wpAny_field he1 rfl (x:=rawInt i) rfl ?_);dsimp only [rawInt];refine wpAny_bind (wpAny_field he1 rfl (x:=.none) rfl ?_);rw [if_pos (by rfl)];refine wpAny_bind (wpAny_mkInt ?_);refine wpAny_bind (wpAny_setField_rec he1 (by simp) fun H2 he2 s2=>wpAny_bind (wpAny_setField_rec (s:={ s with heap:=H2,toks:=s.toks+1 }) he2 (by simp) fun H3 he3 s3=>?_));have he3':IsEnum H3 e it ((i:Int)+1) old:=he3;have z3:H3.objs.size=s.heap.objs.size:=by
  have q2:H2.objs.size=H1.objs.size:=s2.1;have q3:H3.objs.size=H2.objs.size:=s3.1;rw [q3,q2];exact e1.1
 refine wpAny_bind (wpAny_newTuple (items:=[.int i s.toks,x]) ?_);have he4:IsEnum (H3.push { cls:=.type "tuple",data:=.seq #[.int i s.toks,x] }) e it ((i:Int)+1) old:=Heap.get?_push_of_some _ he3';have g4:(H3.push { cls:=.type "tuple",data:=.seq #[.int i s.toks,x] }).get? s.heap.objs.size=some { cls:=.type "tuple",data:=.seq #[.int i s.toks,x] }:=by rw [<- z3];exact Heap.get?_push_size _ rfl
 have z4:(H3.push { cls:=.type "tuple",data:=.seq #[.int i s.toks,x] }).objs.size=s.heap.objs.size+1:=by rw [Heap.size_push,z3]
 have k4:∀ c o,c≠e->c≠it->s.heap.get? c=some o->(H3.push { cls:=.type "tuple",data:=.seq #[.int i s.toks,x] }).get? c=some o:=fun c o n1 n2 q=>Heap.get?_push_of_some _ ((s3.2 _ n1).trans ((s2.2 _ n1).trans ((e1.2 _ n2).trans q)));have it4:ItAt b (H3.push { cls:=.type "tuple",data:=.seq #[.int i s.toks,x] }) it l (i+1):=it1.keep fun o q=>Heap.get?_push_of_some _ (ne' s3 o (ne' s2 o q));refine wpAny_bind ?_;unfold Builtin.SmallTypes.ownedTupleIsFree;refine wpAny_bind (wpAny_field he4 rfl (x:=.none) rfl (wpAny_pure ?_));rw [if_pos rfl];have el:s.heap.objs.size≠e:=Nat.ne_of_gt (Heap.lt_size he);refine wpAny_bind (wpAny_rule (wpAny_bind (wpAny_field he4 rfl (x:=old) rfl (wpAny_bind (wpAny_setField_rec (s:={ s with heap:=H3.push { cls:=.type "tuple",data:=.seq #[.int i s.toks,x] },toks:=s.toks+1 }) he4 (by simp) fun H5 he5 s5=>wpAny_bind ?_)))));unfold Builtin.SmallTypes.ownedTupleHandOut;rw [z3];refine wpAny_bind (wpAny_setField_rec (s:={ s with heap:=H5,toks:=s.toks+1 }) he5 (by simp) fun H6 he6 s6=>wpAny_setField_rec (s:={ s with heap:=H6,toks:=s.toks+1 }) he6 (by simp) fun H7 he7 s7=>wpAny_bind (wpAny_letGo (wpAny_pure ⟨_,rfl,wpAny_pure (hQ H7 he7 ?_ ?_ ?_ fun c o n1 n2 q=>?_)⟩)))
 ·exact it4.keep fun o q=>ne' s7 o (ne' s6 o (ne' s5 o q))
 ·exact (s7.2 _ el).trans ((s6.2 _ el).trans ((s5.2 _ el).trans g4))
 ·have q5:H5.objs.size=_:=s5.1;have q6:H6.objs.size=H5.objs.size:=s6.1;have q7:H7.objs.size=H6.objs.size:=s7.1;rw [q7,q6,q5];exact z4
 ·exact (s7.2 _ n1).trans ((s6.2 _ n1).trans ((s5.2 _ n1).trans (k4 c o n1 n2 q)))
def bG2 {b:Bool} {e it l:Addr} {i:Nat} {items:Array Value} {old:Value} {Q:Option Value->Shared->Prop} (hh:A.handled=none) (he:IsEnum s.heap e it i old) (hit:ItAt b s.heap it l i) (hl:SqAt b s.heap l items) (hx:items[i]?=none)
  (hQ:∀ h',(∀ c o,c≠it->s.heap.get? c=some o->h'.get? c=some o)->Q none { s with heap:=h' }):wpAny (model prog w) A (pyNext (.ref e)) Q E s:=by
 have hT:s.TypeIs (.ref e) "enumerate":=⟨_,he,rfl⟩;unfold pyNext;refine wpAny_bind (wpAny_attempt (wpAny_callSpecial?_slot (name:=Str.ofString "__next__") hT F.slot_enumerate_next (wpAny_call_entry F.slot_enumerate_next hT F.entry_enumerate_next ?_ (F.args_enumerate_next_1 _))));unfold Builtin.«enumerate.__next__»;refine wpAny_bind (wpAny_pure (a:=(Value.ref e,[])) (wpAny_bind (wpAny_field he rfl (x:=.ref it) rfl (wpAny_bind (jC (A:=A.in1) hh hit hl hx fun H1 x k1 ⟨o,ho,hc⟩=>?_)))));exact wpAny_bind (wpAny_isInstance ⟨o,ho,hc⟩ isSubtype_stop (wpAny_pure (hQ H1 k1)))
end
end PySem

namespace DL
open PySem PySem.Spec PyProof.Rows L2 CI
section
variable {S:Sx} {κ:Kp} {M M0:Mp} {h:aA} {s:Shared} {A:Around} {E:Value->Shared->Prop} {elts:List Expr} {n:Nat} {pos:Pos}
def SqZ (M:Mp) (b:Bool) (a:Addr) (us:List Value):Prop:=∃ n,M.Z a=some { cls:=.type (if b=true then "tuple" else "list"),data:=.seq us.toArray n }
def SqZ.at {b:Bool} {a:Addr} {us:List Value} (x:SqZ M0 b a us) (l:Le M0 M) (R:Mem S κ M h s):SqAt b s.heap a us.toArray:=by
 obtain ⟨n,e⟩:=x;have e:=R.z _ _ (l.z _ _ e);cases b
 ·exact (cY e).isList
 ·exact fS e
def SqZ.ne {b:Bool} {a c:Addr} {us:List Value} (x:SqZ M0 b a us) (l:Le M0 M) (f:bV κ M c):a≠c:=fun z=>by
 obtain ⟨n,e⟩:=x;have e:=l.z _ _ e;rw [z,f.1] at e;cases e
def aH6 {w:W} {u:Value} {xs:List PyData} (e:jJ w=some xs) (r:RepW S M w u):∃ b a us,u=.ref a/\SqZ M b a us/\us.length<=sizeLine/\Reps' S M xs us:=by
 unfold jJ at e;split at e
 ·cases e;obtain ⟨a,o,us,rfl,z,⟨⟨n,rfl⟩,hz⟩,rr⟩:=rep_l.mp (show Rep S M.Z _ _ from r);exact ⟨false,a,us,rfl,⟨n,z⟩,hz,rr⟩
 ·cases e;obtain ⟨a,o,us,rfl,z,⟨⟨n,rfl⟩,hz⟩,rr⟩:=rep_t.mp (show Rep S M.Z _ _ from r);exact ⟨true,a,us,rfl,⟨n,z⟩,hz,rr⟩
 ·cases e
def Mem.pair {h2:Heap} {t:Nat} {fp:List Addr} {x y:PyData} {u v:Value} (R:Mem S κ M h s) (hf:∀ b∈fp,bV κ M b) (hs:∀ b∈fp,∃ o,s.heap.get? b=some o) (k:∀ b o,b∉fp->s.heap.get? b=some o->h2.get? b=some o) (e:h2.get? s.heap.objs.size=some { cls:=.type "tuple",data:=.seq #[u,v] }) (rx:Rep S M.Z x u) (ry:Rep S M.Z y v) :
  ∃ M',Le M M'/\Mem S κ M' h { s with heap:=h2,toks:=t }/\Rep S M'.Z (.tuple [x,y]) (.ref s.heap.objs.size)/\∀ b∈fp,bV κ M' b:=by
 have R1:Mem S κ M h { s with heap:=h2,toks:=t }:=R.turn hf k;refine ⟨_,.add R.size.1,R1.frz R.size e,rep_t.mpr ⟨_,_,[u,v],rfl,nD,⟨⟨0,rfl⟩,by simp [sizeLine_eq]⟩,.cons (Rep.go (Le.add R.size.1).z rx) (.cons (Rep.go (Le.add R.size.1).z ry) .nil)⟩,fun b hb=>⟨?_,(hf b hb).2⟩⟩;obtain ⟨o,q⟩:=hs b hb;show (if b=s.heap.objs.size then _ else M.Z b)=none;rw [if_neg (Nat.ne_of_lt (Heap.lt_size q))];exact (hf b hb).1
def ZSt (b c:Bool) (z TI TO i1 i2 l1 l2:Addr) (i:Nat) (h:Heap):Prop :=
 IsZip h z TI TO .none/\IsPair h TI (.ref i1) (.ref i2)/\(∃ u v,IsPair h TO u v)/\ItAt b h i1 l1 i/\ItAt c h i2 l2 i
def ZSt.obj {b c:Bool} {z TI TO i1 i2 l1 l2:Addr} {i:Nat} {h:Heap} (st:ZSt b c z TI TO i1 i2 l1 l2 i h):∀ a∈[z,TI,TO,i1,i2],∃ o,h.get? a=some o:=fun a ha=>by
 obtain ⟨s1,s2,⟨u,v,s3⟩,s4,s5⟩:=st;simp only [List.mem_cons,List.not_mem_nil,or_false] at ha;rcases ha with rfl | rfl | rfl | rfl | rfl
 ·exact ⟨_,s1⟩
 ·exact ⟨_,s2⟩
 ·exact ⟨_,s3⟩
 ·exact s4.ob
 ·exact s5.ob
def bG3 {xs ys:List PyData} {i:Nat} {x:PyData} (e:(kT xs ys)[i]?=some x):∃ a b,xs[i]?=some a/\ys[i]?=some b/\x=.tuple [a,b]:=by
 unfold kT at e;rw [List.getElem?_zipWith] at e;cases q1:xs[i]? with
 | none=>rw [q1] at e;cases e
 | some a =>
  cases q2:ys[i]? with
  | none=>rw [q1,q2] at e;cases e
  | some b=>rw [q1,q2] at e;cases e;exact ⟨a,b,rfl,rfl,rfl⟩
def aH7 {b c:Bool} {z TI TO i1 i2 l1 l2:Addr} {xs ys:List PyData} {us vs:List Value} (D:ZApart z TI TO i1 i2) (q1:SqZ M0 b l1 us) (q2:SqZ M0 c l2 vs) (r1:Reps' S M0 xs us) (r2:Reps' S M0 ys vs):Turn S (.Tuple elts n pos) (kT xs ys) none M0 [z,TI,TO,i1,i2] z (ZSt b c z TI TO i1 i2 l1 l2) where
 obj:=fun i h st=>st.obj
 keep:=fun i h h' st k=>by
  obtain ⟨s1,s2,⟨u,v,s3⟩,s4,s5⟩:=st;exact ⟨k z (by simp) _ s1,k TI (by simp) _ s2,⟨u,v,k TO (by simp) _ s3⟩,s4.keep fun o e=>k i1 (by simp) o e,s5.keep fun o e=>k i2 (by simp) o e⟩
 item:=by
  intro A κ M h s E i x hd R l hf st hx co;obtain ⟨x1,x2,h1,h2,rfl⟩:=bG3 hx;obtain ⟨u1,hu1,ru1⟩:=mY (r1.go l) h1;obtain ⟨u2,hu2,ru2⟩:=mY (r2.go l) h2;have ob:=st.obj;obtain ⟨s1,s2,⟨u,v,s3⟩,s4,s5⟩:=st;have hT:s.TypeIs (.ref z) "zip":=⟨_,s1,rfl⟩;have fz:=hf z (by simp);have fTO:=hf TO (by simp);have fi1:=hf i1 (by simp);refine wpAny_bind (wpAny_attempt (wpAny_callSpecial?_slot hT F.slot_zip_next (wpAny_call_entry F.slot_zip_next hT F.entry_zip_next
   (zS D s1 s2 s3 s4 s5 (q1.at l R) (q2.at l R) (q1.ne l fz) (q2.ne l fz) (q2.ne l fTO) (q2.ne l fi1) (x:=u1) (y:=u2) (by simpa using hu1) (by simpa using hu2)
    fun h' a1 a2 a3 a4 a5 a6 a7=>wpAny_pure ?_) (F.args_zip_next_1 _))))
  refine ⟨_,rfl,wpAny_letOwnedTupleGo_zip (s:={ s with heap:=h' }) a1 fun h'' b1 b2=>?_⟩;have zs:s.heap.objs.size≠z:=Nat.ne_of_gt (Heap.lt_size s1);obtain ⟨M',l',R',r',f'⟩:=R.pair (h2:=h'') (t:=s.toks) hf ob (fun a o ha e=>by
   simp only [List.mem_cons,List.not_mem_nil,or_false,not_or] at ha;exact (b2.2 a ha.1).trans (a7 a o ha.1 ha.2.2.1 ha.2.2.2.1 ha.2.2.2.2 e)) ((b2.2 _ zs).trans a5) ru1 ru2
  exact ⟨M',l',R',r',⟨b1,(b2.2 _ D.TIz).trans (a7 _ _ D.TIz D.TITO D.TIi1 D.TIi2 s2),⟨u1,u2,(b2.2 _ D.TOz).trans a2⟩,a3.keep fun o e=>(b2.2 _ D.i1z).trans e,a4.keep fun o e=>(b2.2 _ D.i2z).trans e⟩,f'⟩
 done:=by
  intro A κ M h s E i hd R l hf st hl co;obtain ⟨s1,s2,⟨u,v,s3⟩,s4,s5⟩:=st;have k1:=r1.length;have k2:=r2.length;unfold kT at hl;rw [List.length_zipWith] at hl;have hT:s.TypeIs (.ref z) "zip":=⟨_,s1,rfl⟩;have fz:=hf z (by simp);have fTO:=hf TO (by simp);have fi1:=hf i1 (by simp);refine wpAny_bind (wpAny_attempt (wpAny_callSpecial?_slot hT F.slot_zip_next (wpAny_call_entry F.slot_zip_next hT F.entry_zip_next
   (aH4 hd D s1 s2 s3 s4 s5 (q1.at l R) (q2.at l R) (q1.ne l fz) (q2.ne l fz) (q2.ne l fTO) (q2.ne l fi1) (by simp;omega)
    fun h' e kk ⟨o,ho,hc⟩=>wpAny_bind (wpAny_isInstance ⟨o,ho,hc⟩ isSubtype_stop (wpAny_pure ⟨rfl,?_⟩))) (F.args_zip_next_1 _))))
  exact R.turn (t:=s.toks) hf fun a o ha e=>by
   simp only [List.mem_cons,List.not_mem_nil,or_false,not_or] at ha;exact kk a o ha.1 ha.2.2.1 ha.2.2.2.1 ha.2.2.2.2 e
 self:=fun _ _ _ _ _ st h=>wpAny_pyIter_zip st.1 h
theorem pV:∀ {xs:List PyData} {k i:Nat} {z:PyData},(enumF k xs)[i]?=some z->∃ x,xs[i]?=some x/\z=.tuple [.int (k+i:Nat),x]
 | [],_,_,_,e=>by simp [enumF] at e
 | x::xs,k,0,z,e=>by simp [enumF] at e;exact ⟨x,rfl,by rw [<- e];simp⟩
 | x::xs,k,i+1,z,e=>by
  obtain ⟨y,h1,h2⟩:=pV (xs:=xs) (k:=k+1) (i:=i) (by simpa [enumF] using e);exact ⟨y,by simpa using h1,by rw [h2,show k+1+i=k+(i+1) by omega]⟩
theorem iK:∀ (xs:List PyData) (k:Nat),(enumF k xs).length=xs.length
 | [],_=>rfl
 | _::xs,k=>by rw [enumF,List.length_cons,List.length_cons,iK]
def ESt (b:Bool) (e it l:Addr) (i:Nat) (h:Heap):Prop:=(∃ old,IsEnum h e it i old)/\ItAt b h it l i
def zT {b:Bool} {e it l:Addr} {all:List PyData} {c:Cw} (hne:e≠it) (hq:∀ {κ:Kp} {M:Mp} {h:aA} {s:Shared},Mem S κ M h s->Le M0 M->condB c all h=true->∃ xs us,all=bF xs/\SqAt b s.heap l us.toArray/\Reps' S M xs us):Turn S (.Tuple elts n pos) all c M0 [e,it] e (ESt b e it l) where
 obj:=fun i h st a ha=>by
  obtain ⟨⟨old,s1⟩,s2⟩:=st;simp only [List.mem_cons,List.not_mem_nil,or_false] at ha;rcases ha with rfl | rfl
  ·exact ⟨_,s1⟩
  ·exact s2.ob
 keep:=fun i h h' st k=>by
  obtain ⟨⟨old,s1⟩,s2⟩:=st;exact ⟨⟨old,k e (by simp) _ s1⟩,s2.keep fun o q=>k it (by simp) o q⟩
 item:=by
  intro A κ M h s E i x hd R l' hf st hx co;obtain ⟨xs,us,rfl,q1,r1⟩:=hq R l' co;obtain ⟨y,h1,rfl⟩:=pV hx;rw [Nat.zero_add];obtain ⟨u,hu,ru⟩:=mY r1 h1;obtain ⟨⟨old,s1⟩,s2⟩:=st;refine aT5 s1 s2 q1 (x:=u) (by simpa using hu) hne fun h' a1 a2 a3 a4 a5=>⟨_,rfl,wpAny_letOwnedTupleGo_enum (s:={ s with heap:=h',toks:=s.toks+1 }) a1 fun h'' b1 b2=>?_⟩;have zs:s.heap.objs.size≠e:=Nat.ne_of_gt (Heap.lt_size s1);obtain ⟨M',l2,R',r',f'⟩:=R.pair (h2:=h'') (t:=s.toks+1) (x:=.int i) hf (fun a ha=>by
   simp only [List.mem_cons,List.not_mem_nil,or_false] at ha;rcases ha with rfl | rfl
   ·exact ⟨_,s1⟩
   ·exact s2.ob) (fun a o ha q=>by
   simp only [List.mem_cons,List.not_mem_nil,or_false,not_or] at ha;exact (b2.2 a ha.1).trans (a5 a o ha.1 ha.2 q)) ((b2.2 _ zs).trans a3) (rep_i.mpr ⟨_,rfl⟩) ru
  refine ⟨M',l2,R',r',⟨⟨u,?_⟩,a2.keep fun o q=>(b2.2 _ hne.symm).trans q⟩,f'⟩;have:((i+1:Nat):Int)=(i:Int)+1:=by omega
  unfold IsEnum;rw [this];exact b1
 done:=by
  intro A κ M h s E i hd R l' hf st hl co;obtain ⟨xs,us,rfl,q1,r1⟩:=hq R l' co;obtain ⟨⟨old,s1⟩,s2⟩:=st;have k1:=r1.length;unfold bF at hl;rw [iK] at hl;refine bG2 hd s1 s2 q1 (by simp;omega) fun h' kk=>⟨rfl,?_⟩;exact R.turn (t:=s.toks) hf fun a o ha q=>by
   simp only [List.mem_cons,List.not_mem_nil,or_false,not_or] at ha;exact kk a o ha.2 q
 self:=fun _ _ s _ _ st h=>by
  obtain ⟨⟨old,s1⟩,s2⟩:=st;have hT:s.TypeIs (.ref e) "enumerate":=⟨_,s1,rfl⟩;refine wpAny_pyIter_slot hT PySem.F.slot_enumerate_iter (wpAny_call_entry PySem.F.slot_enumerate_iter hT PySem.F.entry_enumerate_iter ?_ (PySem.F.args_enumerate_iter_1 _));show wpAny _ _ (ret (.ref e)) _ _ s;exact wpAny_pure ⟨_,rfl,"enumerate",_,hT,PySem.F.slot_enumerate_next.lookup,h⟩
end
section
variable {X:Cx} {st:Sta} {d:Nat} {v:Evs} {a b:Expr} {κ:Kp} {M:Mp} {δ:DSt} {h h':aA} {s:Shared} {pos p tp:Pos} {elts:List Expr} {n:Nat}
theorem bV5 (S:Snd v) (G:Good X st d) (hx:(dF st "zip"&&(slot st "zip").isNone&&st.bl.contains "zip")=true) (hs:aH a=true) (hs2:aH b=true):SI X (.Tuple elts n tp) (.Call (.Name "zip" p) [a,b] [] pos) (xb (v.E st a) fun u=>xb (v.E st b) fun w=>fun _ h=>(match jJ u,jJ w with
   | some xs,some ys=>some ((kT xs ys,none),h)
   | _,_=>none)):=by
 intro κ M δ h s q h' R F e;obtain ⟨h1,h2,h3⟩:=eO G hx;obtain ⟨x,hh,e1,e⟩:=aG e;obtain ⟨y,hh2,e2,e⟩:=aG e;have ea:aV v st [a,b] δ h=some ([x,y],hh2):=by unfold aV;rw [if_pos hs];unfold xb;rw [e1];unfold aV;dsimp only [Option.bind];rw [if_pos hs2];unfold aV xb aD;dsimp only;rw [e2];rfl
 refine Call_ (eK (u:=.type "zip") F R h2 h3 (by decide +kernel) h1 (PyProof.Rows.callWith_type1 (thn (cD S G [a,b] pos R F ea) fun us s1 ⟨M1,l1,R1,r0⟩=>?_) (bZ a hs) (by rw [bZ b hs2];rfl)));obtain ⟨u,v,rfl,r1,r2⟩:=w2 r0;split at e
 ·rename_i xs ys ex ey;cases e;obtain ⟨b1,l1',us,rfl,q1,z1,rr1⟩:=aH6 ex r1;obtain ⟨b2,l2',vs,rfl,q2,z2,rr2⟩:=aH6 ey r2;refine aH2 (q1.at .refl R1) (q2.at .refl R1) fun h' a1 a2 a3 a4 a5 a6 a7=>?_;have D:ZApart (s1.heap.objs.size+4) (s1.heap.objs.size+2) (s1.heap.objs.size+3) s1.heap.objs.size (s1.heap.objs.size+1):=by
   constructor<;>(intro e;exact absurd e (by simp [Addr]<;>omega))
  refine wpAny_pyIter_zip a1 (Pi.go l1 ⟨M1,_,_,_,.refl,R1.kept (t:=s1.toks) a7,rfl,aH7 D q1 q2 rr1 rr2,⟨a1,a2,⟨_,_,a3⟩,a4,a5⟩,fun x hx=>R1.new (Heap.get?_none_of_le ?_),?_⟩)
  ·simp only [List.mem_cons,List.not_mem_nil,or_false] at hx;rcases hx with rfl | rfl | rfl | rfl | rfl<;>simp
  ·show (kT xs ys).length<=sizeLine;unfold kT;rw [List.length_zipWith,rr1.length];omega
 ·cases e
def bG4 (S:Snd v) (G:Good X st d) (hx:(dF st "enumerate"&&(slot st "enumerate").isNone&&st.bl.contains "enumerate")=true) (hs:aH a=true):SI X (.Tuple elts n tp) (.Call (.Name "enumerate" p) [a] [] pos) (xb (v.E st a) fun u=>fun _ h=>jK u h):=by
 intro κ M δ h s q h' R F e;obtain ⟨h1,h2,h3⟩:=eO G hx;obtain ⟨x,hh,e1,e⟩:=aG e;have ea:aV v st [a] δ h=some ([x],hh):=by unfold aV;rw [if_pos hs];unfold aV xb aD;rw [e1];rfl
 refine Call_ (eK (u:=.type "enumerate") F R h2 h3 (by decide +kernel) h1 (PyProof.Rows.callWith_type1 (thn (cD S G [a] pos R F ea) fun us s1 ⟨M1,l1,R1,r0⟩=>?_) (bZ a hs) rfl));obtain ⟨u,rfl,r1⟩:=w1 r0;have ex:∃ b l us,u=.ref l/\SqAt b s1.heap l us/\h'=hh/\q.1.length<=sizeLine/\∀ {κ:Kp} {M:Mp} {h:aA} {s:Shared},Mem X.S κ M h s->Le M1 M->condB q.2 q.1 h=true->∃ xs us,q.1=bF xs/\SqAt b s.heap l (List.toArray us)/\Reps' X.S M xs us:=by
  unfold jK at e;split at e
  ·rename_i xs ex;cases e;obtain ⟨b,l,us,rfl,q1,z1,rr1⟩:=aH6 ex r1;refine ⟨b,l,us.toArray,rfl,q1.at .refl R1,rfl,?_,fun R l' _=>⟨xs,us,rfl,q1.at l' R,rr1.go l'⟩⟩;show (bF xs).length<=sizeLine;unfold bF;rw [iK,rr1.length];exact z1
  ·cases x with
   | d y=>cases e
   | c i =>
    dsimp only at e;split at e
    ·rename_i xs ey;cases e;obtain ⟨pp,ep,rfl⟩:=r1;obtain ⟨us,k,g1,g2,g3⟩:=R1.cel i pp _ ep ey;refine ⟨false,pp.1,us.toArray,rfl,(cY g1).isList,rfl,?_,fun {κ M h s} R l' co=>?_⟩
     ·show (bF xs).length<=sizeLine;unfold bF;rw [iK,g3.length];exact g2
     ·have co:(match h[i]? with
       | some (.l ys)=>peqs (bF ys) (bF xs)
       | _=>false)=true:=co
      split at co
      ·rename_i ys ey';obtain ⟨vs,k',f1,f2,f3⟩:=R.cel i pp _ (l'.at ep) ey';exact ⟨ys,vs,(peqs_eq co).symm,(cY f1).isList,f3⟩
      ·cases co
    ·cases e
 obtain ⟨b,l,us,rfl,q1,rfl,hz,hq⟩:=ex;refine callType_new PySem.F.called_enumerate (by decide) (PySem.F.typeCall_enumerate_1 _) (PySem.F.newCall_enumerate_1 _) (fun obj=>PySem.F.args_object_init_2 obj _) PySem.F.entry_enumerate_new (aH5 b l us) ⟨q1,⟨_,Heap.get?_push_size _ rfl,rfl⟩,?_⟩;have z1':(s1.heap.push (jS b l)).objs.size=s1.heap.objs.size+1:=by rw [Heap.size_push]
 have ge:((s1.heap.push (jS b l)).push { cls:=.type "enumerate",data:=.fields #[.none,.bool false,.ref s1.heap.objs.size,rawInt 0,.none,.none] }).get? (s1.heap.push (jS b l)).objs.size=some { cls:=.type "enumerate",data:=.fields #[.none,.bool false,.ref s1.heap.objs.size,rawInt 0,.none,.none] }:=Heap.get?_push_size _ rfl;have gi:((s1.heap.push (jS b l)).push { cls:=.type "enumerate",data:=.fields #[.none,.bool false,.ref s1.heap.objs.size,rawInt 0,.none,.none] }).get? s1.heap.objs.size=some (jS b l):=Heap.get?_push_of_some _ (Heap.get?_push_size _ rfl);have hne:(s1.heap.push (jS b l)).objs.size≠s1.heap.objs.size:=by rw [z1'];exact Nat.succ_ne_self _
 refine wpAny_pyIter_enum (s:={ s1 with heap:=_ }) ge (Pi.go l1 ⟨M1,_,_,_,.refl,R1.kept (t:=s1.toks) fun c o e=>Heap.get?_push_of_some _ (Heap.get?_push_of_some _ e),rfl,zT hne hq,⟨⟨.none,ge⟩,ItAt.new gi⟩,fun x hx=>R1.new (Heap.get?_none_of_le ?_),hz⟩);simp only [List.mem_cons,List.not_mem_nil,or_false] at hx;rcases hx with rfl | rfl
 ·rw [z1'];exact Nat.le_succ _
 ·exact Nat.le_refl _
end
end DL

namespace DL
open PySem PySem.Spec PyProof.Rows L2 CI
section
variable {X:Cx} {st:Sta} {d:Nat} {v:Evs} {κ:Kp} {M:Mp} {δ:DSt} {h h':aA} {s:Shared} {a b c e o tg iter:Expr} {es:List Expr} {pos p p2 apos:Pos} {x m:Str} {w:W}
def bG5 (S:Snd v) (G:Good X st d) {op op' op'':CmpOp} {p:Bool×aA} (hm:lastMarks [op,op',op''] [b,c,e]=false) (R:Mem X.S κ M h s) (F:Fra X κ M δ) (eq:xC3 op op' op'' (v.E st a) (v.E st b) (v.E st c) (v.E st e) δ h=some p):Wp X.S X.A (eval (.Compare a [op,op',op''] [b,c,e] pos) X.env) (Pw X.S κ M p.2 (.d (.bool p.1))) NE s:=by
 obtain ⟨x,h1,e1,eq⟩:=aG eq;obtain ⟨y,h2,e2,eq⟩:=aG eq;obtain ⟨p1,e3,eq⟩:=bind_some eq;refine Compare_chain (thn (S.E G a R F e1) fun u s1 ⟨M1,l1,R1,r1⟩=>chain_link (thn (S.E G b R1 (F.go l1) e2) fun v s2 ⟨M2,l2,R2,r2⟩=>?_)) hm;obtain ⟨q1,q2⟩:=iC (A:=X.A) (E:=NE) G.rm R2 (r1.go l2) r2 e3;obtain ⟨k,h3⟩:=p1;cases q1;refine thn q2 fun k' s3 ⟨M3,l3,R3,r3⟩=>?_;cases wb.mp r3;refine wpAny_truthy_bool ?_;dsimp only at eq;cases k with
 | false=>cases eq;exact ite_ff (R3.pb.go (l1.trans (l2.trans l3)))
 | true =>
  obtain ⟨⟨z,h4⟩,e4,eq⟩:=bind_some eq;obtain ⟨p2,e5,eq⟩:=bind_some eq;refine ite_tt (chain_link (thn (S.E G c R3 ((F.go l1).go (l2.trans l3)) e4) fun t s4 ⟨M4,l4,R4,r4⟩=>?_));obtain ⟨q5,q6⟩:=iC (A:=X.A) (E:=NE) G.rm R4 (r2.go (l3.trans l4)) r4 e5;obtain ⟨k2,h5⟩:=p2;cases q5;refine thn q6 fun k' s5 ⟨M5,l5,R5,r5⟩=>?_;cases wb.mp r5;refine wpAny_truthy_bool ?_;dsimp only at eq;cases k2 with
  | false=>cases eq;exact ite_ff (R5.pb.go (l1.trans (l2.trans (l3.trans (l4.trans l5)))))
  | true =>
   obtain ⟨⟨z',h6⟩,e6,eq⟩:=bind_some eq;refine ite_tt (chain_last (thn (S.E G e R5 ((F.go l1).go (l2.trans (l3.trans (l4.trans l5)))) e6) fun t' s6 ⟨M6,l6,R6,r6⟩=>?_));obtain ⟨q7,q8⟩:=iC (A:=X.A) (E:=NE) G.rm R6 (r4.go (l5.trans l6)) r6 eq;rw [q7];exact thn q8 fun _ _ q=>q.go (l1.trans (l2.trans (l3.trans (l4.trans (l5.trans l6)))))
def bG6 (S:Snd v) (G:Good X st d) {ops:List CmpOp} {cs:List Expr}:SE X (.Compare a ops cs pos) (cT (kX v st a ops cs)):=by
 unfold kX;rcases ops with _ | ⟨op,_ | ⟨op',_ | ⟨op'',_ | ⟨_,_⟩⟩⟩⟩
 ·exact lY S G
 ·exact lY S G
 ·exact lY S G
 ·rcases cs with _ | ⟨b,_ | ⟨c,_ | ⟨e',_ | ⟨_,_⟩⟩⟩⟩
  ·exact lY S G
  ·exact lY S G
  ·exact lY S G
  ·intro κ M δ h s w h' R F eq;obtain ⟨p,e2,ew⟩:=map_some (show ((if lastMarks [op,op',op''] [b,c,e']=true then xno else xC3 op op' op'' (v.E st a) (v.E st b) (v.E st c) (v.E st e')) δ h).map asW=_ from eq);cases ew
   by_cases hm:lastMarks [op,op',op''] [b,c,e']=true
   ·rw [if_pos hm] at e2;cases e2
   ·rw [if_neg hm] at e2;exact bG5 S G (by simpa using hm) R F e2
  ·exact lY S G
 ·exact lY S G
def jT {P:List Value->Shared->Prop} {E:Value->Shared->Prop} (hs:aH e=true) (h:Wp X.S X.A (eval e X.env) (fun v s1=>P [v] s1) E s):Wp X.S X.A (spliced (backTo pos (starEach [e] X.env))) P E s:=by
 rw [bZ (es:=[]) e hs];show Wp _ _ (spliced ((false,eval e X.env)::backTo pos [])) _ _ s;exact Calls.spliced_cons (thn h fun u s1 q=>wpAny_pure q)
theorem bV6 (S:Snd v) (G:Good X st d) {pos2:Pos} (hx:okC st "list"=true) (hr:okC st "range"=true) (hs:aH b=true):SF X (.Call (.Name "list" p) [.Call (.Name "range" p2) [b] [] pos2] [] pos) (xb (aV v st [b]) fun ws=>fun _ h=>(match ws with
   | [.d (.int j)]=>if -(2^62)<=j/\j < 2^62/\j<=16000000 then some (rng 0 j.toNat,h) else none
   | _=>none)):=by
 intro κ M δ h s w h' R F e;obtain ⟨ws,h1,e1,e⟩:=aG e;obtain ⟨n1,n2,n3⟩:=eO G hx;refine wpAny_Call_Name_kw (eK (u:=.type "list") F R n2 n3 (by decide +kernel) n1 ?_);refine PyProof.Rows.callWith_type1 (jT (by rfl) ?_) rfl rfl;refine nQ (f:=.type "range") S G hr boot_range (.inr ⟨_,rfl⟩) R F e1 fun {M1 us s1} l1 R1 r1=>?_;split at e
 ·rename_i j;obtain ⟨⟨b3,b4,b5⟩,e⟩:=aF e;cases e;obtain ⟨u,rfl,ru⟩:=w1 r1;obtain ⟨t2,rfl⟩:=wi.mp ru;refine call_range_1 (call_list_range (n:=j.toNat) G.rm.hd (IsRange.new ..) (small_one (by decide) (by decide) b3 b4) (by rw [rangeSize_one];split<;>omega) (by omega) fun h' tk acc c' k hS hacc=>?_);rw [Heap.size_push] at hS ⊢;have k1:∀ b o,s1.heap.get? b=some o->h'.get? b=some o:=fun b o e=>k b o (Heap.get?_push_of_some _ e);refine ⟨M1,l1,R1.kept (t:=tk) k1,s1.heap.objs.size+1,acc.toList,c',rfl,by rw [Array.toArray_toList];exact hS,R1.new (Heap.get?_none_of_le (Nat.le_succ _)),by rw [Array.length_toList,hacc.1,sizeLine_eq];omega,?_⟩;have gen:∀ (l:List Value) (m:List PyData),l.length=m.length->(∀ (k:Nat) v,l[k]?=some v->∃ x,m[k]?=some x/\Rep X.S M1.Z x v)->Reps' X.S M1 m l:=by
   intro l;induction l with
   | nil=>intro m hm _;rw [List.length_eq_zero_iff.mp hm.symm];exact .nil
   | cons v l ih =>
    intro m hm hv;cases m with
    | nil=>simp at hm
    | cons x m =>
     obtain ⟨x',e1,e2⟩:=hv 0 v rfl;simp at e1;subst e1;exact .cons e2 (ih m (by simpa using hm) fun k v e=>hv (k+1) v (by simpa using e))
  refine gen _ _ (by simp [hacc.1,rng]) fun k v e=>?_;rw [Array.getElem?_toList] at e;obtain ⟨tk,rfl⟩:=hacc.2 k v e;have hk:k < j.toNat:=by have:=(Array.getElem?_eq_some_iff.mp e).1;rw [hacc.1] at this;exact this
  exact ⟨.int k,by simp [rng,hk],rep_i.mpr ⟨tk,by simp⟩⟩
 ·cases e
def bG7 (T T':String):Prop:=∀ (K:PySem.W.Frag) (d:PyData),PySem.W.kitAny K (.type (dU d)) [.type T,.type T']=some (isi d T||isi d T')
def bG8:bG7 "list" "tuple":=fun K d=>by cases d<;>kernel_rfl
def bG9 (S:Snd v) (G:Good X st d) {q1 q2 q3:Pos} {k} (hx:okC st "isinstance"=true) (hs:aH a=true) (hT:okC st "list"=true) (hT':okC st "tuple"=true) :
  SE X (.Call (.Name "isinstance" p) [a,.Tuple [.Name "list" q1,.Name "tuple" q2] k q3] [] pos) (xb (v.E st a) fun w=>fun _ h=>(ref h w).bind fun d=>some (.d (.bool (isi d "list"||isi d "tuple")),h)):=by
 intro κ M δ h s w h' R F e;obtain ⟨x,h1,e1,e⟩:=aG e;obtain ⟨z,ez,e⟩:=bind_some e;cases e;obtain ⟨n1,n2,n3⟩:=eO G hx;obtain ⟨m1,m2,m3⟩:=eO G hT;obtain ⟨m4,m5,m6⟩:=eO G hT';refine wpAny_Call_Name_kw (eK (u:=.builtin "isinstance") F R n2 n3 (by decide +kernel) n1 ?_);refine PyProof.Rows.callWith_builtin1 ?_ (bZ a hs) (cA pos [.Tuple [.Name "list" q1,.Name "tuple" q2] k q3] rfl);rw [bZ a hs];show Wp _ _ (spliced ((false,eval a X.env)::backTo pos (starEach [.Tuple [.Name "list" q1,.Name "tuple" q2] k q3] X.env))) _ _ s;refine Calls.spliced_cons (thn (S.E G a R F e1) fun u s1 ⟨M1,l1,R1,r1⟩=>jT (by rfl) ?_);refine wpAny_Tuple_spliced ?_;rw [bZ (X:=X) (es:=[.Name "tuple" q2]) (.Name "list" q1) rfl];show Wp _ _ (spliced ((false,eval (.Name "list" q1) X.env)::backTo q3 (starEach [.Name "tuple" q2] X.env))) _ _ s1;refine Calls.spliced_cons (eK (u:=.type "list") (F.go l1) R1 m2 m3 (by decide +kernel) m1 (jT (by rfl) (eK (u:=.type "tuple") (F.go l1) R1 m5 m6 (by decide +kernel) m4 ⟨by decide,?_⟩)));have R2:Mem X.S κ M1 h' { s1 with heap:=s1.heap.push { cls:=.type "tuple",data:=.seq #[.type "list",.type "tuple"] } }:=R1.kept (t:=s1.toks) fun b o e=>Heap.get?_push_of_some _ e;obtain ⟨H,kx,hp,n⟩:=aZ8 R2 r1 ez;exact PySem.W.kia_tup kx (F.kin.keeps R2.bk) hp (Heap.get?_push_size _ rfl) (bG8 X.S.K z) n fun tk=>((R2.tok tk).pb).go l1
end
end DL

namespace DL
open PySem PySem.Spec PyProof.Rows L2 CI
section
variable {X:Cx} {st:Sta} {d:Nat} {v:Evs} {κ:Kp} {M:Mp} {δ:DSt} {h h':aA} {s:Shared} {a b c e o tg iter:Expr} {es:List Expr} {pos p p2 apos:Pos} {x m:Str} {w:W}
theorem aH8 {h1:aA} {j:Nat} (hp:(match W.c j with
  | .c j=>(match h1[j]? with
   | some (.l _)=>true
   | some (.r _)=>true
   | _=>false)
  | _=>false)=true):(∃ xs,DL.ref h1 (.c j)=some (.list xs))\/∃ i xs,W.c j=.c i/\h1[i]?=some (.r xs):=by
 dsimp only at hp;split at hp
 ·rename_i xs e;exact .inl ⟨xs,by unfold DL.ref;dsimp only;rw [e]⟩
 ·rename_i xs e;exact .inr ⟨j,xs,rfl,e⟩
 ·cases hp
def aT6 {S:Sx} {A:Around} {E:Value->Shared->Prop} {i k:Nat} {p:Addr×Addr} {is:List Nat} {u:Value} (R:Mem S κ M h s) (ep:M.m[i]?=some p) (ei:h[i]?=some (.r is)) (hz:is.length < sizeLine) (rx:RepW S M (.c k) u):Wp S A (call (.builtin "list.append") [.ref p.1,u]) (Pw S κ M (h.set i (.r (is++[k]))) (.d .none)) E s:=by
 obtain ⟨us,n,e,hl,r⟩:=R.cel i p _ ep ei;have hlen:=r.length;rw [List.length_map] at hlen;refine call_meets F.slot_list_append ⟨_,e,rfl⟩ F.entry_list_append (F.args_list_append_2 _ _) (PySem.list_append p.1 us.toArray n u (by rw [List.size_toArray];omega)) ⟨e,?_⟩;exact (R.lset (t:=s.toks) (us':=us++[u]) (c:=.r (is++[k])) ep e (by simp) fun h2 n' e'=>⟨_,n',e',by rw [List.length_append,List.length_singleton];omega,by rw [List.map_append];exact Paired.snoc r rx⟩).pn
def bH0 (S:Snd v) (G:Good X st d) {g:W->List W->aA->Option (W×aA)} (hg:bD6 m=some g) (ho:iA o=true) (hl:(apos.endLine==pos.line)=true) (hn:(a::es).length < 29):SE X (.Call (.Attribute o m apos) (a::es) [] pos) (aZ5 v st o m g (a::es)):=by
 intro κ M δ h s w h' R F q0;obtain ⟨x,h1,e1,q1⟩:=aG q0;obtain ⟨hp,q2⟩:=aF q1;obtain ⟨⟨ws,h2⟩,e2,e⟩:=bind_some q2;clear q0 q1 q2;unfold bD6 at hg;split at hg
 ·rename_i hm;subst hm;cases hg;unfold gJ at hp;rw [if_pos rfl] at hp;unfold zG at e;dsimp only at e;split at e
  ·rename_i j z;refine rO S G PySem.F.slot_list_append PySem.F.type_list_append ho hl hn R F e1 (aH8 hp) e2 fun {M2 u us s2} l2 R2 r2 rs=>?_;split at e
   ·rename_i xs ej;obtain ⟨hz,e⟩:=aF e;cases e;obtain ⟨u1,rfl,ru⟩:=w1 rs;obtain ⟨p,ep,rfl⟩:=r2;exact thn (bF9 R2 ep ej hz ru) fun _ _ q=>q.go l2
   ·cases e
  ·rename_i j k;refine rO S G PySem.F.slot_list_append PySem.F.type_list_append ho hl hn R F e1 (aH8 hp) e2 fun {M2 u us s2} l2 R2 r2 rs=>?_;split at e
   ·rename_i is ej;obtain ⟨hz,e⟩:=aF e;cases e;obtain ⟨u1,rfl,ru⟩:=w1 rs;obtain ⟨p,ep,rfl⟩:=r2;exact thn (aT6 R2 ep ej hz ru) fun _ _ q=>q.go l2
   ·cases e
  ·cases e
 ·split at hg
  ·rename_i hm;subst hm;cases hg;dsimp only at e;split at e
   ·rename_i xs z;obtain ⟨hz,e⟩:=aF e;obtain ⟨j,ej,e⟩:=map_some e;cases e;refine rO S G PySem.F.slot_list_index PySem.F.type_list_index ho hl hn R F e1 (.inl ⟨xs,rfl⟩) e2 fun {M2 u us s2} l2 R2 r2 rs=>?_;obtain ⟨u1,rfl,ru⟩:=w1 rs;exact thn (aG9 (x:=.d .none) G.rm R2 r2 ru hz ej) fun _ _ q=>q.go l2
   ·cases e
  ·cases hg
def bV7 (S:Snd v) (G:Good X st d) (ho:iA o=true) (hl:(apos.endLine==pos.line)=true):SE X (.Call (.Attribute o "pop" apos) [a] [] pos) (bR5 v st o a):=by
 intro κ M δ h s w h' R F e;obtain ⟨x,h1,e1,e⟩:=aG e;rcases x with _ | j
 ·cases e
 dsimp only at e;split at e
 ·rename_i xs0 ej;obtain ⟨⟨ws,h2⟩,e2,e⟩:=bind_some e;refine rO S G PySem.F.slot_list_pop PySem.F.type_list_pop ho hl (by decide:1 < 29) R F e1 (.inl ⟨xs0,by unfold DL.ref;dsimp only;rw [ej]⟩) e2 fun {M2 u us s2} l2 R2 r2 rs=>?_;have e:zH j ws h2=some (w,h'):=e;rcases ws with _ | ⟨(_ | _ | i | _ | _ | _ | _) | _,_ | ⟨_,_⟩⟩<;>first | cases e;done | skip
  unfold zH at e;rcases ej2:h2[j]? with _ | c
  ·rw [ej2] at e;cases e
  rw [ej2] at e;cases c<;>first | (cases e;done) | skip
  rename_i i xs;obtain ⟨n,en,e⟩:=bind_some e;obtain ⟨z,ez,e⟩:=bind_some e;obtain ⟨⟨q1,q2⟩,e⟩:=aF e;cases e;obtain ⟨u1,rfl,ru⟩:=w1 rs;obtain ⟨t,rfl⟩:=wi.mp ru;obtain ⟨p,ep,rfl⟩:=r2;exact thn (bG0 R2 ep ej2 en ez q1 q2) fun _ _ q=>q.go l2
 ·cases e
def bV8 (S:Snd v) (G:Good X st d) (ho:iA o=true) (hl:(apos.endLine==pos.line)=true) (hs:aH a=true):SE X (.Call (.Attribute o "extend" apos) [a] [] pos) (bR6 v st o a):=by
 intro κ M δ h s w h' R F e;obtain ⟨x,h1,e1,e⟩:=aG e;rcases x with _ | j
 ·cases e
 dsimp only at e;split at e
 ·rename_i xs0 ej;obtain ⟨⟨ys,h2⟩,e2,e⟩:=bind_some e;have hst:([a]:List Expr).all aH=true:=by rw [List.all_cons,hs];rfl
  refine wpAny_Call_method_late (rL ho _ _) (vK hst (by decide:1 < 29) _ _) hl rfl (thn (S.E G o R F e1) fun u s1 ⟨M1,l1,R1,r1⟩=>?_);obtain ⟨p,ep,rfl⟩:=r1;obtain ⟨us,n,hob,_⟩:=R1.cel j p _ ep ej;refine ⟨"list",_,PySem.F.plainAttrs_list,PySem.F.slot_list_extend,PySem.F.type_list_extend,(cY hob).isList.typeIs,fun c ec=>by cases ec;exact ⟨_,hob,rfl⟩,?_⟩;have hsp:=jT (pos:=pos) (E:=NE) hs (P:=fun us s2=>Wp X.S X.A (call (.builtin "list.extend") (.ref p.1::us)) (Pw X.S κ M h' w) NE s2) (thn (S.F G a R1 (F.go l1) e2) fun u2 s2 ⟨M2,l2,R2,b,vs,m,eb,hb,fb,hz,rb⟩=>?_)
  ·have han:=cA (X:=X) pos [a] hst;rw [bZ (es:=[]) a hs] at hsp han ⊢;exact Calls.callWith_builtin han (Calls.evalArgs_plain hsp)
  subst eb;dsimp only at e;split at e
  ·rename_i xs ej2;obtain ⟨hz2,e⟩:=aF e;cases e;exact thn (bG1 R2 (l2.at ep) ej2 hb rb hz2) fun _ _ q=>q.go (l1.trans l2)
  ·cases e
 ·cases e
def aH9:SI X tg iter xno:=fun _ _ _ _ _ _ _ _ _ e=>by cases e
def aI0 (h:wY tg=true):∃ es k p,tg=.Tuple es k p:=by
 cases tg<;>first | exact ⟨_,_,_,rfl⟩ | cases h
def rQ (S:Snd v):ItS v:=by
 intro X st d G tg iter;unfold pC;cases hq:itS iter with
 | some y =>
  obtain ⟨⟨x,a,ob⟩,p,pos,he⟩:=y;clear hq;subst he;cases ob with
  | none =>
  dsimp only;split
  ·rename_i hx;subst hx;split
   ·rename_i hc;rw [Bool.and_eq_true] at hc;exact bF1 S G hc.1 hc.2
   ·exact aH9
  ·split
   ·rename_i hx;subst hx;split
    ·rename_i hc;rw [Bool.and_eq_true,Bool.and_eq_true] at hc;obtain ⟨es,k,p,rfl⟩:=aI0 hc.2;exact bG4 S G hc.1.1 hc.1.2
    ·exact aH9
   ·exact vC S G
  | some b =>
  dsimp only;split
  ·rename_i hx;subst hx;split
   ·rename_i hc;rw [Bool.and_eq_true,Bool.and_eq_true] at hc;exact bF2 S G hc.1.1 hc.1.2 hc.2
   ·exact aH9
  ·split
   ·rename_i hx;subst hx;split
    ·rename_i hc;rw [Bool.and_eq_true,Bool.and_eq_true,Bool.and_eq_true] at hc;obtain ⟨es,k,p,rfl⟩:=aI0 hc.2;exact bV5 S G hc.1.1.1 hc.1.1.2 hc.1.2
    ·exact aH9
   ·exact vC S G
 | none =>
  dsimp only;split
  ·exact aH9
  ·exact vC S G
def bV9 (S:Snd v) (G:Good X st d):SE X e (bD9 v st e):=by
 unfold bD9;cases hq:lcS e with
 | some y =>
  obtain ⟨⟨tg,iter,ifs,a,sc⟩,lp,p,he⟩:=y;clear hq;subst he;dsimp only;split
  ·rename_i ha;subst ha;unfold aE6;split
   ·rename_i hc;rw [Bool.and_eq_true] at hc;have hset:jM iter=false:=by simpa using hc.2
    intro κ M δ h s w h' R F e;obtain ⟨⟨all,c⟩,h1,e1,e⟩:=aG e;obtain ⟨⟨is,h2⟩,e2,e3⟩:=bind_some e;cases e3;refine thn (aG6 G.rm.hd (by rw [G.S,G.N];exact rI hc.1) (rQ S G tg iter) (fun cl C=>S.G (dM G cl C) tg) (fun cl C=>vE S (dM G cl C) ifs) (fun cl C=>?_) (rJ hset _) R F e1 (kY e2)) fun _ _ p=>cK7 p;exact pK (uZ (es:=[]) S (dM G cl C))
   ·exact cH
  ·exact cH
 | none=>exact S.E G _
end
end DL

namespace DL
open PySem PySem.Spec PyProof.Rows L2 CI
section
variable {X:Cx} {κ:Kp} {M:Mp} {h h':aA} {s:Shared} {δ:DSt} {v:Evs} {st:Sta} {d:Nat} {a k:Expr} {p2 pos:Pos}
theorem bW0 (S:Snd v) (G:Good X st d):SF X (.Subscript a (.Slice none none (some k) p2) pos) (xb (v.E st a) fun x=>xb (kW v st (some k)) fun o=>fun _ h=>(match ref h x with
  | some (.list xs)=>if o=some (-1) then some (xs.reverse,h) else none
  | _=>none)):=by
 intro κ M δ h s w h' R F e;obtain ⟨x,h1,e1,e⟩:=aG e;obtain ⟨o,h2,e2,e⟩:=aG e;refine Subscript_ (thn (S.E G a R F e1) fun u s1 ⟨M1,l1,R1,r1⟩=>?_);refine wpAny_Slice ?_;rw [evalPart_none];refine wpAny_pure (wpAny_pure (thn (aG0 S G (some k) R1 (F.go l1) e2) fun vk s2 ⟨pk,M2,l2,R2⟩=>?_));have R4:Mem X.S κ M2 h2 { s2 with heap:=s2.heap.push { cls:=.type "slice",data:=.fields #[.none,.none,vk] } }:=R2.kept (t:=s2.toks) fun b ob q=>Heap.get?_push_of_some _ q;split at e
 ·rename_i xs ea;obtain ⟨ho1,e⟩:=aF e;cases e;subst ho1;obtain ⟨a',vs,n,rfl,ho,hz,rr⟩:=dS R4 (r1.go l2) ea;show Wp X.S X.A (subscriptTail a (.Slice none none (some k) p2) (.ref a') (.ref s2.heap.objs.size)) _ _ { s2 with heap:=s2.heap.push { cls:=.type "slice",data:=.fields #[.none,.none,vk] } };refine tail_any (ops:=[.ref a',.ref s2.heap.objs.size]) (cY ho).isList.typeIs slot_list_getitem.lookup ?_ (by with_unfolding_all rfl);refine wpAny_getItem_list_slice (cY ho).isList (Heap.IsSliceOf.new ..) .none .none pk (by decide) ?_ (by rw [List.size_toArray];omega);rw [PySem.W.krv_pick];refine ⟨M2,l1.trans l2,R4.kept (t:=s2.toks) fun b ob q=>Heap.get?_push_of_some _ q,_,vs.reverse,0,rfl,Heap.get?_push_size _ rfl,R4.size,?_,cK2 rr⟩;rw [List.length_reverse];exact hz
 ·cases e
end
end DL

namespace ST
open PySem PySem.Spec PyProof.Rows
section
variable {prog:Program} {w:World} {A:Around} {E:Value->Shared->Prop} {s:Shared} {ks:List Int}
def zU {x:Value} {Q:Value->Shared->Prop} {n:Nat} (h64:n < 64)
  (hc:∀ R,(∀ (vs:List Value) (ns:List Int) h' dr tk,IntsAre vs ns->vs.length=n->ns.Perm ks->(∀ b o,s.heap.get? b=some o->h'.get? b=some o)->R vs { s with heap:=h',drawn:=dr,toks:=tk })->wpAny (model prog w) A.in1 (collect x) R E s)
  (h:∀ (a:Addr) (vs:List Value) (ns:List Int) (c:Nat) h' dr tk,IntsAre vs ns->ns.Perm ks->ns.Pairwise (·<=·)->s.heap.get? a=none->h'.get? a=some (seqObj "list" vs.toArray c)->(∀ b o,s.heap.get? b=some o->h'.get? b=some o)->Q (.ref a) { s with heap:=h',drawn:=dr,toks:=tk }) :
  wpAny (model prog w) A (call (.builtin "sorted") [x]) Q E s:=by
 refine Calls.call_function_entry kind_sorted plain_sorted entry_sorted (args_sorted1 _) ?_;unfold Builtin.«sorted»;refine wpAny_bind (m:=checkCount "sorted" 1 1 _) (wpAny_pure (wpAny_bind (hc _ fun vs ns h1 dr tk hi hl hp k1=>?_)));refine wpAny_bind (wpAny_newList ?_ (by rw [hl,sizeLine_eq];omega));have hoL:(h1.push (seqObj "list" vs.toArray 0)).get? h1.objs.size=some (seqObj "list" vs.toArray 0):=Heap.get?_push_size _ rfl;refine wpAny_bind (wpAny_holding (wpAny_call_entry slot_list_sort ⟨_,hoL,rfl⟩ entry_list_sort (list_sort_tree hoL hi (by omega) fun out ns' a1 a2 a3=>⟨_,rfl,?_⟩) (args_list_sort _)));obtain ⟨c,ec⟩:=sortedHeap_at (out:=out) hoL;refine wpAny_pure ⟨_,rfl,h h1.objs.size out.toList ns' c _ dr tk a1 (a2.trans hp) a3 (by cases q:s.heap.get? h1.objs.size with | none=>rfl | some o=>exact absurd (Heap.lt_size (k1 _ o q)) (Nat.lt_irrefl _)) (by rw [Array.toArray_toList];exact ec) fun b o e=>?_⟩;have bl:b < h1.objs.size:=Heap.lt_size (k1 b o e);rw [sortedHeap_old (Nat.ne_of_lt bl) (by rw [size_push'];exact Nat.lt_succ_of_lt bl)];exact Heap.get?_push_of_some _ (k1 b o e)
end
def srt_perm (ns:List Int):(srt ns).Perm ns:=List.mergeSort_perm _ _
def srt_le (ns:List Int):(srt ns).Pairwise (·<=·):=by
 have h:=List.pairwise_mergeSort (le:=fun a b:Int=>decide (a<=b)) (fun a b c h1 h2=>by simp at *;omega) (fun a b=>by simp;omega) ns;exact h.imp fun h=>by simpa using h
def aI1 {a ns:List Int} (p:a.Perm ns) (o:a.Pairwise (·<=·)):a=srt ns:=(p.trans (srt_perm ns).symm).eq_of_pairwise (fun a b _ _ h1 h2=>Int.le_antisymm h1 h2) o (srt_le ns)
end ST
namespace DL
open PySem PySem.Spec PyProof.Rows L2 CI ST
theorem jU {S:Sx} {Z:Zm}:∀ {xs:List PyData} {ns:List Int} {us:List Value},dQ xs=some ns->Paired (Rep S Z) xs us->IntsAre us ns
 | [],_,_,e,r=>by cases e;cases r;exact .nil
 | x::xs,_,_,e,r=>by
  cases r with
  | cons a b =>
   cases x<;>first | cases e;done | skip
   obtain ⟨ns,e1,rfl⟩:=map_some (show (dQ xs).map _=_ from e);obtain ⟨t,rfl⟩:=rep_i.mp a;exact .cons _ _ (jU e1 b)
theorem pW {S:Sx} {Z:Zm}:∀ {ns:List Int} {vs:List Value},IntsAre vs ns->Paired (Rep S Z) (ns.map .int) vs
 | _,_,.nil=>.nil
 | _,_,.cons n t h=>.cons (rep_i.mpr ⟨t,rfl⟩) (pW h)
def Mem.dr {S:Sx} {κ:Kp} {M:Mp} {h:aA} {s:Shared} (R:Mem S κ M h s) (h':Heap) (d:Drawn) (t:Nat) (k:∀ b o,s.heap.get? b=some o->h'.get? b=some o):Mem S κ M h { s with heap:=h',drawn:=d,toks:=t }:=R.keep (fun b o e _=>k b o e) R.bare rfl
section
variable {X:Cx} {st:Sta} {d:Nat} {v:Evs} {a:Expr} {es:List Expr} {p pos:Pos}
def bW1 (S:Snd v) (G:Good X st d) (hx:(dF st "sorted"&&(slot st "sorted").isNone&&st.bl.contains "sorted")=true):SF X (.Call (.Name "sorted" p) (a::es) [] pos) (xb (aV v st (a::es)) fun ws=>fun _ h=>qW ws h):=by
 intro κ M δ h s w h' R F e;obtain ⟨ws,h1,e1,e⟩:=aG e;refine nQ (f:=.builtin "sorted") S G hx (by decide +kernel) (.inl ⟨_,rfl⟩) R F e1 fun {M1 us s1} l1 R1 r1=>?_;have fin:∀ {ns:List Int} {u:Value} {vs:List Value},IntsAre vs ns->ns.length < 64->(∀ Rr:List Value->Shared->Prop,(∀ h2,(∀ b o,s1.heap.get? b=some o->h2.get? b=some o)->Rr vs { s1 with heap:=h2 })->Wp X.S X.A.in1 (collect u) Rr NE s1)->Wp X.S X.A (call (.builtin "sorted") [u]) (Pf X.S κ M h1 ((srt ns).map .int)) NE s1:=fun {ns u vs} hi hl hc=>by
  refine zU (ks:=ns) (n:=vs.length) (by rw [hi.length];exact hl) (fun Rr hR=>hc Rr fun h2 k=>hR vs ns h2 s1.drawn s1.toks hi rfl (List.Perm.refl _) k) fun b vs' ns' c h2 dr tk hi' hp ho hz hb k=>?_;have e2:=aI1 hp ho;subst e2;have hlen:=hi'.length;have hpl:=hp.length_eq;exact ⟨M1,l1,R1.dr h2 dr tk k,b,vs',c,rfl,hb,R1.new hz,by rw [hlen,hpl,sizeLine_eq];omega,pW hi'⟩
 unfold qW at e;split at e
 ·obtain ⟨u,rfl,ru⟩:=w1 r1;split at e
  ·rename_i xs ex;obtain ⟨ns,en,e⟩:=bind_some e;obtain ⟨hl,e⟩:=aF e;cases e;obtain ⟨b,vs,n,rfl,ho,hz,rr⟩:=dS R1 ru ex;exact fin (jU en rr) hl fun Rr hR=>wpAny_collect_seq b (.inl rfl) ho rfl rfl (fun h2 k=>hR h2 k) (by simpa using hz)
  ·rename_i xs ex;obtain ⟨ns,en,e⟩:=bind_some e;obtain ⟨hl,e⟩:=aF e;cases e;obtain ⟨b,vs,n,rfl,z,hz,rr⟩:=gX R1 ru ex;exact fin (jU en rr) hl fun Rr hR=>wpAny_collect_seq b (.inr rfl) (R1.z _ _ z) rfl rfl (fun h2 k=>hR h2 k) (by simpa using hz)
  ·cases e
 ·cases e
end
end DL

namespace L2
open PySem PySem.Spec PyProof.Rows
def vL {kvs:List (Key×Value)} {k:Key} {v:Value}:(stored kvs k v).length<=kvs.length+1:=by
 unfold stored;split
 ·rw [List.length_map];omega
 ·rw [List.length_append];simp
theorem jD:∀ (more kvs:List (Key×Value)),(merged kvs more).length<=kvs.length+more.length
 | [],kvs=>by simp [merged]
 | p::r,kvs=>by
  have:=jD r (stored kvs p.1 p.2);have h2:=vL (kvs:=kvs) (k:=p.1) (v:=p.2);show (merged (stored kvs p.1 p.2) r).length<=_;rw [List.length_cons];omega
def tP:entryFor table "dict.update.loop"=some Builtin.«dict.update.loop»:=entryFor_of_tree (by kernel_rfl)
def jV:plainId "dict.update.loop"=true:=by decide +kernel
section
variable {prog:Program} {w:World} {A:Around} {R:Result->Shared->Prop} {I:Addr} {fp wr:List Addr} {n:Nat} {P:Nat->Value->Prop} {St:Nat->Heap->Prop}
def zV (W:Walks prog w A.in1 I fp wr n P St) (D:Addr) (hDf:D∉fp) (g0:Heap) (DS:Nat->Heap->Prop) (hmv:∀ i h h',DS i h->(∀ b o,b∉wr->h.get? b=some o->h'.get? b=some o)->DS i h')
  (hval:∀ i v,P i v->∃ p kv u,v=.ref p/\g0.IsTuple p #[kv,u]/\p≠D/\p∉wr/\∀ (s:Shared) (Q:Unit->Shared->Prop) (E:Value->Shared->Prop),DS i s.heap->(∀ b o,b≠D->b∉wr->g0.get? b=some o->s.heap.get? b=some o)->(∀ h2 tk,DS (i+1) h2->Heap.SameBut D s.heap h2->Q () { s with heap:=h2,toks:=tk })->wpAny (model prog w) A.in1 (dictSet D kv u) Q E s) :
  ∀ (k i:Nat) (s:Shared) (j:Int) (t:Tok),n - i=k->i<=n->St i s.heap->DS i s.heap ->
   (∀ b o,b≠D->b∉wr->g0.get? b=some o->s.heap.get? b=some o) ->
   (∀ h' tk,DS n h'->(∀ b o,b≠D->b∉wr->s.heap.get? b=some o->h'.get? b=some o)->R (.ok (.ret .none)) { s with heap:=h',toks:=tk }) ->
   codeAny (model prog w) A (.builtin "dict.update.loop" ⟨[.ref D,.ref I,.int j t,.none],[]⟩) R s:=by
 intro k;induction k with
 | zero =>
  intro i s j t hk hi hst hD hg hR;have e:i=n:=by omega
  subst e;refine codeAny_builtin tP ?_;rw [Around.under_plainId jV _];show wpAny _ A.in1 (pyNext (.ref I) >>= _) _ _ s;refine wpAny_bind (W.done s _ _ hst fun h' tk hm=>?_);have q:=hR h' tk (hmv _ _ _ hD hm) (fun b o _ hb e=>hm b o hb e);clear hR;unfold Builtin.Dict.addKeywords
  repeat (any_goals (first | assumption | wp_step))
 | succ k ih =>
  intro i s j t hk hi hst hD hg hR;have hlt:i < n:=by omega
  refine codeAny_builtin tP ?_;rw [Around.under_plainId jV _];show wpAny _ A.in1 (pyNext (.ref I) >>= _) _ _ s;refine wpAny_bind (W.item i s _ _ hlt hst fun v h' tk hP hst' hm=>?_);obtain ⟨p,kv,u,rfl,⟨op,hop,hcp,np,hdp⟩,hpD,hpw,hset⟩:=hval i v hP;have hp1:h'.get? p=some op:=hm p op hpw (hg p op hpD hpw hop);have hT:({ s with heap:=h',toks:=tk }:Shared).TypeIs (.ref p) "tuple":=⟨_,hp1,hcp⟩;have LT:PySem.W.Looks (model prog w) h' (typeOf (.ref p)) (.type "tuple"):=hcp ▸ (PySem.W.Looks.ld hp1).andThen .now;unfold Builtin.Dict.pairItems;dsimp only;refine wpAny_bind (wpAny_holding ?_);refine wpAny_bind (wpAny_tryCatch ?_);refine wpAny_bind (LT.at ?_);rw [if_pos (by decide)];refine wpAny_bind (wpAny_seqItems hp1 hdp (wpAny_pure ?_));dsimp only [Option.getD];refine wpAny_holding ?_;refine hset _ _ _ (hmv _ _ _ hD hm) (fun b o b1 b2 e=>hm b o b2 (hg b o b1 b2 e)) fun h2 tk2 hD2 hs2=>?_;refine wpAny_pure ⟨plainId_quiet jV _,ih (i+1) _ (j+1) 0 (by omega) hlt (W.frame _ h' _ hst' fun b hb o e=>?_) hD2 (fun b o b1 b2 e=>?_) fun h3 tk3 hD3 hk3=>hR h3 tk3 hD3 fun b o b1 b2 e=>hk3 b o b1 b2 ?_⟩
  ·rw [hs2.2 b (fun z=>hDf (by rw [<- z];exact hb))];exact e
  ·rw [hs2.2 b b1];exact hm b o b2 (hg b o b1 b2 e)
  ·rw [hs2.2 b b1];exact hm b o b2 e
end
def rR:typeLookup (.type "list") "keys"=pure none:=by rw [typeLookup_type,builtinLookup_eq_fast];kernel_rfl
def zW:typeLookup (.type "list") "__getattr__"=pure none:=by rw [typeLookup_type,builtinLookup_eq_fast];kernel_rfl
def zX:entryFor table "list.__getattribute__"=some Builtin.«object.__getattribute__»:=entryFor_alias (id':="object.__getattribute__") (by kernel_rfl) (by decide +kernel) (by decide +kernel) (by kernel_rfl)
def jE {prog:Program} {w:World} {A:Around} {E:Value->Shared->Prop} {s:Shared} {a:Addr} {o:Obj} {xs:Array Value} {k:Nat} {name:Str} {Q:Option Value->Shared->Prop}
  (hx:s.heap.get? a=some o) (hc:o.cls=.type "list") (hdat:o.data=.seq xs k) (hd:o.dict=none) (hmiss:typeLookup (.type "list") name=pure none) (hname:(["__module__","__name__","__qualname__","__doc__","__annotations__"]:List Str).contains name=false) (hA:A.handled=none)
  (h:∀ h' tk e,Heap.NewExcOf s.heap h' e "AttributeError"->Q none { s with heap:=h',toks:=tk }) (hsz:name.length+100<=sizeLine:=by size_fits):wpAny (model prog w) A (getAttr? (.ref a) name) Q E s:=by
 obtain ⟨c,dct,dat,sl⟩:=o;dsimp only at hc hdat hd;subst hc hdat hd;obtain ⟨hp,g,d,tk,os⟩:=s;have hT:∀ tk',(⟨hp,g,d,tk',os⟩:Shared).TypeIs (.ref a) "list":=fun _=>⟨_,hx,rfl⟩;have g1:=sub_AttributeError;have g3:=F.slot_list_getattribute.lookup;have g4:=F.slot_list_getattribute.bind (.ref a);have g5:=zW;unfold getAttr? getAttrBy? getAttrBy
 repeat (any_goals (first | assumption | exact hT _ | ((with_reducible show wpAny _ _ (call (Value.builtin "list.__getattribute__") _ _) _ _ _);refine call_meets F.slot_list_getattribute (hT _) zX (F.args_list_getattribute_2 _ _) (meets_getattribute_miss_list a xs k sl name _ hmiss hname hsz) ⟨hx,hA,fun h' tk' e hx'=>?_⟩) | wp_step))
 obtain ⟨t',u',he⟩:=hx'.there;show wpAny _ _ (getattributeRaised _ _ _ _ _ _ _) _ _ _;unfold getattributeRaised
 repeat (any_goals (first | assumption | wp_step))
 exact h _ _ _ hx'.of
section
variable {prog:Program} {w:World} {A:Around} {E:Value->Shared->Prop} {s:Shared}
def nR {a:Addr} {o:Obj} {its:List Value} {n:Nat} {Q:Value->Shared->Prop} (hh:A.handled=none) (ho:s.heap.get? a=some o) (hc:o.cls=.type "list") (hdat:o.data=.seq its.toArray n) (hd:o.dict=none) (DS:Nat->Heap->Prop)
  (hmv:∀ i h h',DS i h->(∀ b o,b<=s.heap.objs.size->h.get? b=some o->h'.get? b=some o)->DS i h') (h0:∀ h',(∀ b o,(s.heap.push { cls:=.type "dict",data:=.dict #[] }).get? b=some o->h'.get? b=some o)->DS 0 h')
  (hval:∀ (i:Nat) (v:Value),its[i]?=some v->∃ p kv u,v=.ref p/\s.heap.IsTuple p #[kv,u]/\∀ (s':Shared) (Q:Unit->Shared->Prop) (E:Value->Shared->Prop),DS i s'.heap->(∀ b o,s.heap.get? b=some o->s'.heap.get? b=some o)->(∀ h2 tk,DS (i+1) h2->Heap.SameBut s.heap.objs.size s'.heap h2->Q () { s' with heap:=h2,toks:=tk })->wpAny (model prog w) A.in1.in1 (dictSet s.heap.objs.size kv u) Q E s')
  (h:∀ h' tk,DS its.length h'->(∀ b o,s.heap.get? b=some o->h'.get? b=some o)->Q (.ref s.heap.objs.size) { s with heap:=h',toks:=tk }) :
  wpAny (model prog w) A (call (.type "dict") [.ref a]) Q E s:=by
 refine callType_codes (Q₁:=fun obj s₁=>obj=.ref s.heap.objs.size/\s₁={ s with heap:=s.heap.push { cls:=.type "dict",data:=.dict #[] } }) F.kt_called_dict (F.kt_typeCall_dict_1 _) F.entry_dict_init (kt_code_dict_new _ ⟨rfl,rfl⟩) ?_;rintro obj s₁ ⟨rfl,rfl⟩;have hnew:(s.heap.push { cls:=.type "dict",data:=.dict #[] }).DictOf (bQ prog w) s.heap.objs.size []:=Heap.DictOf.new s.heap;have ho':(s.heap.push { cls:=.type "dict",data:=.dict #[] }).get? a=some o:=Heap.get?_push_of_some _ ho;have hT:Shared.TypeIs { s with heap:=s.heap.push { cls:=.type "dict",data:=.dict #[] } } (.ref a) "list":=⟨_,ho',hc⟩;refine ⟨hnew.typeIs,F.args_dict_init_2 _ _,?_⟩;unfold Builtin.«dict.__init__»;refine wpAny_bind ?_;unfold Builtin.Dict.selfAndRest;refine wpAny_bind (wpAny_notOrdered_dict hnew.typeIs (wpAny_pure ?_));show wpAny _ _ (Builtin.Dict.updateFrom "dict.__init__" s.heap.objs.size (.ref a) [] .none) _ _ _;unfold Builtin.Dict.updateFrom;refine wpAny_bind (wpAny_typeOf hT ?_);rw [if_pos (by decide)];refine wpAny_bind (jE ho' hc hdat hd rR (by decide +kernel) (by simp [hh]) fun h1 tk1 e1 ne=>?_);rw [if_pos (by rfl)];have keep1:∀ b q,s.heap.get? b=some q->h1.get? b=some q:=fun b q e=>ne.keeps b q (Heap.get?_push_of_some _ e);have hD1:DS 0 h1:=h0 h1 ne.keeps;have hi1:h1.IsList a its.toArray:=⟨o,keep1 a o ho,hc,n,hdat⟩;have hlt:a < s.heap.objs.size:=Heap.lt_size ho;have hsz:s.heap.objs.size < h1.objs.size:=by
  obtain ⟨o,es,ep,ho,r⟩:=hnew;exact Heap.lt_size (ne.keeps _ _ ho)
 have hI:a≠h1.objs.size:=Nat.ne_of_lt (Nat.lt_trans hlt hsz);refine wpAny_bind (wpAny_rule (wpAny_bind (wpAny_pyIter_list hi1 (wpAny_pure ⟨plainId_quiet jV _,?_⟩))));refine zV (A:=A.in1) (Walks.list (A:=A.in1.in1) (by simp [hh]) h1.objs.size a hI its.toArray) s.heap.objs.size ?_ s.heap DS (fun i h h' q k=>hmv i h h' q fun b o hb e=>k b o ?_ e) (fun i v hv=>?_) _ 0 _ 0 0 rfl (Nat.zero_le _) ⟨⟨_,Heap.get?_push_size _ rfl,rfl,rfl⟩,hi1.push _⟩ (hmv _ _ _ hD1 fun b o _ e=>Heap.get?_push_of_some _ e) (fun b o _ _ e=>Heap.get?_push_of_some _ (keep1 b o e)) fun h' tk hd' hk=>?_
 ·simp only [List.mem_cons,List.mem_singleton,List.not_mem_nil,or_false,not_or];exact ⟨Nat.ne_of_lt hsz,Nat.ne_of_gt hlt⟩
 ·simp only [List.mem_singleton];exact Nat.ne_of_lt (Nat.lt_of_le_of_lt hb hsz)
 ·obtain ⟨p,kv,u,h1',h2,h3⟩:=hval i v (by simpa using hv);have hpl:p < s.heap.objs.size:=by obtain ⟨o,ho,_⟩:=h2;exact Heap.lt_size ho
  refine ⟨p,kv,u,h1',h2,Nat.ne_of_lt hpl,?_,fun s' Q' E' q k f=>h3 s' Q' E' q (fun b o e=>k b o (Nat.ne_of_lt (Heap.lt_size e)) ?_ e) f⟩
  ·simp only [List.mem_singleton];exact Nat.ne_of_lt (Nat.lt_trans hpl hsz)
  ·simp only [List.mem_singleton];exact Nat.ne_of_lt (Nat.lt_trans (Heap.lt_size e) hsz)
 ·refine ⟨rfl,h h' tk (by simpa using hd') fun b o e=>?_⟩;have hbl:b < s.heap.objs.size:=Heap.lt_size e;refine hk b o (Nat.ne_of_lt hbl) ?_ (Heap.get?_push_of_some _ (keep1 b o e));simp only [List.mem_singleton];exact Nat.ne_of_lt (Nat.lt_trans hbl hsz)
def xJ (h:Heap) (its:List Value) (ps:List (Key×Value)):Prop:=its.length=ps.length/\∀ (i:Nat) (v:Value),its[i]?=some v->∃ p k t u,v=.ref p/\h.IsTuple p #[.int k t,u]/\ps[i]?=some (.inl k,u)
def lB {a:Addr} {o:Obj} {its:List Value} {n:Nat} {ps:List (Key×Value)} {Q:Value->Shared->Prop} (hh:A.handled=none) (ho:s.heap.get? a=some o) (hc:o.cls=.type "list") (hdat:o.data=.seq its.toArray n) (hd:o.dict=none) (hp:xJ s.heap its ps) (hn:its.length<=1000)
  (h:∀ h' tk,h'.DictOf (bQ prog w) s.heap.objs.size (merged [] ps)->(∀ b o,s.heap.get? b=some o->h'.get? b=some o)->Q (.ref s.heap.objs.size) { s with heap:=h',toks:=tk }) :
  wpAny (model prog w) A (call (.type "dict") [.ref a]) Q E s:=by
 refine nR hh ho hc hdat hd (fun i h=>i<=ps.length/\h.DictOf (bQ prog w) s.heap.objs.size (merged [] (ps.take i))) (fun i h h' q k=>?_) (fun h' k=>?_) (fun i v hv=>?_) fun h' tk q k=>h h' tk ?_ k
 ·obtain ⟨l,o,es,ep,ho,r⟩:=q;exact ⟨l,o,es,ep,k _ o (Nat.le_refl _) ho,r⟩
 ·obtain ⟨o,es,ep,ho,r⟩:=Heap.DictOf.new (prog:=prog) (w:=w) (knd:=bQ prog w) s.heap;exact ⟨Nat.zero_le _,o,es,ep,k _ o ho,r⟩
 ·obtain ⟨p,kk,t,u,h1,h2,h3⟩:=hp.2 i v hv;have hil:i < ps.length:=(List.getElem?_eq_some_iff.mp h3).1;refine ⟨p,.int kk t,u,h1,h2,fun s' Q' E' q k f=>?_⟩;have hlen:(merged [] (ps.take i)).length<=i:=by
   refine Nat.le_trans (jD _ _) ?_;rw [List.length_take,List.length_nil];omega
  exact wpAny_dictSet_pairs (knd:=bQ prog w) (k:=.inl kk) (lT prog w kk t) q.2 (fun h2 hD2 hs2=>f h2 _ ⟨hil,by rw [merged_take_succ _ _ _ _ h3];exact hD2⟩ hs2) (by have:sizeLine=16777216:=rfl;have:=hp.1;omega)
 ·have:=q.2
  rwa [List.take_of_length_le (by have:=hp.1;omega)] at this
end
end L2
namespace DL
open PySem PySem.Spec PyProof.Rows L2 CI
section
variable {S:Sx} {κ:Kp} {M:Mp} {h h':aA} {s:Shared}
theorem pX {Z:Zm} {hp:Heap} (z:∀ a o,Z a=some o->hp.get? a=some o):∀ {xs:List PyData} {ds:List (PyData×PyData)} {its:List Value},hZ xs=some ds->Paired (Rep S Z) xs its->∃ ps:List (Key×Value),xJ hp its ps/\RepK S Z ds ps
 | [],_,_,e,r=>by
  cases e;cases r;exact ⟨[],⟨rfl,fun i v e=>by simp at e⟩,.nil⟩
 | x::xs,_,_,e,r=>by
  cases r with
  | @cons _ v _ vs a b =>
   obtain ⟨k,y,rfl,ds,e1,rfl⟩:∃ k y,x=.tuple [.int k,y]/\∃ ds',hZ xs=some ds'/\_=(.int k,y)::ds':=by
    obtain ⟨⟨y,rfl⟩,_,e⟩:=bind_some (show (pdS x).bind _=_ from e);obtain ⟨ds,e1,e2⟩:=map_some e;exact ⟨y.1,y.2,rfl,ds,e1,e2.symm⟩
   obtain ⟨p,o,us,rfl,zp,⟨⟨n,rfl⟩,_⟩,rr⟩:=rep_t.mp a;obtain ⟨ps,⟨q1,q2⟩,q3⟩:=pX z e1 b;cases rr with
   | @cons _ u1 _ _ a1 b1 =>
    cases b1 with
    | @cons _ u2 _ _ a2 b2 =>
     cases b2;obtain ⟨t,rfl⟩:=rep_i.mp a1;refine ⟨(.inl k,u2)::ps,⟨by simp [q1],fun i v e=>?_⟩,.cons ⟨rfl,a2⟩ q3⟩;cases i with
     | zero =>
      simp at e;subst e;exact ⟨p,k,t,u2,rfl,fS (z _ _ zp),rfl⟩
     | succ i=>exact q2 i v (by simpa using e)
theorem nS {Z:Zm}:∀ {more:List (PyData×PyData)} {rm:List (Key×Value)} {kvs:List (PyData×PyData)} {r:List (Key×Value)},RepK S Z more rm->RepK S Z kvs r->RepK S Z (more.foldl (fun a p=>mL a p.1 p.2) kvs) (merged r rm)
 | [],_,_,_,a,b=>by cases a;exact b
 | p::more,_,kvs,r,a,b=>by
  cases a with
  | @cons _ q _ rm h t =>
   have:=nS t (nK h.1 h.2 b);exact this
end
end DL

namespace DL
open PySem PySem.Spec PyProof.Rows L2 CI
section
variable {S:Sx} {κ:Kp} {M:Mp} {h h':aA} {s:Shared}
def bW2 {h2:Heap} {D:Addr} {kvs:List (PyData×PyData)} {xs:List (HK×Addr×Value)} (z:∀ a o,M.Z a=some o->h2.get? a=some o) (n:NdO S h2 D xs) (r:iX S M.Z kvs xs):h2.DictOfH (hW S) D xs:=by
 obtain ⟨o,es,ep,h1,h2',h3,h4,h5⟩:=n;refine ⟨o,es,ep,h1,h2',h3,h4,fun x hx=>?_,h5⟩;have:∀ {l:List (PyData×PyData)} {r:List (HK×Addr×Value)},iX S M.Z l r->x∈r->Rep S M.Z x.1.1 (.ref x.2.1):=fun {l r} q hx=>by
  unfold iX at q;induction q with
  | nil=>simp at hx
  | cons a _ ih =>
   rcases List.mem_cons.mp hx with rfl | hx
   ·rw [<- a.1];exact a.2.1
   ·exact ih hx
 exact Rep.go z (this r hx)
theorem lC:∀ {xs:List PyData} {ds:List (PyData×PyData)} {i:Nat} {x:PyData},jB xs=some ds->xs[i]?=some x->∃ ks y,x=.tuple [.tuple ks,y]/\hkB 4 (.tuple ks)=true/\ds[i]?=some (.tuple ks,y)/\ds.length=xs.length
 | [],_,i,_,_,e=>by simp at e
 | z::xs,_,i,x,e,ei=>by
  obtain ⟨⟨⟨ks,y⟩,rfl⟩,_,e⟩:=bind_some (show (pnS z).bind _=_ from e);obtain ⟨hk,e⟩:=aF e;obtain ⟨ds,e1,rfl⟩:=map_some e;have hl:∀ {xs ds},jB xs=some ds->ds.length=xs.length:=by
   intro xs;induction xs with
   | nil=>intro ds e;cases e;rfl
   | cons z xs ih =>
    intro ds e;obtain ⟨_,_,e⟩:=bind_some (show (pnS z).bind _=_ from e);obtain ⟨_,e⟩:=aF e;obtain ⟨ds,e1,rfl⟩:=map_some e;simp [ih e1]
  cases i with
  | zero=>simp at ei;subst ei;exact ⟨ks,y,rfl,hk,rfl,by simp [hl e1]⟩
  | succ i =>
   obtain ⟨ks',y',h1,h2,h3,h4⟩:=lC e1 (by simpa using ei);exact ⟨ks',y',h1,h2,by simpa using h3,by simp [h4]⟩
def aI2 (kvs:List (PyData×PyData)) (y x:PyData):(putN kvs y x).length<=kvs.length+1:=by
 unfold putN;split
 ·rw [List.length_map];omega
 ·rw [List.length_append];simp
def vM {ds:List (PyData×PyData)} {i:Nat} {p:PyData×PyData} (e:ds[i]?=some p):iB (ds.take (i+1))=putN (iB (ds.take i)) p.1 p.2:=by
 unfold iB;rw [List.take_add_one,e,List.foldl_append];rfl
def aT7:BfS S (.type "dict") jN:=by
 intro κ M h h' s A E ws us w d hr hK hsm R r e;unfold jN at e;split at e
 ·obtain ⟨u,rfl,ra⟩:=w1 r;split at e
  ·rename_i xs ea;obtain ⟨hl,e⟩:=aF e;obtain ⟨a,vs,n,rfl,ho,hz,rr⟩:=dS R ra ea;have hlen:=rr.length;have kx:∀ {h2:Heap} {c:Cell} {tk:Nat} {o:Obj},(∀ b o,s.heap.get? b=some o->h2.get? b=some o)->h2.get? s.heap.objs.size=some o->CellOk S (M.cel (s.heap.objs.size,s.heap.objs.size)) h2 (s.heap.objs.size,s.heap.objs.size) c->Pw S κ M (h++[c]) (.c h.length) (.ref s.heap.objs.size) { s with heap:=h2,toks:=tk }:=fun k g x =>
    ⟨M.cel (s.heap.objs.size,s.heap.objs.size),.cel,(R.kept k).add R.size R.size ⟨⟨_,g⟩,_,g⟩ x,(s.heap.objs.size,s.heap.objs.size),by show (M.m++[_])[h.length]?=_;rw [<- R.len];simp,rfl⟩
   split at e
   ·rename_i ds ed;cases e;obtain ⟨ps,pa,rk⟩:=pX R.z ed rr;have hk1:=rk.length;have hk2:=pa.1;refine lB hr.hd ho rfl rfl rfl pa (by omega) fun h2 tk dd k=>?_;have rm:RepK S M.Z (qV ds) (merged [] ps):=nS rk .nil;have hm:=jD ps [];rw [List.length_nil] at hm;obtain ⟨o,es,ep,ho2,q⟩:=id dd;exact kx k ho2 ⟨_,dd,RepK.go (M:=M) .cel rm,hsm,by rw [sizeLine_eq];omega⟩
   ·obtain ⟨ds,ed,e⟩:=map_some e;cases e;obtain ⟨P,hP⟩:∃ P:Nat->Heap->Prop,P=fun i h2=>∃ ys,NdO S h2 s.heap.objs.size ys/\iX S M.Z (iB (ds.take i)) ys/\ys.length<=i:=⟨_,rfl⟩;refine nR hr.hd ho rfl rfl rfl P (fun i h1 h2 q k=>?_) (fun h2 k=>?_) (fun i v hv=>?_) fun h2 tk q k=>?_
    ·rw [hP] at q ⊢;obtain ⟨ys,⟨o,es,ep,g,q⟩,r⟩:=q;exact ⟨ys,⟨o,es,ep,k _ o (Nat.le_refl _) g,q⟩,r⟩
    ·rw [hP];exact ⟨[],⟨_,#[],0,k _ _ (Heap.get?_push_size _ rfl),⟨rfl,rfl,rfl⟩,rfl,rfl,List.nodup_nil⟩,.nil,Nat.zero_le _⟩
    ·have hi:i < xs.length:=by rw [hlen];exact (List.getElem?_eq_some_iff.mp hv).1
     obtain ⟨v',ev,rv⟩:=mY rr (List.getElem?_eq_getElem hi);rw [hv] at ev;cases ev;obtain ⟨ks,y,e1,hk,e2,e3⟩:=lC ed (List.getElem?_eq_getElem hi);rw [e1] at rv;obtain ⟨p,o,us,rfl,zp,⟨⟨m,rfl⟩,_⟩,rq⟩:=rep_t.mp rv;cases rq with
     | @cons _ uk _ _ a1 b1 =>
      cases b1 with
      | @cons _ uv _ _ a2 b2 =>
       cases b2;obtain ⟨ka,ko,kus,rfl,zk⟩:=rep_t.mp a1;refine ⟨p,.ref ka,uv,rfl,fS (R.z _ _ zp),fun s' Q' E' q k f=>?_⟩;rw [hP] at q f;obtain ⟨ys,nd,rn,yl⟩:=q;have zz:∀ a o,M.Z a=some o->s'.heap.get? a=some o:=fun a o e=>k a o (R.z a o e);refine wpAny_dictSet_heap (knd:=hW S) (k:=⟨.tuple ks,hk⟩) ?_ (show (hW S).is s'.heap ⟨.tuple ks,hk⟩ ka from Rep.go zz a1) (bW2 zz nd rn) (fun h2 dd sb=>f h2 _ ⟨storedH ys ⟨.tuple ks,hk⟩ ka uv,?_,?_,?_⟩ sb) (by rw [sizeLine_eq];omega)
       ·have:=hr.un;show A.units+1+1+5 < cLine;omega
       ·obtain ⟨o',es',ep',q1,q2,q3,q4,_,q5⟩:=dd;exact ⟨o',es',ep',q1,q2,q3,q4,q5⟩
       ·rw [vM e2];exact nM hk a1 a2 rn
       ·have h1:=(nM hk a1 a2 rn).length;have h2:=aI2 (iB (ds.take i)) (.tuple ks) y;have h3:=rn.length;omega
    ·rw [hP] at q;obtain ⟨ys,nd,rn,yl⟩:=q;have hds:ds.length<=vs.length:=by
      cases xs with
      | nil =>
       have:ds=[]:=by unfold jB at ed;cases ed;rfl
       rw [this];exact Nat.zero_le _
      | cons x xs =>
       obtain ⟨_,_,_,_,_,h4⟩:=lC ed (i:=0) rfl;omega
     rw [List.take_of_length_le hds] at rn;obtain ⟨o,es,ep,g,_⟩:=id nd;exact kx k g ⟨ys,nd,rn,hsm,by rw [sizeLine_eq];omega⟩
  ·cases e
 ·cases e
variable {X:Cx} {st:Sta} {d:Nat} {v:Evs}
def bW3 (Sn:Snd v) (G:Good X st d) (e:Expr):SE X e (aS0 v st e):=by
 unfold aS0;cases q:dcA e with
 | none=>exact pK (Sn.F G e)
 | some a =>
  dsimp only;split
  ·rename_i hx;obtain ⟨⟨a,p,q,he⟩,hh,rfl⟩:=Option.map_eq_some_iff.mp (show (dcS _).map (·.1)=_ from q);clear hh;subst he;exact bV2 Sn G (f:=.type "dict") (g:=jN) hx (by decide +kernel) (.inr ⟨_,rfl⟩) aT7
  ·exact cH
end
end DL

namespace DL
open PySem PySem.Spec PyProof.Rows L2 CI
section
variable {X:Cx} {st:Sta} {d:Nat} {v:Evs} {κ:Kp} {M:Mp} {δ:DSt} {h h':aA} {s:Shared} {a b c e o tg iter:Expr} {es:List Expr} {pos p p2 apos:Pos} {x m:Str} {w:W}
def xK (h:uU e=false) (o i:Value):subscripted e false o i=operate [o,i] (getItem o i):=by
 cases e<;>first | rfl | cases h
def cL1 (S:Snd v) (G:Good X st d) (hs:uU b=false):SE X (.Subscript a b pos) (xb (v.E st a) fun x=>xb (v.E st b) fun y=>fun _ h=>xIx x y h):=fun _ _ _ _ _ _ _ R F e =>
 Subscript_ (two (S.E G a) (S.E G b) R F e fun R1 _ ra rb e=>bS2 G.rm R1 ra rb e (xK hs))
theorem bW4 (S:Snd v) (G:Good X st d) {f:Str->Option Int} (hf:jL st a=some f) (hs:uU b=false):SE X (.Subscript a b pos) (xb (v.E st b) fun w=>(match w with
    | .d (.str z)=>(match f z with
     | some i=>aD (.d (.int i))
     | none=>xno)
    | _=>xno)):=by
 intro κ M δ h s w h' R F e;obtain ⟨y,p,p',rfl,hn,hg,hm,T⟩:=aF9 G hf;obtain ⟨x,h1,e1,e⟩:=aG e;refine Subscript_ (fT F R hg hm hn (thn (S.E G b R F e1) fun u s1 ⟨M1,l1,R1,r1⟩=>?_));obtain ⟨g,m,g0,g1,g2⟩:=T.map (prog:=X.S.P) (F.ok.mod.kin.keeps R1.bk);rcases x with (_ | _ | _ | z | _ | _ | _) | _<;>first | cases e;done | skip
 obtain ⟨⟨t,rfl⟩,_⟩:=rep_s.mp (show Rep X.S M1.Z _ _ from r1);have e:(match f z with
  | some i=>aD (.d (.int i))
  | none=>xno:XR W) δ h1=some (w,h'):=e
 cases ei:f z with
 | some i =>
  rw [ei] at e;cases e;obtain ⟨t',q'⟩:=g1 z i ei;exact rD m.typeIs PySem.F.slot_dict_getitem.lookup (xK hs _ _) (wpAny_getItem_of (rH z t) m q' ((R1.tok _).pi.go l1))
 | none=>rw [ei] at e;cases e
def aT8:SE X (.Dict [] [] pos) (aD (.d (.dict []))):=by
 intro κ M δ h s w h' R F e;cases e;refine wpAny_Dict_empty ?_;have hd:(s.heap.push { cls:=.type "dict",data:=.dict #[] }).DictOf (bQ X.S.P X.S.w) s.heap.objs.size []:=Heap.DictOf.new s.heap;obtain ⟨o,es,ep,ho,hr⟩:=hd;have R1:Mem X.S κ M h { s with heap:=s.heap.push { cls:=.type "dict",data:=.dict #[] } }:=R.kept (t:=s.toks) fun b o e=>Heap.get?_push_of_some _ e;refine ⟨M.add s.heap.objs.size o,Le.add R.size.1,R1.frz R.size ho,?_⟩;exact (rep_d (S:=X.S) (Z:=(M.add s.heap.objs.size o).Z)).mpr ⟨_,o,[],rfl,nD,⟨rM F R,Nat.zero_le _,fun h2 e2=>⟨o,es,ep,e2,hr⟩⟩,.nil⟩
def bH1:SE X (.Dict [] [] pos) xA:=by
 intro κ M δ h s w h' R F e;cases e;refine wpAny_Dict_empty ?_;have hd:(s.heap.push { cls:=.type "dict",data:=.dict #[] }).DictOf (bQ X.S.P X.S.w) s.heap.objs.size []:=Heap.DictOf.new s.heap;obtain ⟨o,es,ep,ho,hr⟩:=id hd;have R1:Mem X.S κ M h { s with heap:=s.heap.push { cls:=.type "dict",data:=.dict #[] } }:=R.kept (t:=s.toks) fun b o e=>Heap.get?_push_of_some _ e;exact ⟨M.cel (s.heap.objs.size,s.heap.objs.size),.cel,R1.add R.size R.size ⟨⟨_,ho⟩,_,ho⟩ ⟨[],hd,.nil,rM F R,Nat.zero_le _⟩,(s.heap.objs.size,s.heap.objs.size),by show (M.m++[_])[h.length]?=_;rw [<- R.len];simp,rfl⟩
def aT9 {S:Sx} {g:List W->aA->Option (W×aA)} (h:bD2 x=some g):∃ f,bootBuiltins x=some f/\((∃ i,f=.builtin i)\/∃ i,f=.type i)/\BfS S f g:=by
 unfold bD2 at h;split at h
 ·rename_i e;cases h;subst e;exact ⟨_,by decide +kernel,.inl ⟨_,rfl⟩,bS3⟩
 split at h
 ·rename_i e;cases h;subst e;exact ⟨.type "tuple",by decide +kernel,.inr ⟨_,rfl⟩,aS2⟩
 split at h
 ·rename_i e;cases h;subst e;exact ⟨.builtin "all",by decide +kernel,.inl ⟨_,rfl⟩,bS4⟩
 split at h
 ·rename_i e;cases h;subst e;exact ⟨.type "int",by decide +kernel,.inr ⟨_,rfl⟩,bS5⟩
 ·cases h
def aI3 (S:Snd v) (G:Good X st d):SF X (.Call (.Name x p) (a::es) [] pos) (cI v st (.Call (.Name x p) (a::es) [] pos)):=by
 unfold cI;dsimp only;split
 ·rename_i hx;subst hx;split
  ·rename_i b hb;split
   ·rename_i hc;rw [Bool.and_eq_true,Bool.and_eq_true] at hc;obtain ⟨⟨y,p1,q1,heq⟩,hh,rfl⟩:=Option.map_eq_some_iff.mp (show (rgS _).map (·.1)=_ from hb);clear hh hb;cases heq;exact bV6 S G hc.1.1 hc.1.2 hc.2
   ·exact hU
  ·split
   ·rename_i hc;exact bV3 S G hc
   ·exact hU
 ·split
  ·rename_i hx;subst hx;split
   ·rename_i hc;exact bW1 S G hc
   ·exact hU
  ·exact hU
def jF (S:Snd v) (G:Good X st d) (e:Expr):SF X e (cI v st e):=by
 cases e with
 | List es p=>exact uZ S G
 | ListComp elt gs sc p =>
  rcases gs with _ | ⟨⟨tg,iter,ifs,a⟩,_ | ⟨_,_⟩⟩
  ·exact hU
  ·by_cases ha:a=0
   ·subst ha;exact bF8 S (rQ S) G
   ·have:cI v st (.ListComp elt [⟨tg,iter,ifs,a⟩] sc p)=xno:=if_neg ha;rw [this];exact hU
  ·exact hU
 | Subscript a b p =>
  cases b with
  | Slice lo hi st' p2 =>
   cases st' with
   | none=>exact cK8 S G
   | some k =>
    cases lo with
    | some _=>exact hU
    | none =>
     cases hi with
     | some _=>exact hU
     | none=>exact bW0 S G
  | _=>exact hU
 | BinOp a op b p =>
  cases op with
  | Add=>exact bU5 S G
  | Mult =>
   cases a with
   | List es p'=>exact bU8 S G
   | _=>exact hU
  | _=>exact hU
 | Call f args kw p =>
  cases f with
  | Name x px =>
   rcases args with _ | ⟨a,es⟩
   ·exact hU
   ·rcases kw with _ | ⟨k,ks⟩
    ·exact aI3 S G
    ·exact hU
  | _=>exact hU
 | _=>exact hU
end
end DL

namespace ST
open PySem PySem.Spec PyProof.Rows
def Ris (xs:Array Nat):Prop:=xs.toList.Pairwise (· < ·)
def Ris.lt {xs:Array Nat} (h:Ris xs) {i k:Nat} {a b:Nat} (hik:i < k) (ha:xs[i]?=some a) (hb:xs[k]?=some b):a < b:=by
 unfold Ris at h;rw [List.pairwise_iff_getElem] at h;rw [Array.getElem?_eq_some_iff] at ha hb;obtain ⟨h1,rfl⟩:=ha;obtain ⟨h2,rfl⟩:=hb;exact h i k (by simpa using h1) (by simpa using h2) hik
theorem rS {xs:Array Nat} {j:Nat} (hx:Ris xs):∀ (fuel lo hi:Nat),hi - lo<=fuel->lo<=hi->hi<=xs.size->(∀ i a,i < lo->xs[i]?=some a->a < j)->(∀ i a,hi<=i->xs[i]?=some a->j<=a) ->
  (∀ i a,i < SetTable.below.go xs j fuel lo hi->xs[i]?=some a->a < j)/\(∀ i a,SetTable.below.go xs j fuel lo hi<=i->xs[i]?=some a->j<=a)/\SetTable.below.go xs j fuel lo hi<=xs.size
 | 0,lo,hi,h1,h2,h3,h4,h5=>by
  have:lo=hi:=by omega
  subst this;exact ⟨h4,h5,h3⟩
 | fuel+1,lo,hi,h1,h2,h3,h4,h5=>by
  unfold SetTable.below.go;split
  ·rename_i hlt;have hm:(lo+hi) / 2 < xs.size:=by omega
   have em:xs[(lo+hi) / 2]?=some xs[(lo+hi) / 2]:=Array.getElem?_eq_getElem hm;have eg:xs.getD ((lo+hi) / 2) j=xs[(lo+hi) / 2]:=by simp [Array.getD,hm]
   dsimp only;rw [eg];split
   ·rename_i hj;refine rS hx fuel _ _ (by omega) (by omega) h3 (fun i a hi' ha=>?_) h5
    by_cases e:i=(lo+hi) / 2
    ·subst e;rw [em] at ha;cases ha;exact hj
    ·exact Nat.lt_trans (hx.lt (by omega) ha em) hj
   ·rename_i hj;refine rS hx fuel _ _ (by omega) (by omega) (by omega) h4 (fun i a hi' ha=>?_)
    by_cases e:i=(lo+hi) / 2
    ·subst e;rw [em] at ha;cases ha;omega
    ·have:=hx.lt (show (lo+hi) / 2 < i by omega) em ha;omega
  ·have:lo=hi:=by omega
   subst this;exact ⟨h4,h5,h3⟩
def vN {xs:Array Nat} (hx:Ris xs) (j:Nat):(∀ i a,i < SetTable.below xs j->xs[i]?=some a->a < j)/\(∀ i a,SetTable.below xs j<=i->xs[i]?=some a->j<=a)/\SetTable.below xs j<=xs.size :=
 rS hx xs.size 0 xs.size (by omega) (by omega) (Nat.le_refl _) (fun i a h=>by omega) (fun i a h e=>by
  rw [Array.getElem?_eq_none (by omega)] at e;cases e)
def vO {xs:Array Nat} (hx:Ris xs) {j:Nat} (hj:xs[SetTable.below xs j]?≠some j):Ris (SetTable.insertAt xs (SetTable.below xs j) j):=by
 obtain ⟨h1,h2,h3⟩:=vN hx j;have e:(SetTable.insertAt xs (SetTable.below xs j) j).toList=xs.toList.take (SetTable.below xs j)++j::xs.toList.drop (SetTable.below xs j):=by
  simp [SetTable.insertAt,Array.toList_extract,List.extract_eq_take_drop,List.take_of_length_le]
 unfold Ris at hx ⊢;rw [e,List.pairwise_append,List.pairwise_cons];have mt:∀ a∈xs.toList.take (SetTable.below xs j),a < j:=fun a ha=>by
  obtain ⟨i,hi,ea⟩:=List.mem_iff_getElem.mp ha;rw [List.getElem_take] at ea;rw [List.length_take] at hi;refine h1 i a (by omega) ?_;rw [<- ea];exact Array.getElem?_eq_getElem (by simp at hi;omega)
 have md:∀ b∈xs.toList.drop (SetTable.below xs j),j < b:=fun b hb=>by
  obtain ⟨i,hi,eb⟩:=List.mem_iff_getElem.mp hb;rw [List.getElem_drop] at eb;rw [List.length_drop] at hi;have hlt:SetTable.below xs j+i < xs.size:=by simp at hi;omega
  have eg:xs[SetTable.below xs j+i]?=some b:=by rw [<- eb];exact Array.getElem?_eq_getElem hlt
  have q:=h2 _ b (by omega) eg;rcases Nat.lt_or_eq_of_le q with q | q
  ·exact q
  ·subst q;cases i with
   | zero=>exact absurd eg hj
   | succ i =>
    have e0:xs[SetTable.below xs j]?=some xs[SetTable.below xs j]:=Array.getElem?_eq_getElem (by omega);have:=Ris.lt hx (show SetTable.below xs j < SetTable.below xs j+(i+1) by omega) e0 eg;have q0:=h2 _ _ (Nat.le_refl _) e0;omega
 refine ⟨hx.sublist (List.take_sublist _ _),⟨md,hx.sublist (List.drop_sublist _ _)⟩,fun a ha b hb=>?_⟩;rcases List.mem_cons.mp hb with rfl | hb
 ·exact mt a ha
 ·exact Nat.lt_trans (mt a ha) (md b hb)
def zY (n:Nat):Ris (Array.range n):=by
 unfold Ris;rw [Array.toList_range];exact List.pairwise_lt_range
def free (t:SetTable) (j:Nat):Prop:=t.place[SetTable.below t.place j]?≠some j
def pY {t:SetTable} {j:Nat} (h:∀ i,t.slot j≠.live i):free t j:=by
 intro e;unfold SetTable.slot at h;dsimp only at h;rw [e] at h;simp at h
theorem jG {t:SetTable} {f:Nat->Int} {h:Int}:∀ (fuel:Nat) (p:SetTable.Probe),(∀ d,p.dummy=some d->free t d)->∀ j d,SetTable.probe.go t f h fuel p=some (.empty j d)->free t j/\∀ d',d=some d'->free t d'
 | 0,p,hp,j,d,e=>by simp [SetTable.probe.go] at e
 | fuel+1,p,hp,j,d,e=>by
  unfold SetTable.probe.go at e;split at e
  ·rename_i es;cases e;exact ⟨pY (fun i z=>by rw [es] at z;cases z),hp⟩
  ·rename_i es;refine jG fuel _ (fun d' ed=>?_) j d e;have:(t.advance { p with dummy:=some p.j }).dummy=some p.j:=by
    unfold SetTable.advance;split<;>rfl
   rw [this] at ed;cases ed;exact pY fun i z=>by rw [es] at z;cases z
  ·split at e
   ·cases e
   ·refine jG fuel _ (fun d' ed=>hp d' ?_) j d e;have:(t.advance p).dummy=p.dummy:=by
     unfold SetTable.advance;split<;>rfl
    rw [<- this];exact ed
def oV {t:SetTable} {h:Int} {j:Nat} {b:Bool} (e:t.freeSlot h=some (j,b)):free t j:=by
 unfold SetTable.freeSlot at e;split at e
 ·rename_i j' d ep;cases e;obtain ⟨f1,f2⟩:=jG _ _ (fun d ed=>by simp [SetTable.probeStart] at ed) _ _ ep;cases d with
  | none=>exact f1
  | some d=>exact f2 d rfl
 ·cases e
def Good (by_:Bool) (t:SetTable):Prop:=Ris t.place/\(by_=false->t.led=true)
def eV {by_:Bool} {t:SetTable} (h:Good by_ t) (n:Nat):Good by_ (t.standIn n):=⟨zY n,h.2⟩
def tQ {by_:Bool} {t:SetTable} {es:Array (Int×Value)} {h:Int} {x:Value} (g:Good by_ t):Good by_ (layNew t es h x).2.1:=by
 unfold layNew;split
 ·rename_i slot wd e;dsimp only;have gp:Good by_ (t.put slot).1:=⟨vO g.1 (oV e),g.2⟩;unfold SetTable.orStandIn;split
  ·exact gp
  ·exact eV gp _
 ·exact eV g _
def aI4 {owner:Array (Option Nat)} (n:Nat):(((List.range n).filterMap fun j=>(owner.getD j none).map (j,·)).map (·.1)).Pairwise (· < ·):=by
 rw [List.pairwise_map];refine List.Pairwise.filterMap (R:=(· < ·)) _ (fun a a' hlt b hb b' hb'=>?_) (List.pairwise_lt_range (n:=n));obtain ⟨_,_,rfl⟩:=Option.map_eq_some_iff.mp hb;obtain ⟨_,_,rfl⟩:=Option.map_eq_some_iff.mp hb';exact hlt
def vP {by_:Bool} {t:SetTable} {es:Array (Int×Value)} {n:Nat} (g:Good by_ t):Good by_ (relayAll t es n).2.1:=by
 unfold relayAll;split
 ·rename_i t' order e;dsimp only;split
  ·unfold SetTable.relaid SetTable.laid at e;dsimp only at e;obtain ⟨owner,_,e2⟩:=Option.bind_eq_some_iff.mp e;cases e2;refine ⟨?_,g.2⟩;unfold Ris;exact aI4 _
  ·exact eV g _
 ·exact eV g _
end ST

namespace ST
open PySem PySem.Spec PyProof.Rows
noncomputable def aI5:Value->Int
 | .int k _=>k
 | _=>0
section
variable {prog:Program} {w:World} {A:Around} {E:Value->Shared->Prop} {s:Shared}
abbrev txt (w:World):Bool:=w.params.followText "set-order"
structure Parts (prog:Program) (w:World) (o:Obj) (es:Array (Int×Value)) (ep:Nat) (t:SetTable) (ks:List Int):Prop where
 ex:o.ExactSet
 dat:o.data=.set es ep t
 el:ElemsOf (intKind prog w) es.toList
 ks:(es.toList.map fun e=>aI5 e.2).Perm ks
 few:es.size < scanBound
 fit:t.fits es.size=true
 good:Good (txt w) t
def SetI (prog:Program) (w:World) (h:Heap) (a:Addr) (ks:List Int):Prop:=∃ o es ep t,h.get? a=some o/\Parts prog w o es ep t ks
def SetI.keep {h h':Heap} {a:Addr} {ks:List Int} (x:SetI prog w h a ks) (e:∀ o,h.get? a=some o->h'.get? a=some o):SetI prog w h' a ks :=
 let ⟨o,es,ep,t,ho,p⟩:=x;⟨o,es,ep,t,e o ho,p⟩
def vQ {k:Int} {v:Value} (h:(intKind prog w).is k v=true):∃ t,v=.int k t:=Value.isInt_shape h
def aI6 {es:List (Int×Value)} (h:ElemsOf (intKind prog w) es) {e:Int×Value} (he:e∈es):∃ t,e.2=.int (aI5 e.2) t:=by
 obtain ⟨⟨k,hk,_⟩,_⟩:=h e he;obtain ⟨t,q⟩:=vQ hk;exact ⟨t,by rw [q];rfl⟩
def zZ {es:List (Int×Value)} (h:ElemsOf (intKind prog w) es) {k:Int} (hf:es.findIdx? (fun e=>(intKind prog w).is k e.2)=none):k∉es.map fun e=>aI5 e.2:=by
 intro z;obtain ⟨e,he,q⟩:=List.mem_map.mp z;obtain ⟨t,e2⟩:=aI6 h he;have:=List.findIdx?_eq_none_iff.mp hf e he;rw [e2,q] at this;rw [intKind_is] at this;cases this
def aA0 {es:List (Int×Value)} {k:Int} {j:Nat} (hf:es.findIdx? (fun e=>(intKind prog w).is k e.2)=some j):k∈es.map fun e=>aI5 e.2:=by
 obtain ⟨hj,hp,_⟩:=List.findIdx?_eq_some_iff_getElem.mp hf;obtain ⟨t,q⟩:=vQ hp;exact List.mem_map.mpr ⟨es[j],List.getElem_mem hj,by rw [q];rfl⟩
def lZ {a:Addr} {o:Obj} {es es':Array (Int×Value)} {ep:Nat} {t t':SetTable} {ks':List Int} {h:Heap} (ho:h.get? a=some o) (hd:o.data=.set es ep t) (hx:o.ExactSet)
  (p:Parts prog w { o with data:=.set es' (ep+1) t' } es' (ep+1) t' ks'):(h.update a (Obj.putSet es' t')).get? a=some { o with data:=.set es' (ep+1) t' } :=
 (SetOf_store (knd:=intKind prog w) (S':=fun k=>decide (k∈es'.toList.map fun e=>aI5 e.2)) ho hx hd p.el (fun k=>by
  rw [decide_eq_true_eq,List.mem_map];constructor
  ·rintro ⟨e,he,rfl⟩;obtain ⟨q,e2⟩:=aI6 p.el he;exact ⟨e,he,by rw [e2];exact intKind_is _ _ _ _⟩
  ·rintro ⟨e,he,q⟩;obtain ⟨tk,e2⟩:=vQ q;exact ⟨e,he,by rw [e2];rfl⟩) p.few p.fit).1
def xL {g:Bool->Sem Unit} (hg:∀ (b:Bool) (s₁:Shared) (Q':Unit->Shared->Prop),Q' () s₁->wpAny (model prog w) A (g b) Q' E s₁) {a:Addr} {o:Obj} {es es1:Array (Int×Value)} {ep:Nat} {t t2:SetTable} {ks':List Int}
  (ho:s.heap.get? a=some o) (hd:o.data=.set es ep t) (hx:o.ExactSet) (p:Parts prog w { o with data:=.set es1 (ep+1) t2 } es1 (ep+1) t2 ks') {wd:Bool} {R:Option Bool->Shared->Prop}
  (h:∀ h',Heap.SameBut a s.heap h'->SetI prog w h' a ks'->R (some true) { s with heap:=h' }) :
  wpAny (model prog w) A (do
   storeSet a es1 t2
   if (!wd&&t2.tooFull)=true then do
    g (relayAll t2 es1 (SetTable.grown es1.size)).2.2
    storeSet a (relayAll t2 es1 (SetTable.grown es1.size)).1 (relayAll t2 es1 (SetTable.grown es1.size)).2.1
    pure (some true)
   else pure (some true)) R E s:=by
 refine wpAny_bind (wpAny_storeSet_of ho hd ?_ (fits_of_scanBound p.few));have ho1:=lZ ho hd hx p;have sb1:=Heap.SameBut.update s.heap a (Obj.putSet es1 t2);split
 ·have hp:=relayAll_perm t2 es1 (SetTable.grown es1.size);have hf:=relayAll_fits t2 es1 (SetTable.grown es1.size);have hgd:=vP (es:=es1) (n:=SetTable.grown es1.size) p.good;have hz:(relayAll t2 es1 (SetTable.grown es1.size)).1.size=es1.size:=by simpa using hp.length_eq
  have p2:Parts prog w { o with data:=.set (relayAll t2 es1 (SetTable.grown es1.size)).1 (ep+1+1) (relayAll t2 es1 (SetTable.grown es1.size)).2.1 } (relayAll t2 es1 (SetTable.grown es1.size)).1 (ep+1+1) (relayAll t2 es1 (SetTable.grown es1.size)).2.1 ks' :=
   ⟨hx,rfl,p.el.perm hp,(hp.map _).trans p.ks,by rw [hz];exact p.few,hf,hgd⟩
  refine wpAny_bind (hg _ _ _ (wpAny_bind (wpAny_storeSet_of ho1 rfl (wpAny_pure (h _ (sb1.trans (Heap.SameBut.update _ a _)) ⟨_,_,_,_,lZ ho1 rfl hx p2,p2⟩)) (fits_of_scanBound p2.few))))
 ·exact wpAny_pure (h _ sb1 ⟨_,_,_,_,ho1,p⟩)
def xM {ks:List Int} {k:Int}:(ks.any (·==k))=decide (k∈ks):=by
 rw [Bool.eq_iff_iff,List.any_eq_true,decide_eq_true_eq];constructor
 ·rintro ⟨x,hx,e⟩;rw [<- eq_of_beq e];exact hx
 ·exact fun hx=>⟨k,hx,beq_self_eq_true k⟩
def bH2 {ks:List Int} {k:Int} (h:k∈ks):step_dedup ks k=ks:=by unfold step_dedup;rw [xM,if_pos (decide_eq_true h)]
def bH3 {ks:List Int} {k:Int} (h:k∉ks):step_dedup ks k=ks++[k]:=by unfold step_dedup;rw [xM,if_neg (by rw [decide_eq_true_eq];exact h)]
def add_int {a:Addr} {ks:List Int} {k:Int} {tk:Tok} {Q:Bool->Shared->Prop} (hS:SetI prog w s.heap a ks) (room:ks.length+1 < scanBound)
  (h:∀ b h',Heap.SameBut a s.heap h'->SetI prog w h' a (step_dedup ks k)->Q b { s with heap:=h' }):wpAny (model prog w) A (setAddHashed a (.int k tk) ((intKind prog w).hash k)) Q E s:=by
 obtain ⟨o,es,ep,t,ho,p⟩:=hS;have hk:(intKind prog w).is k (.int k tk)=true:=intKind_is _ _ _ _;have hsz:es.size=ks.length:=by have:=p.ks.length_eq;simpa using this
 unfold setAddHashed setAddHashedIn;refine wpAny_holding (wpAny_bind (wpAny_setState_of ho p.dat p.fit ?_));dsimp only;rw [byScan_of (x:=.int k tk) rfl p.few p.el];simp only [if_true];unfold setAddByScan;refine wpAny_bind (wpAny_bind (wpAny_rule (wpAny_bind (wpAny_setScan_of hk ho p.dat p.fit p.el ?_))));cases hr:List.findIdx? (fun e=>(intKind prog w).is k e.2) es.toList with
 | some j =>
  have hm:k∈ks:=p.ks.mem_iff.mp (aA0 hr);refine wpAny_pure (wpAny_pure ?_);have q:=h false s.heap (Heap.SameBut.refl a _) (by rw [bH2 hm];exact ⟨o,es,ep,t,ho,p⟩);cases s;exact q
 | none =>
  have hm:k∉ks:=fun z=>zZ p.el hr (p.ks.mem_iff.mpr z);dsimp only;have gw:∀ (b:Bool) {s₁:Shared} {Q':Unit->Shared->Prop},Q' () s₁->wpAny (model prog w) A (match b with | true=>rule "set.scan.the-table-gave-way" | false=>pure ()) Q' E s₁:=fun b s₁ Q' q=>by
   cases b
   ·exact wpAny_pure q
   ·exact wpAny_rule q
  have lp:=layNew_perm t es ((intKind prog w).hash k) (.int k tk);have lf:=layNew_fits t es ((intKind prog w).hash k) (.int k tk);have lg:Good (txt w) (layNew t es ((intKind prog w).hash k) (.int k tk)).2.1:=tQ p.good;generalize layNew t es ((intKind prog w).hash k) (.int k tk)=L at lp lf lg;obtain ⟨es1,t1,wd,gv⟩:=L;dsimp only at lp lf lg ⊢;rw [Array.toList_push] at lp;have z1:es1.size=ks.length+1:=by have:=lp.length_eq;simp at this;omega
  have mk:∀ t2:SetTable,t2.fits es1.size=true->Good (txt w) t2->Parts prog w { o with data:=.set es1 (ep+1) t2 } es1 (ep+1) t2 (step_dedup ks k):=fun t2 f2 g2 =>
   ⟨p.ex,rfl,(p.el.push hk rfl).perm lp,by
    rw [bH3 hm];refine (lp.map _).trans ?_;rw [List.map_append];exact p.ks.append (List.Perm.refl _),by omega,f2,g2⟩
  refine wpAny_bind (gw _ ?_);have fin:∀ h',Heap.SameBut a s.heap h'->SetI prog w h' a (step_dedup ks k)->wpAny (model prog w) A (pure true) (fun b s'=>Q b s') E { s with heap:=h' }:=fun h' b c=>wpAny_pure (h true h' b c);split
  ·refine wpAny_bind ?_;rw [hashByValue_scannable 8 (x:=.int k tk) rfl];refine wpAny_pure (xL (fun b s₁ Q' q=>?_) ho p.dat p.ex (mk _ ?_ ?_) fun h' b c=>wpAny_pure (h _ h' b c))
   ·cases b
    ·exact wpAny_pure q
    ·exact wpAny_rule q
   ·split
    ·exact lf
    ·exact SetTable.fits_plain_off lf
   ·split
    ·exact lg
    ·exact lg
  ·refine wpAny_bind (wpAny_pure ?_);simp only [if_true];refine xL (fun b s₁ Q' q=>?_) ho p.dat p.ex (mk _ lf lg) fun h' b c=>wpAny_pure (h _ h' b c);cases b
   ·exact wpAny_pure q
   ·exact wpAny_rule q
end
end ST

namespace ST
open PySem PySem.Spec PyProof.Rows
section
variable {prog:Program} {w:World} {A:Around} {E:Value->Shared->Prop} {s:Shared} {R:Result->Shared->Prop}
def aI7 {I:Addr} {fp wr:List Addr} {n:Nat} {P:Nat->Value->Prop} {St:Nat->Heap->Prop} (W:Walks prog w A.in1 I fp wr n P St) (S:Addr) (hS:S∉fp) (val:Nat->Int) (hval:∀ i v,P i v->∃ t,v=.int (val i) t) (hb:n+1 < scanBound) :
  ∀ (k i:Nat) (s:Shared),n - i=k->i<=n->St i s.heap->SetI prog w s.heap S (firstMet val i) ->
   (∀ h' tk,SetI prog w h' S (firstMet val n)->(∀ b o,b≠S->b∉wr->s.heap.get? b=some o->h'.get? b=some o)->R (.ok (.ret .none)) { s with heap:=h',toks:=tk }) ->
   codeAny (model prog w) A (.builtin "set.update.loop" ⟨[.ref S,.ref I],[]⟩) R s:=by
 have hw:S∉wr:=fun z=>hS (W.sub _ z);intro k;induction k with
 | zero =>
  intro i s hk hi st si hR;have e:i=n:=by omega
  subst e;refine codeAny_builtin F.entry_set_update_loop ?_;rw [Around.under_plainId F.plain_set_update_loop _];refine wpAny_bind (W.done s _ _ st fun h' tk hm=>wpAny_pure ?_);exact hR h' tk (si.keep fun o e=>hm S o hw e) fun b o _ hb e=>hm b o hb e
 | succ k ih =>
  intro i s hk hi st si hR;have hlt:i < n:=by omega
  refine codeAny_builtin F.entry_set_update_loop ?_;rw [Around.under_plainId F.plain_set_update_loop _];refine wpAny_bind (W.item i s _ _ hlt st fun v h1 tk1 hP st1 hm=>?_);obtain ⟨t,rfl⟩:=hval i v hP;have s1:SetI prog w h1 S (firstMet val i):=si.keep fun o e=>hm S o hw e;have fl:=firstMet_length_le val i;refine wpAny_bind (wpAny_holding ?_);unfold setAdd;refine wpAny_holding (wpAny_bind ((intKind prog w).pyHash (k:=val i) (intKind_is _ _ _ _) ?_));refine add_int (s:={ s with heap:=h1,toks:=tk1+1 }) s1 (by omega) fun b h2 sb s2=>?_;rw [<- firstMet_succ] at s2;refine wpAny_pure ⟨plainId_quiet F.plain_set_update_loop _,ih (i+1) _ (by omega) hlt (W.frame _ h1 _ st1 fun c hc o e=>?_) s2 fun h3 tk3 s3 k3=>hR h3 tk3 s3 fun c o n1 n2 e=>k3 c o n1 n2 ?_⟩
  ·rw [sb.2 c (fun z=>hS (by rw [<- z];exact hc))];exact e
  ·show h2.get? c=some o;rw [sb.2 c n1];exact hm c o n2 e
abbrev iP (w:World):Obj:={ cls:=.type "set",dict:=none,data:=.set #[] 0 (.fresh 0 0 (!txt w)) }
def aA1:Parts prog w (iP w) #[] 0 (.fresh 0 0 (!txt w)) [] where
 ex:=⟨rfl,rfl,rfl⟩
 dat:=rfl
 el:=fun e he=>by simp at he
 ks:=by simp
 few:=by decide
 fit:=rfl
 good:=⟨by simp [Ris,SetTable.fresh],fun e=>by rw [e];rfl⟩
def aI8 (a:Value) {Q₁:Value->Shared->Prop} (h:Q₁ (.ref s.heap.objs.size) { s with heap:=s.heap.push (iP w) }) :
  codeAny (model prog w) A (.call (.builtin "set.__new__") ⟨[.type "set",a],[]⟩) (wants Q₁ E) s:=by
 refine codeAny_of_tree ?_;show wpAny _ _ (checkBuiltinCall "set.__new__" ⟨[.type "set",a],[]⟩ >>= fun _=>again (.builtin "set.__new__" ⟨[.type "set",a],[]⟩)) _ _ s;refine wpAny_bind (wpAny_of_eq (PySem.F.newCall_set_1 a) (wpAny_pure ⟨plainId_quiet PySem.F.plain_set_new _,codeAny_builtin PySem.F.entry_set_new ?_⟩));rw [Around.under_plainId PySem.F.plain_set_new _];have sub:=sub_set_self;unfold Builtin.«set.__new__» Builtin.Frozenset.newClass;obtain ⟨hp,g,d,tk,os⟩:=s;dsimp only
 wp_walk
 refine wpAny_askSetting (wpAny_pure ?_);dsimp only;simp only [newObj];exact wpAny_bind (wpAny_alloc (wpAny_pure (wpAny_pure h)))
def vR (ns:List Int):(List.range ns.length).map (fun i=>ns.getD i 0)=ns:=by
 apply List.ext_getElem
 ·simp
 ·intro i h1 h2;simp [h2]
def aI9 (ns:List Int):firstMet (fun i=>ns.getD i 0) ns.length=dd ns:=by
 unfold firstMet dd;rw [vR]
def mB {b:Bool} {l:Addr} {items:Array Value} {ns:List Int} {Q:Value->Shared->Prop} (hh:A.handled=none) (hl:SqAt b s.heap l items) (hi:IntsAre items.toList ns) (hb:items.size+1 < scanBound)
  (h:∀ h' tk,SetI prog w h' s.heap.objs.size (dd ns)->(∀ b o,s.heap.get? b=some o->h'.get? b=some o)->Q (.ref s.heap.objs.size) { s with heap:=h',toks:=tk }) :
  wpAny (model prog w) A (call (.type "set") [.ref l]) Q E s:=by
 have hnz:ns.length=items.size:=by have:=IntsAre.length hi;simpa using this.symm
 obtain ⟨c,tl,mro⟩:=PySem.F.called_set.mro;have made:=PySem.F.called_set.made;have sub:=PySem.F.called_set.sub;refine wpAny_call (codeAny_of_tree (wpAny_pure ⟨Code.quiet_builtin _ (by decide +kernel),codeAny_builtin PySem.F.entry_type_call ?_⟩));rw [Around.under_plain (weight_type_call_type "set" [.ref l] []) rfl];have h1:=PySem.F.called_set.notType;have h2:=PySem.F.called_set.canCreate;have h3:=PySem.F.typeCall_set_1 (.ref l)
 repeat (any_goals (first | assumption | wp_step))
 refine codeAny_mono (aI8 (.ref l) (E:=E) (Q₁:=fun obj s₁=>obj=.ref s.heap.objs.size/\s₁={ s with heap:=s.heap.push (iP w) }) ⟨rfl,rfl⟩) fun r s₁ hr=>?_;cases r with
 | error e=>exact hr
 | ok fl =>
  cases fl with
  | ret obj =>
   obtain ⟨rfl,rfl⟩:=hr;have gS:(s.heap.push (iP w)).get? s.heap.objs.size=some (iP w):=Heap.get?_push_size _ rfl;have hT:Shared.TypeIs { s with heap:=s.heap.push (iP w) } (.ref s.heap.objs.size) "set":=⟨_,gS,rfl⟩;have look:=PySem.F.called_set.init.lookup;have bnd:=PySem.F.called_set.init.bind (.ref s.heap.objs.size)
   repeat (any_goals (first | assumption | wp_step))
   refine codeAny_mono (codeAny_call_builtin (R:=wants (fun r s₂=>r=.none/\∃ h' tk,s₂={ s with heap:=h',toks:=tk }/\SetI prog w h' s.heap.objs.size (dd ns)/\(∀ b o,s.heap.get? b=some o->h'.get? b=some o)) E)
    PySem.F.called_set.init.plain PySem.F.entry_set_init (check_set_init_1 hT ?_)) fun r₂ s₂ hr₂=>?_
   ·obtain ⟨cc,⟨⟨oc,od,odt,osl⟩,hol,hcl⟩,f1,f2,f3⟩:∃ cc,(∃ ol,s.heap.get? l=some ol/\ol.cls=.type cc)/\isSubtype (.type cc) (.type "set")=pure false/\isSubtype (.type cc) (.type "frozenset")=pure false/\(Value.type cc==Value.type "dict")=false:=by
     cases b
     ·obtain ⟨ol,hol,hcl,_⟩:=hl;exact ⟨_,⟨ol,hol,hcl⟩,PySem.F.sub_list_set,PySem.F.sub_list_frozenset,by decide⟩
     ·obtain ⟨ol,hol,hcl,_⟩:=hl;exact ⟨_,⟨ol,hol,hcl⟩,PySem.F.sub_tuple_set,PySem.F.sub_tuple_frozenset,by decide⟩
    dsimp only at hcl;subst hcl;have hol2:(s.heap.push (iP w)).get? l=some { cls:=.type cc,dict:=od,data:=odt,slots:=osl }:=Heap.get?_push_of_some _ hol;have il:SqAt b (s.heap.push (iP w)) l items:=hl.keep fun o e=>Heap.get?_push_of_some _ e;unfold Builtin.«set.__init__» noKeywords Builtin.Frozenset.updateFrom;generalize hPI:pyIter=PI
    wp_walk
    subst hPI;refine fB il (wpAny_bind (wpAny_runValue ?_));have lt:l < s.heap.objs.size:=Heap.lt_size hol;have sz:(s.heap.push (iP w)).objs.size=s.heap.objs.size+1:=by rw [Heap.size_push]
    have hne:l≠(s.heap.push (iP w)).objs.size:=by rw [sz];exact Nat.ne_of_lt (Nat.lt_succ_of_lt lt)
    have hSf:s.heap.objs.size∉[(s.heap.push (iP w)).objs.size,l]:=by
     rw [sz];simp only [List.mem_cons,List.not_mem_nil,or_false,not_or];exact ⟨Nat.ne_of_lt (Nat.lt_succ_self _),Nat.ne_of_gt lt⟩
    obtain ⟨P,St,W,st0,hP⟩:∃ P St,Walks prog w A.in1.in1.in1 (s.heap.push (iP w)).objs.size [(s.heap.push (iP w)).objs.size,l] [(s.heap.push (iP w)).objs.size] items.size P St/\St 0 ((s.heap.push (iP w)).push (jS b l))/\∀ i v,P i v->items[i]?=some v:=by
     have il2:SqAt b ((s.heap.push (iP w)).push (jS b l)) l items:=il.keep fun o e=>Heap.get?_push_of_some _ e;cases b
     ·exact ⟨_,_,Walks.list (by simp [hh]) _ l hne items,⟨⟨_,Heap.get?_push_size _ rfl,rfl,rfl⟩,il2⟩,fun _ _ e=>e⟩
     ·exact ⟨_,_,Walks.tuple (by simp [hh]) _ l hne items,⟨⟨_,Heap.get?_push_size _ rfl,rfl,rfl⟩,il2⟩,fun _ _ e=>e⟩
    refine aI7 W s.heap.objs.size hSf (fun i=>ns.getD i 0) (fun i v hv=>IntsAre.int_at hi i v (by rw [Array.getElem?_toList];exact hP i v hv)) hb (items.size - 0) 0 _ rfl (Nat.zero_le _)
     st0 ⟨_,_,_,_,Heap.get?_push_of_some _ gS,aA1⟩ fun h' tk si kp=>?_
    rw [<- hnz,aI9] at si;refine wpAny_pure (wpAny_pure ⟨rfl,h',tk,rfl,si,fun b o e=>?_⟩);have bl:b < s.heap.objs.size:=Heap.lt_size e;refine kp b o (Nat.ne_of_lt bl) ?_ (Heap.get?_push_of_some _ (Heap.get?_push_of_some _ e));simp only [List.mem_singleton];rw [sz];exact Nat.ne_of_lt (Nat.lt_succ_of_lt bl)
   ·cases r₂ with
    | error e=>exact hr₂
    | ok fl₂ =>
     cases fl₂ with
     | ret r =>
      obtain ⟨rfl,h',tk,rfl,si,kp⟩:=hr₂
      repeat (any_goals (first | assumption | wp_step))
      exact h _ _ si kp
     | _=>exact hr₂.elim
  | _=>exact hr.elim
end
end ST

namespace ST
open PySem PySem.Spec PyProof.Rows
section
variable {prog:Program} {w:World} {A:Around} {E:Value->Shared->Prop} {s:Shared} {R:Result->Shared->Prop}
def bH4 (ns:List Int):(dd ns).length<=ns.length:=by
 rw [<- aI9];exact firstMet_length_le _ _
end
end ST
namespace DL
open PySem PySem.Spec PyProof.Rows L2 CI ST
section
variable {X:Cx} {st:Sta} {d:Nat} {v:Evs} {a:Expr} {p p2 pos pos2:Pos}
def aJ0 (G:Good X st d) {x:Str} (h:okB st x=true):(dF st x&&(slot st x).isNone&&st.bl.contains x)=true:=by
 unfold okB at h;rw [Bool.and_eq_true] at h;exact h.1
def bH5 (S:Snd v) (G:Good X st d) (h1:okB st "len"=true) (h2:okB st "set"=true) (hs:aH a=true):SE X (.Call (.Name "len" p) [.Call (.Name "set" p2) [a] [] pos2] [] pos) (xb (aV v st [a]) fun ws=>fun _ h=>xLS ws h):=by
 intro κ M δ h s w h' R F e;obtain ⟨ws,hh,e1,e⟩:=aG e;obtain ⟨n1,n2,n3⟩:=eO G (aJ0 G h1);refine wpAny_Call_Name_kw (eK (u:=.builtin "len") F R n2 n3 (by decide +kernel) n1 ?_);refine PyProof.Rows.callWith_builtin1 (jT (by rfl) ?_) rfl rfl;refine nQ (f:=.type "set") S G (aJ0 G h2) (by decide +kernel) (.inr ⟨_,rfl⟩) R F e1 fun {M1 us s1} l1 R1 r1=>?_;have sb:scanBound=4096:=rfl;have fin:∀ {ns:List Int} {h2:Heap} {tk2:Nat},ns.length<=62->SetI X.S.P X.S.w h2 s1.heap.objs.size (dd ns)->(∀ b o,s1.heap.get? b=some o->h2.get? b=some o)->Wp X.S X.A (call (.builtin "len") [.ref s1.heap.objs.size]) (Pw X.S κ M hh (.d (.int (dd ns).length))) NE { s1 with heap:=h2,toks:=tk2 }:=fun {ns h2 tk2} hn si k2=>by
  obtain ⟨o,es,ep,tt,ho,pt⟩:=si;have hsz:es.size=(dd ns).length:=by
   have:=pt.ks.length_eq
   simpa using this
  have hd:=bH4 ns;refine call_len_set ho pt.ex pt.dat pt.fit (by omega) ?_;rw [hsz];exact ((R1.kept (t:=tk2) k2).tok _).pi.go l1
 unfold xLS at e;rcases ws with _ | ⟨x,_ | ⟨y,ws⟩⟩
 ·cases e
 ·obtain ⟨u,rfl,ru⟩:=w1 r1;cases x with
  | c _=>cases e
  | d x =>
   cases x with
   | tuple xs =>
    dsimp only at e;cases en:dQ xs with
    | none=>rw [en] at e;cases e
    | some ns =>
     rw [en] at e;obtain ⟨hn,e⟩:=aF e;cases e;obtain ⟨b,vs,n,rfl,z,hz,rr⟩:=gX (h:=h') R1 ru rfl;have hi:=jU en rr;exact mB (b:=true) G.rm.hd (show s1.heap.IsTuple b vs.toArray from fS (R1.z _ _ z)) (by simpa using hi) (by have:=hi.length;simp;omega) fun h2 tk2 si k2=>fin hn si k2
   | list xs =>
    dsimp only at e;cases en:dQ xs with
    | none=>rw [en] at e;cases e
    | some ns =>
     rw [en] at e;obtain ⟨hn,e⟩:=aF e;cases e;obtain ⟨b,vs,n,rfl,ho,hz,rr⟩:=dS (h:=h') R1 ru rfl;have hi:=jU en rr;exact mB (b:=false) G.rm.hd (cY ho).isList (by simpa using hi) (by have:=hi.length;simp;omega) fun h2 tk2 si k2=>fin hn si k2
   | _=>cases e
 ·rcases x with x | _<;>first | (cases e;done) | (cases x<;>cases e)
end
end DL

namespace DL
open PySem PySem.Spec PyProof.Rows L2 CI
section
variable {X:Cx} {st:Sta} {d:Nat} {v:Evs} {κ:Kp} {M:Mp} {δ:DSt} {h h':aA} {s:Shared} {a b c e o tg iter:Expr} {es:List Expr} {pos p p2 apos:Pos} {x m:Str} {w:W}
def bH6 (S:Snd v) (G:Good X st d) {p:Pos} {args:List Expr} (hx:(dF st "isinstance"&&(slot st "isinstance").isNone&&st.bl.contains "isinstance")=true):SE X (.Call (.Name "isinstance" p) args [] pos) (bD7 v st args):=by
 unfold bD7;cases bR8 args with
 | some y =>
  obtain ⟨⟨e,T⟩,q,rfl⟩:=y;dsimp only;split
  ·rename_i hc;simp only [Bool.and_eq_true] at hc;split
   ·rename_i Ts hT;exact bV4 S G hx hc.1.1.1 (by rw [hc.1.1.2,hc.1.2,hc.2];rfl) hT
   ·exact cH
  ·exact cH
 | none =>
  cases bR9 args with
  | some y =>
   obtain ⟨e,q1,q2,k,r,rfl⟩:=y;dsimp only;split
   ·rename_i hc;simp only [Bool.and_eq_true] at hc;exact bG9 S G hx hc.1.1 hc.1.2 hc.2
   ·exact cH
  | none=>exact cH
def bW5 (S:Snd v) (G:Good X st d) {o:Expr} {m:Str} {apos:Pos} {args:List Expr}:SE X (.Call (.Attribute o m apos) args [] pos) (bD8 v st o m apos pos args):=by
 unfold bD8;split
 ·rename_i hc;rw [Bool.and_eq_true] at hc;rcases args with _ | ⟨a,es⟩
  ·exact cH
  ·dsimp only;split
   ·rename_i hm;subst hm;rcases es with _ | ⟨_,_⟩
    ·dsimp only;split
     ·exact bV7 S G hc.1 hc.2
     ·exact cH
    ·exact cH
   ·split
    ·rename_i hm;subst hm;rcases es with _ | ⟨_,_⟩
     ·dsimp only;split
      ·rename_i hs;exact bV8 S G hc.1 hc.2 hs
      ·exact cH
     ·exact cH
    ·split
     ·rename_i hn;split
      ·rename_i g hg;exact bH0 S G hg hc.1 hc.2 (by simpa using hn)
      ·exact cH
     ·exact cH
 ·exact cH
def bH7 (S:Snd v) (G:Good X st d) {f:Expr} {args:List Expr}:SE X (.Call f args [] pos) (wZ v st f args pos):=by
 cases f with
 | Name x p =>
  unfold wZ;dsimp only;split
  ·rename_i ht;rw [Bool.and_eq_true] at ht;split
   ·rename_i m hm;rcases args with _ | ⟨a,es⟩
    ·exact cH
    ·exact bU9 S G ht.1 (G.fnW _ _ hm)
   ·split
    ·rename_i C m hm;rcases args with _ | ⟨a,es⟩
     ·exact cH
     ·exact cK9 S G ht.1 hm
    ·split
     ·rename_i m hm;rcases args with _ | ⟨a,es⟩
      ·exact cH
      ·refine aH1 G ht.1 (G.fn _ _ hm) (fa:=if (st.ac x).isEmpty=true then aV v st (a::es) else iZ v st (st.ac x) 0 (a::es)) ?_ fun {δ h r} e=>?_
       ·split
        ·exact cD S G _
        ·exact xI S G _ _ _
       ·split at e
        ·exact eY e
        ·exact nP e
     ·split
      ·rename_i hbl;have hx:(dF st x&&(slot st x).isNone&&st.bl.contains x)=true:=by rw [ht.1,ht.2,hbl];rfl
       split
       ·rename_i g hg;rcases args with _ | ⟨a,es⟩
        ·exact cH
        ·obtain ⟨f,h1,h2,h3⟩:=aT9 (S:=X.S) hg;exact bV2 S G hx h1 h2 h3
       ·split
        ·rename_i hi;subst hi;exact bH6 S G hx
        ·rcases args with _ | ⟨a,es⟩
         ·exact nO hU
         ·exact nO (aI3 S G)
      ·exact cH
  ·exact cH
 | Attribute o m apos =>
  unfold wZ;dsimp only;split
  ·rename_i C g hm;rcases args with _ | ⟨a,es⟩
   ·exact cH
   ·dsimp only;split
    ·rename_i hc;simp only [Bool.and_eq_true,decide_eq_true_eq] at hc;exact cL0 S G hm hc.1.1.1 (by rw [hc.1.1.2]) hc.1.2 hc.2
    ·exact cH
  ·exact bW5 S G
 | _=>exact cH
def bH8 (S:Snd v) (G:Good X st d) {f:Expr} {args:List Expr}:SE X (.Call f args [] pos) (aE5 v st f args pos):=by
 unfold aE5;cases hq:fuS f args with
 | none=>exact bH7 S G
 | some y =>
  obtain ⟨a,p,p2,q,rfl,rfl⟩:=y;dsimp only;split
  ·rename_i hc;simp only [Bool.and_eq_true] at hc;exact bH5 S G hc.1.1 hc.1.2 hc.2
  ·exact cH
def bH9 (S:Snd v) (G:Good X st d) (e:Expr):SE X e (tF v st e):=by
 cases e with
 | Name x p=>exact bE8 G
 | Constant c k p=>exact aS7
 | BinOp a op b p =>
  unfold tF;dsimp only;split
  ·rename_i es p';have:cI v st (.BinOp (.List es p') .Mult b p')=cI v st (.BinOp (.List es p') .Mult b p):=rfl;rw [this];exact nO (jF S G _)
  ·exact bT1 S G
 | Compare a ops cs p=>exact bG6 S G
 | BoolOp op vs p =>
  cases op with
  | And=>exact aF8 S G vs
  | Or=>exact bA0 S G vs
 | UnaryOp op a p =>
  cases op with
  | Not=>exact bT2 S G
  | USub=>exact bT3 S G
  | _=>exact cH
 | IfExp c a b p=>exact bT4 S G
 | Tuple es k p=>exact bT8 S G
 | List es p=>exact nO (jF S G _)
 | ListComp elt gs sc p=>exact nO (jF S G _)
 | Subscript a b p =>
  unfold tF;dsimp only;split
  ·exact bU6 S G
  ·rename_i k q;exact nO (jF S G (.Subscript a (.Slice none none (some k) q) p))
  ·split
   ·exact cH
   ·rename_i hs;have hs:uU b=false:=by simpa using hs
    split
    ·rename_i f hf;exact bW4 S G hf hs
    ·exact cL1 S G hs
 | Call f args kw p =>
  rcases kw with _ | ⟨_,_⟩
  ·exact bH8 S G
  ·exact cH
 | Attribute o f p =>
  unfold tF;dsimp only;split
  ·rename_i ho;exact bV0 S G ho
  ·exact cH
 | Dict ks vs p =>
  rcases ks with _ | ⟨_,_⟩
  ·rcases vs with _ | ⟨_,_⟩
   ·exact aT8
   ·exact cH
  ·exact cH
 | _=>exact cH
theorem bA4 (S:Snd v) (G:Good X st d) (he:∀ whole,isTrue e X.env whole=(do let v <- whole;standAt e.pos;holding [v] (truthy v))):ST X e (xb (v.E st e) fun w=>(match w with
  | .d (.bool b)=>aD b
  | _=>xno)):=by
 intro κ M δ h s w h' R F e';obtain ⟨x,h1,e1,e'⟩:=aG e';refine isTrue_plain (thn (S.E G e R F e1) fun u s1 ⟨M1,l1,R1,r1⟩=>?_) (he _);rcases x with (_ | b | _ | _ | _ | _ | _) | _<;>first | cases e';done | skip
 cases e';cases wb.mp r1;exact wpAny_truthy_bool ⟨rfl,M1,l1,R1⟩
def bI0 (S:Snd v) (G:Good X st d) (e:Expr):ST X e (aZ6 v st e):=by
 cases e with
 | UnaryOp op a p =>
  cases op with
  | Not =>
   intro κ M δ h s w h' R F e;obtain ⟨x,h1,e1,e⟩:=aG (show xb (v.T st a) (fun b=>aD (!b)) δ h=some (w,h') from e);cases e;exact isTrue_not (thn (S.T G a R F e1) fun c s1 ⟨ec,q⟩=>⟨by rw [ec],q⟩)
  | _=>exact bA4 S G fun _=>rfl
 | BoolOp op vs p =>
  cases op with
  | And=>exact bA1 S G vs _
  | Or=>exact bT5 S G vs _
 | Compare a ops cs p=>exact bT7 S G
 | IfExp a b c p=>exact fun _ _ _ _ _ _ _ _ _ e=>by cases e
 | _=>exact bA4 S G fun _=>rfl
def aA2:SG X e (fun _ _ _=>none):=fun _ _ _ _ _ _ _ _ _ _ _ _ e=>by cases e
def vS (h:uU b=false) (v:Value):assign (.Subscript a b pos) X.env v=(do
   let ov <- holding [v] (eval a X.env)
   let iv <- holding [v,ov] (eval b X.env)
   standAt pos
   holding [v,ov,iv] (setItem ov iv v)
   release [v,ov,iv] []):=by
 cases b<;>first | rfl | cases h
def bI1 (S:Snd v) (G:Good X st d) (e:Expr):SG X e (tH v st e):=by
 cases e with
 | Name x p =>
  unfold tH;dsimp only;split
  ·rename_i i hi;split
   ·rename_i hl;exact bF4 G hi hl
   ·exact aA2
  ·exact aA2
 | Tuple es k p =>
  unfold tH;dsimp only;split
  ·rename_i hs;exact bU2 S G hs
  ·exact aA2
 | Subscript a b p =>
  unfold tH;dsimp only;split
  ·exact aA2
  ·rename_i hs;exact bU3 S G (vS (by simpa using hs))
 | _=>exact aA2
end
end DL

namespace DL
open PySem PySem.Spec PyProof.Rows L2 CI
section
variable {X:Cx} {st:Sta} {d:Nat} {v:Evs} {κ:Kp} {M:Mp} {δ:DSt} {h h':aA} {s:Shared} {a b c e o tg iter:Expr} {es:List Expr} {pos p p2 apos px:Pos} {x m:Str} {w:W} {i:Nat}
def dO (h:jA e=false) (t:Option Expr) (l:Nat) (env:Env):swapsWith e t l env=pure false:=by
 cases e<;>first | rfl | cases h
def tR (F:Fra X κ M δ) (G:Good X st d) {elt:Expr} {gs:List Comprehension} {sc:Scope} {l:Nat} :
  swapsWith (.ListComp elt gs sc p) (some (.Name x px)) l X.env=pure (swB st (.ListComp elt gs sc p) x px):=by
 show (pure (X.env.blockKind==.function&&X.env.kindOf x==some .local&&px.line==p.line&&!(sc.names.any fun (n,k)=>n==x&&(k==.local||k==.cell))):Sem Bool)=_;unfold swB;dsimp only;have e1:(X.env.blockKind==.function)=true:=by unfold Env.blockKind;rw [F.ok.kind];rfl
 have e2:(X.env.kindOf x==some .local)=dJ st.S x:=by
  unfold Env.kindOf dJ;rw [G.S];cases q:st.S.names.lookup x with
  | none=>rfl
  | some k=>cases k<;>rfl
 rw [e1,e2,Bool.true_and]
def vT (h:aR9 e tg=false) (env:Env):swappedStores [tg] e env=pure none:=by
 cases tg<;>first | rfl | (cases e<;>first | rfl | cases h)
def aU0 (h:aH e=true) (env:Env):(assignEach [e] env).map (·.2)=[assign e env]:=by
 cases e<;>first | rfl | cases h
def xN {f:XR W} (G:Good X st d) (he:SE X e f) (hi:slot st x=some i) (hl:(oS st.S x&&(st.top||dJ st.S x))=true) (hs:∀ ⦃κ M δ⦄,Fra X κ M δ->swapsWith e (some (.Name x px)) pos.line X.env=pure false):SS X (.Assign [.Name x px] e pos) (aS i f):=by
 intro κ M δ h s fl h' R F e';obtain ⟨⟨w,h1⟩,e1,e'⟩:=bind_some e';cases e';obtain ⟨hx,hf⟩:=uY G hl;refine wpAny_Assign_Name (thn (he R F e1) fun u s1 ⟨M1,l1,R1,r1⟩=>?_) (hs F);exact xD (F.go l1) R1 (jO G hi) hx hf r1 fun s2 κ2 o2 R2 F2 _=>⟨κ2,M1,o2,l1,R2,F2⟩
def aJ1 (S:Snd v) (G:Good X st d) (hi:slot st x=some i) (hl:(oS st.S x&&(st.top||dJ st.S x))=true) (hc:jA e=true) (hs:(swB st e x px||!(dJ st.S x))=true) {f:XR W}
  (hf:f=bB (cI v st e)\/f=aJ (cI v st e)):SS X (.Assign [.Name x px] e pos) (aS i f):=by
 have no:∀ {e:Expr},f=bB (cI v st e)\/f=aJ (cI v st e)->(∀ δ h,cI v st e δ h=none)->SS X (.Assign [.Name x px] e pos) (aS i f):=fun {e} hf n κ M δ h s fl h' R F e'=>by
  obtain ⟨⟨w,h1⟩,e1,e'⟩:=bind_some e';rcases hf with rfl | rfl<;>(obtain ⟨q,e2,_⟩:=bind_some (show (cI v st e δ h).bind _=_ from e1);rw [n] at e2;cases e2)
 cases e with
 | ListComp elt gs sc p =>
  by_cases hw:swB st (.ListComp elt gs sc p) x px=true
  ·rcases gs with _ | ⟨⟨tg,iter,ifs,a⟩,_ | ⟨_,_⟩⟩
   ·exact no hf fun _ _=>rfl
   ·by_cases ha:a=0
    ·subst ha
     by_cases hcc:(tE st.N sc st.S&&!jM iter)=true
     ·have e0:cI v st (.ListComp elt [⟨tg,iter,ifs,0⟩] sc p)=xb (pC v st tg iter) fun p=>fun δ h=>aQ (v.G (st.blk sc) tg) (aR8 v (st.blk sc) ifs) (v.E (st.blk sc) elt) p.2 p.1 p.1 (aY (pE st.N sc) δ) h []:=by
       show lV v st elt tg iter ifs sc=_;unfold lV;rw [if_pos hcc]
      rw [Bool.and_eq_true] at hcc;have hset:jM iter=false:=by simpa using hcc.2
      have hloc:st.S.names.lookup x=some .local:=by
       unfold swB at hw;simp only [Bool.and_eq_true] at hw;have h1:=hw.1.1;unfold dJ at h1;split at h1
       ·assumption
       ·cases h1
      intro κ M δ h s fl h' R F e';obtain ⟨⟨w,h2⟩,e1,e'⟩:=bind_some e';cases e';have run:∀ {xs:List PyData} {h1:aA},cI v st (.ListComp elt [⟨tg,iter,ifs,0⟩] sc p) δ h=some (xs,h1)->(∀ {κ:Kp} {M:Mp} {u:Value} {s:Shared},Pf X.S κ M h1 xs u s->Pw X.S κ M h2 w u s)->Wp X.S X.A (exec (.Assign [.Name x px] (.ListComp elt [⟨tg,iter,ifs,0⟩] sc p) pos) X.env) (Ps X κ M h2 (.nx (δ.set i (some w)))) NE s:=fun {xs h1} e2 cv=>by
       rw [e0] at e2;obtain ⟨⟨all,c⟩,h0,e3,e4⟩:=aG e2;exact bF7 G.rm.hd (by rw [G.S,G.N];exact rI hcc.1) (rQ S G tg iter) (fun cl C=>S.G (dM G cl C) tg) (fun cl C=>vE S (dM G cl C) ifs) (fun cl C=>S.E (dM G cl C) elt) (rJ hset _) R F e3 (jQ e4) (fun p=>cv (bU4 p)) (jO G hi) (by rw [G.S];exact hloc) (by rw [tR F G,hw])
      rcases hf with rfl | rfl
      ·obtain ⟨⟨xs,h1⟩,e2,e5⟩:=bind_some (show (cI v st _ δ h).bind _=_ from e1);cases e5;exact run e2 fun p=>aE7 p
      ·obtain ⟨⟨xs,h1⟩,e2,e5⟩:=bind_some (show (cI v st _ δ h).bind _=_ from e1);cases e5;exact run e2 fun p=>qY p
     ·exact no hf fun δ h=>by
       show lV v st elt tg iter ifs sc δ h=none;unfold lV;rw [if_neg hcc];rfl
    ·exact no hf fun δ h=>by
      show (if a=0 then lV v st elt tg iter ifs sc else xno) δ h=none;rw [if_neg ha];rfl
   ·exact no hf fun _ _=>rfl
  ·have hw':swB st (.ListComp elt gs sc p) x px=false:=by simpa using hw
   refine xN G ?_ hi hl fun κ M δ F=>by rw [tR F G,hw']
   rcases hf with rfl | rfl
   ·exact pK (jF S G _)
   ·exact nO (jF S G _)
 | SetComp elt gs sc p=>exact no hf fun _ _=>rfl
 | DictComp k w gs sc p=>exact no hf fun _ _=>rfl
 | _=>cases hc
def bW6 (S:Snd v) (G:Good X st d) (hc:jA e=false) (ht:aR9 e tg=false) (hn:aH tg=true):SS X (.Assign [tg] e pos) fun δ h=>(v.E st e δ h).bind fun p=>(v.G st tg p.1 δ p.2).bind fun q=>some (.nx q.1,q.2):=by
 intro κ M δ h s fl h' R F e';obtain ⟨⟨w,h1⟩,e1,e'⟩:=bind_some e';obtain ⟨⟨δ2,h2⟩,e2,e'⟩:=bind_some e';cases e';refine wpAny_Assign_stores (thn (S.E G e R F e1) fun u s1 ⟨M1,l1,R1,r1⟩=>?_) (dO hc _ _ _) (vT ht _);rw [aU0 hn];exact thn (S.G G tg R1 (F.go l1) r1 e2) fun _ s2 ⟨κ2,M2,o2,l2,R2,F2⟩=>⟨κ2,M2,o2,l1.trans l2,R2,F2⟩
def bI2 (S:Snd v) (G:Good X st d) (t:Stmt):SS X t (tI v st t):=by
 have one:∀ (tg e:Expr) (pos:Pos),SS X (.Assign [tg] e pos) (if (jA e||aR9 e tg||!(aH tg))=true then fun _ _=>none else fun δ h=>(v.E st e δ h).bind fun p=>(v.G st tg p.1 δ p.2).bind fun q=>some (.nx q.1,q.2)):=fun tg e pos=>by
  split
  ·exact mM
  ·rename_i hc;simp only [Bool.or_eq_true,not_or,Bool.not_eq_true,Bool.not_eq_true',Bool.not_eq_false] at hc;exact bW6 S G hc.1.1 hc.1.2 (by simpa using hc.2)
 cases t with
 | Return o p =>
  cases o with
  | none=>exact mM
  | some e =>
   refine bU0 (f:=if st.cv.contains "return"=true then aS0 v st e else v.E st e) ?_;split
   ·exact bW3 S G e
   ·exact S.E G e
 | If c a b p=>exact cK6 S G
 | Expr e p =>
  unfold tI;dsimp only;split
  ·exact mM
  ·rename_i hc;exact bF3 S G (dO (by simpa using hc) _ _ _)
 | Pass p=>exact fun _ _ _ _ _ _ _ R F e=>by cases e;exact wpAny_Pass ⟨_,_,.refl,.refl,R,F⟩
 | Break p=>exact fun _ _ _ _ _ _ _ R F e=>by cases e;exact wpAny_Break ⟨_,_,.refl,.refl,R,F⟩
 | Continue p=>exact fun _ _ _ _ _ _ _ R F e=>by cases e;exact wpAny_Continue ⟨_,_,.refl,.refl,R,F⟩
 | For tg iter body els p =>
  rcases els with _ | ⟨_,_⟩
  ·unfold tI;dsimp only;split
   ·exact mM
   ·rename_i hs;exact bU1 G.rm.hd (rQ S G tg iter) (S.G G tg) (tM S G body) (rJ (by simpa using hs) _)
  ·exact mM
 | Assign tgs e p =>
  rcases tgs with _ | ⟨tg,_ | ⟨_,_⟩⟩
  ·exact mM
  ·cases tg with
   | Name x px =>
    unfold tI;dsimp only;split
    ·rename_i i hi;split
     ·rename_i hl;split
      ·rename_i hc;split
       ·rename_i hw;split
        ·exact aJ1 S G hi hl hc hw (.inl rfl)
        ·exact aJ1 S G hi hl hc hw (.inr rfl)
       ·exact mM
      ·rename_i hc;have hsw:∀ ⦃κ M δ⦄,Fra X κ M δ->swapsWith e (some (.Name x px)) p.line X.env=pure false:=fun _ _ _ _=>dO (by simpa using hc) _ _ _;split
       ·rename_i hz;rw [Bool.and_eq_true] at hz;have hd:∃ pp,e=.Dict [] [] pp:=by
         have:=hz.2;cases e<;>first | (cases this;done) | skip
         rename_i ks vs pp;cases ks<;>cases vs<;>first | exact ⟨_,rfl⟩ | cases this
        obtain ⟨pp,rfl⟩:=hd;exact xN G bH1 hi hl hsw
       ·split
        ·exact xN G (pK (S.F G e)) hi hl hsw
        ·exact xN G (S.E G e) hi hl hsw
     ·exact mM
    ·exact mM
   | Attribute o f pa=>exact bV1 S G (bV9 S G) (by cases e<;>rfl)
   | _=>exact one _ _ _
  ·cases tg<;>exact mM
 | _=>exact mM
end
def aJ2 {v:Evs} (S:Snd v):Snd (bS1 v):=⟨fun G=>bH9 S G,fun G=>bI0 S G,fun G=>jF S G,fun G=>bI1 S G,fun G=>bI2 S G⟩
def bI3:Snd Evs.no:=⟨fun _ _=>cH,fun _ _ _ _ _ _ _ _ _ _ _ e=>(by cases e),fun _ _=>hU,fun _ _=>aA2,fun _ _=>mM⟩
theorem cQ:∀ n,Snd (evs n)
 | 0=>bI3
 | n+1=>aJ2 (cQ n)
end DL

namespace DL
open PySem PySem.Spec PyProof.Rows L2 CI
def zip_fst {α β:Type} {a:α} {b:β} {l:List α} {r:List β} (h:(a,b)∈l.zip r):a∈l:=(List.of_mem_zip h).1
section
variable {kd:Str->Option NameKind} {x:Str} {v:Value}
theorem jW:∀ {bs:List (Str×Value)} {m:Str->Option Value},(∀ v,(x,v)∉bs)->bindL kd bs m x=m x/\bindC kd bs m x=m x
 | [],_,_=>⟨rfl,rfl⟩
 | (n,v)::r,m,h=>by
  unfold bindL bindC;have ne:x≠n:=by rintro rfl;exact h v List.mem_cons_self
  rw [(jW fun w hw=>h w (List.mem_cons_of_mem _ hw)).1,(jW fun w hw=>h w (List.mem_cons_of_mem _ hw)).2];constructor<;>split<;>simp [ne]
theorem nT:∀ {P:List Str} {vs:List Value} {i:Nat} {m:Str->Option Value},P.Nodup->P[i]?=some x->vs[i]?=some v->(kd x=some .local->bindL kd (P.zip vs) m x=some v)/\(kd x≠some .local->bindC kd (P.zip vs) m x=some v)
 | [],_,_,_,_,h,_=>by simp at h
 | _::_,[],_,_,_,_,h=>by simp at h
 | p::P,w::vs,0,m,nd,h1,h2=>by
  simp at h1 h2;subst h1;subst h2;have no:∀ v,(p,v)∉P.zip vs:=fun v hv=>(List.nodup_cons.mp nd).1 (zip_fst hv);refine ⟨fun hk=>?_,fun hk=>?_⟩
  ·show bindL kd ((p,w)::P.zip vs) m p=_;unfold bindL;rw [(jW no).1,if_pos hk];simp
  ·show bindC kd ((p,w)::P.zip vs) m p=_;unfold bindC;rw [(jW no).2,if_neg hk];simp
 | p::P,w::vs,i+1,m,nd,h1,h2=>by
  have ih:=fun m=>nT (i:=i) (m:=m) (List.nodup_cons.mp nd).2 (by simpa using h1) (by simpa using h2);refine ⟨fun hk=>?_,fun hk=>?_⟩
  ·show bindL kd ((p,w)::P.zip vs) m x=_;unfold bindL;exact (ih _).1 hk
  ·show bindC kd ((p,w)::P.zip vs) m x=_;unfold bindC;exact (ih _).2 hk
end
def aA3 {N:List Str} {ws:List W} {i:Nat} {w:W} (h:(dI N ws)[i]?=some (some w)):ws[i]?=some w:=by
 unfold dI at h
 by_cases hi:i < ws.length
 ·rw [List.getElem?_append_left (by simpa using hi),List.getElem?_map] at h;cases e:ws[i]? with
  | none=>rw [e] at h;cases h
  | some a=>rw [e] at h;cases h;rfl
 ·rw [List.getElem?_append_right (by simpa using hi),List.getElem?_replicate] at h;split at h<;>cases h
structure FnSc (t:Stmt):Prop where
 kind:(defScope t).kind=.function
 co:(defScope t).isCoroutine=false
 gen:(defScope t).isGenerator=false
 nd:(bY t).Nodup
 par:∀ x∈parsOf t,Loc (defScope t) x
 nofree:∀ y∈(defScope t).names,y.2≠.free
def aJ3 {t:Stmt} (h:fnB t=true):FnSc t:=by
 unfold fnB at h;simp only [Bool.and_eq_true,decide_eq_true_eq,List.all_eq_true,Bool.not_eq_true'] at h;obtain ⟨h1,h2,h3,h4,h5,h6⟩:=h;refine ⟨h1,h2,h3,h4,fun x hx=>?_,fun y hy e=>?_⟩
 ·have:=h5 x hx;unfold oS at this;split at this
  ·rename_i q;exact .inl q
  ·rename_i q;exact .inr q
  ·cases this
 ·have:=h6 y hy;rw [e] at this;cases this
def aU1 {t:Stmt} {i:Nat} {y:Str} (e:(bY t)[i]?=some y) (hi:i < (parsOf t).length):(parsOf t)[i]?=some y:=by
 unfold bY at e
 rwa [List.getElem?_append_left hi] at e
abbrev cxF (S:Sx) (t:Stmt) (q:Str) (L f:Addr) (cd:Value) (A:Around):Cx:=⟨S,A.deeper (envOfC q (defScope t) L f cd),bY t,envOfC q (defScope t) L f cd,true⟩
section
variable {S:Sx} {κ:Kp} {M:Mp} {h h':aA} {s s1:Shared} {A:Around} {t:Stmt} {q:Str} {f:Addr} {cd:Value} {us:List Value} {ws:List W}
def lD (FS:FnSc t) (md:Mod S) (hz:S.base.objs.size<=s.heap.objs.size) (hl:ws.length=(parsOf t).length) (fo:FrO κ A) (R:Mem S κ M h s) (r:RepWs S M ws us)
  (x:InCallC s s.heap.objs.size (bindL (envOfC q (defScope t) s.heap.objs.size f cd).kindOf ((parsOf t).zip us) fun _=>none) (cellsFrom (s.heap.objs.size+1) (defScope t).names []) (bindC (envOfC q (defScope t) s.heap.objs.size f cd).kindOf ((parsOf t).zip us) fun _=>none) s1) :
  ∃ κ1,Mem S κ1 M h s1/\Fra (cxF S t q s.heap.objs.size f cd A) κ1 M (dI (bY t) ws)/\∀ κ2,Own (cxF S t q s.heap.objs.size f cd A) κ1 κ2->∀ a y,κ a=some y->κ2 a=some y:=by
 obtain ⟨h1,tk,rfl,hk⟩:=x.done;have R1:Mem S κ M h { s with heap:=h1,toks:=tk }:=R.kept hk
 let fp:=(cellsFrom (s.heap.objs.size+1) (defScope t).names []).map (·.2)
 have up:∀ b∈fp,s.heap.objs.size < b:=fun b hb=>by
  obtain ⟨⟨n,c⟩,hm,rfl⟩:=List.mem_map.mp hb;exact x.above n c hm
 have fr:∀ b∈fp,bV κ M b:=fun b hb=>R.new (Heap.get?_none_of_le (Nat.le_of_lt (up b hb)));have R2:=R1.pin fr;obtain ⟨o,es,ep,ho,hd,hs,hf⟩:=x.toInCall.ns;have f0:=R.size;have R3:=R2.more (b:=false) ⟨f0.1,f0.2.2⟩ ho;have mem:∀ y c,(cellsFrom (s.heap.objs.size+1) (defScope t).names []).lookup y=some c->c∈fp:=fun y c e=>List.mem_map.mpr ⟨_,PySem.mem_of_lookup e,rfl⟩;have kc:∀ y c,(cellsFrom (s.heap.objs.size+1) (defScope t).names []).lookup y=some c->∃ oc,((fZ κ fp h1).up s.heap.objs.size (false,o)) c=some (true,oc)/\oc.data=.cell (bindC (envOfC q (defScope t) s.heap.objs.size f cd).kindOf ((parsOf t).zip us) (fun _=>none) y):=fun y c e=>by
  obtain ⟨oc,h2,h3⟩:=x.cell y c e;have h2:h1.get? c=some oc:=h2;refine ⟨oc,?_,h3⟩;rw [dT (Nat.ne_of_gt (up c (mem y c e)))];unfold fZ;rw [if_pos (mem y c e),h2];rfl
 have has:∀ {y:Str},(defScope t).names.lookup y=some .cell->∃ c,(cellsFrom (s.heap.objs.size+1) (defScope t).names []).lookup y=some c:=fun hy=>Option.isSome_iff_exists.mp (PySem.W.cellsFrom_some _ _ _ (.inl hy));have ndP:(parsOf t).Nodup:=(List.sublist_append_left _ _).nodup FS.nd;refine ⟨_,R3,⟨⟨md,FS.kind,rfl,rfl,fun y z c a b=>name_of_addr x.apart (PySem.mem_of_lookup a) (PySem.mem_of_lookup b),fun y hy=>?_,hz,FS.nd⟩,?_,⟨o,_,nE,⟨es,ep,hd,hs,hf⟩,fun i y w e1 e2 e3=>?_⟩,fun y c e=>?_,?_⟩,fun κ2 own a y ea=>?_⟩
 ·have hy:(defScope t).names.lookup y=some .cell\/(defScope t).names.lookup y=some .free:=hy;rcases hy with hy | hy
  ·exact has hy
  ·exact absurd rfl (FS.nofree _ (PySem.mem_of_lookup hy))
 ·show (dI (bY t) ws).length=(bY t).length;unfold dI;rw [List.length_append,List.length_map,List.length_replicate,hl];have:(parsOf t).length<=(bY t).length:=by unfold bY;rw [List.length_append];omega
  omega
 ·have ew:=aA3 e2;obtain ⟨u,eu,ru⟩:=mY r ew;have hi:i < (parsOf t).length:=by rw [<- hl];exact (List.getElem?_eq_some_iff.mp ew).1
  have ep:=aU1 e1 hi;refine ⟨u,ru,?_⟩;rcases FS.par y (List.mem_of_getElem? ep) with k | k
  ·exact .inl ⟨k,(nT ndP ep eu).1 k⟩
  ·obtain ⟨c,e⟩:=has k;obtain ⟨oc,h2,h3⟩:=kc y c e;rw [(nT ndP ep eu).2 (by show (defScope t).names.lookup y≠_;rw [k];decide)] at h3;exact .inr ⟨.inl k,c,oc,e,h2,h3⟩
 ·obtain ⟨oc,h2,h3⟩:=kc y c e;exact ⟨oc,_,h2,h3⟩
 ·obtain ⟨l,e1,e2⟩:=fo;refine ⟨envOfC q (defScope t) s.heap.objs.size f cd::l,by simp [Around.deeper,e1],fun env he=>?_⟩;rcases List.mem_cons.mp he with rfl | he
  ·exact ⟨by show (defScope t).kind≠_;rw [FS.kind];decide,_,o,rfl,nE,fun vs z=>by rw [hd] at z;cases z⟩
  ·obtain ⟨k1,L,o',k2,k3,k4⟩:=e2 env he;refine ⟨k1,L,o',k2,?_,k4⟩;rw [dT fun z=>by rw [z,f0.2.1] at k3;cases k3];unfold fZ;rw [if_neg fun z=>by rw [(fr L z).2.1] at k3;cases k3];exact k3
 ·have nL:a≠s.heap.objs.size:=fun z=>by rw [z,f0.2.1] at ea;cases ea
  have nf:a∉fp:=fun z=>by rw [(fr a z).2.1] at ea;cases ea
  have e1:((fZ κ fp h1).up s.heap.objs.size (false,o)) a=κ a:=by
   rw [dT nL];unfold fZ;rw [if_neg nf]
  by_cases e2:κ2 a=((fZ κ fp h1).up s.heap.objs.size (false,o)) a
  ·rw [e2,e1,ea]
  ·rcases own a e2 with z | ⟨_,y',z⟩
   ·exact (nL z).elim
   ·exact (nf (mem y' a z)).elim
end
end DL

namespace DL
open PySem PySem.Spec PyProof.Rows L2 CI
section
variable {S:Sx} {κ κ2:Kp} {M M2:Mp} {h h1:aA} {s s':Shared} {n:Nat}
noncomputable def Low (n:Nat):Cell->Prop
 | .r is=>∀ j∈is,j < n
 | .o _ fs=>∀ f j,fs.lookup f=some (.c j)->j < n
 | _=>True
def aJ4 {c:Cell} (hc:∀ j∈cRefs c,j < n):Low n c:=by
 cases c with
 | r is=>exact hc
 | o C fs =>
  intro f j e;refine hc j ?_;unfold cRefs;exact List.mem_flatten.mpr ⟨[j],List.mem_map.mpr ⟨_,PySem.mem_of_lookup e,rfl⟩,List.mem_singleton.mpr rfl⟩
 | _=>exact True.intro
def bI4 {H:Heap} {p:Addr×Addr} {c:Cell} (x:CellOk S M H p c):Low M.m.length c:=by
 cases c with
 | r is =>
  obtain ⟨us,k,_,_,r⟩:=x;intro j hj;obtain ⟨i,hi⟩:=List.getElem?_of_mem hj;obtain ⟨u,_,p,ep,_⟩:=mY (wW r) hi;exact (List.getElem?_eq_some_iff.mp ep).1
 | o C fs =>
  obtain ⟨_,_,_,mA,_,r,_⟩:=x;intro f j e;obtain ⟨u,_,p,ep,_⟩:=RelO.some_of (by rw [<- e];exact r f);exact (List.getElem?_eq_some_iff.mp ep).1
 | _=>exact True.intro
def tS {w:W} {u:Value} (r:RepW S M w u) (hl:∀ j,w=.c j->j < n):RepW S ⟨M.Z,M.m.take n⟩ w u:=by
 cases w with
 | d x=>exact r
 | c j =>
  obtain ⟨p,ep,e⟩:=r;exact ⟨p,by show (M.m.take n)[j]?=_;rw [List.getElem?_take_of_lt (hl j rfl)];exact ep,e⟩
theorem pZ:∀ {is:List Nat} {us:List Value},RepWs S M (is.map .c) us->(∀ j∈is,j < n)->RepWs S ⟨M.Z,M.m.take n⟩ (is.map .c) us
 | [],_,r,_=>by cases r;exact .nil
 | i::is,_,r,l=>by
  cases r with
  | cons a b=>exact .cons (tS a fun j ej=>by cases ej;exact l i List.mem_cons_self) (pZ b fun j hj=>l j (List.mem_cons_of_mem _ hj))
def aJ5 {H:Heap} {p:Addr×Addr} {c:Cell} (x:CellOk S M H p c) (l:Low n c):CellOk S ⟨M.Z,M.m.take n⟩ H p c:=by
 cases c with
 | r is =>
  obtain ⟨us,k,e,z,r⟩:=x;exact ⟨us,k,e,z,pZ r l⟩
 | o C fs =>
  obtain ⟨a,b,c,mA,d,r,e⟩:=x;refine ⟨a,b,c,mA,d,fun f=>?_,e⟩;have rf:=r f;cases q:fs.lookup f with
  | none=>rw [q] at rf;cases q2:mA f with
   | none=>exact True.intro
   | some u=>rw [q2] at rf;exact rf.elim
  | some w =>
   rw [q] at rf;obtain ⟨u,eu,ru⟩:=RelO.some_of rf;rw [eu];exact tS ru fun j ej=>l f j (by rw [q,ej])
 | l xs=>exact x
 | k xs=>exact x
 | n xs=>exact x
 | t xs=>exact x
def Mem.cut (R0:Mem S κ M h s) (l:Le M M2) (R:Mem S κ M2 h1 s') (ok:okP h h1):Mem S κ ⟨M2.Z,M.m⟩ (h1.take h.length) s':=by
 obtain ⟨k,ek⟩:=l.m;have em:M.m=M2.m.take h.length:=by rw [ek,<- R0.len];simp
 have lt:h.length<=h1.length:=by rw [<- R.len,ek,<- R0.len];simp
 have at_:∀ {i:Nat} {p:Addr×Addr},M.m[i]?=some p->M2.m[i]?=some p:=fun e=>l.at e;have sub:∀ p∈M.m,p∈M2.m:=fun p hp=>by rw [ek];exact List.mem_append_left _ hp
 refine ⟨R.z,R.k,by rw [List.length_take];show M.m.length=_;rw [R0.len];omega,fun i j p q a b=>R.ap i j p q (at_ a) (at_ b),fun p hp=>R.off p (sub p hp),fun i p c a b=>?_,R.base,R.bare,R.os⟩;have a:M.m[i]?=some p:=a;have hi:i < h.length:=by rw [<- R0.len];exact (List.getElem?_eq_some_iff.mp a).1
 rw [List.getElem?_take_of_lt hi] at b;have lo:Low h.length c:=by
  rcases ok i c hi b with z | z
  ·exact aJ4 z
  ·have:=bI4 (R0.cel i p c a z)
   rwa [R0.len] at this
 have:=aJ5 (R.cel i p c (at_ a) b) lo
 rwa [<- em] at this
def aU2 {p:Fl×aA} {z:PyData} {h2:aA} {u:Value} (R0:Mem S κ M h s) (l:Le M M2) (R:Mem S κ M2 p.2 s') (e:aR h p=some (z,h2)) (hr:(∃ δ,p.1=.nx δ/\u=.none)\/∃ w,p.1=.rt w/\RepW S M2 w u):Pw S κ M h2 (.d z) u s':=by
 unfold aR at e
 classical
 obtain ⟨ok,e⟩:=aF e;have R3:=R0.cut l R ok;have l3:Le M ⟨M2.Z,M.m⟩:=⟨l.z,[],by simp⟩;rcases hr with ⟨δ,hp,rfl⟩ | ⟨w,hp,r⟩
 ·rw [hp] at e;cases e;exact R3.pn.go l3
 ·rw [hp] at e;cases w with
  | d y=>cases e;exact ⟨_,l3,R3,r⟩
  | c i =>
   dsimp only at e;obtain ⟨q,eq,rfl⟩:=r;obtain ⟨z1,k1,_⟩:=R.off q (List.mem_of_getElem? eq) q.1 (.inl rfl);have fr:h.length<=i->bV κ ⟨M2.Z,M.m⟩ q.1:=fun hi=>⟨z1,k1,fun r hr=>by
    obtain ⟨j,hj⟩:=List.getElem?_of_mem hr;have hj:M.m[j]?=some r:=hj;have hlt:j < h.length:=by rw [<- R0.len];exact (List.getElem?_eq_some_iff.mp hj).1
    obtain ⟨a,_,b,_⟩:=R.ap j i r q (l.at hj) eq (by omega);exact ⟨a,b⟩⟩
   split at e
   ·rename_i xs ei;obtain ⟨hi,e⟩:=aF e;cases e;obtain ⟨us,n,ho,hz,rr⟩:=R.cel i q _ eq ei;exact ⟨_,l3.trans (Le.add (fr hi).1),R3.frz (fr hi) ho,rep_l.mpr ⟨_,_,us,rfl,nD,⟨⟨n,rfl⟩,hz⟩,Reps'.go (Le.add (fr hi).1) rr⟩⟩
   ·rename_i xs ei;obtain ⟨hi,e⟩:=aF e;cases e;obtain ⟨vs,hd,rr,hs,hz⟩:=R.cel i q _ eq ei;obtain ⟨o,es,ep,ho,hr⟩:=hd;exact ⟨_,l3.trans (Le.add (fr hi).1),R3.frz (fr hi) ho,rep_d.mpr ⟨_,o,vs,rfl,nD,⟨hs,hz,fun h2 e2=>⟨o,es,ep,e2,hr⟩⟩,RepK.go (M:=⟨M2.Z,M.m⟩) (Le.add (fr hi).1) rr⟩⟩
   ·cases e
end
structure Fun (K:PySem.W.Frag) (x qual:Str) (st:Stmt) (f:Addr) (fd:FuncData):Prop where
 ex:∃ (oc:Value) (od:Option Addr) (kV doc pm:Value) (an:Option Addr) (cdv ct:Value) (osl:Array (Option Value)),
  fd=PySem.W.fnOf x qual (cP st) (aX st) (defScope st) .none kV doc pm an cdv ct/\K.lookup f=some ⟨oc,od,.func fd,osl⟩/\PySem.W.codeIn K cdv qual=true
 kp:PySem.W.keepIn K (.ref f)=true
structure TopOk (t:Top) (S:Sx):Prop where
 bl:∀ x,t.bl.contains x=true->S.mg x=none
 gc:∀ x z,t.gc x=some z->∃ u,S.mg x=some u/\Rep S S.base.get? z u
 tk:∀ x f,t.tk x=some f->∃ p,S.mg x=some (.ref p)/\TabK S.w S.K p f
 defs:∀ x s,t.defs x=some s->∃ f fd,Fun S.K x x s f fd/\S.mg x=some (.ref f)/\eG S.K fd (parsOf s)
 ini:∀ x C s,t.ini x=some (C,s)->∃ n q f fd,Fun S.K n q s f fd/\Mk S.K C f/\S.mg x=some (.ref C)/\eG S.K fd (parsOf s)
 mt:∀ x C s,t.mt x=some (C,s)->Cls S.K C/\∃ n q f fd,Fun S.K n q s f fd/\Meth S.K C x f/\eG S.K fd (parsOf s)
 fo:∀ C f,t.fo C f=true->Cls S.K C/\NoAttr S.K C f
 qn:∀ x q,t.qn x=some q->t.mt x=none/\t.ini x=none/\∀ s f fd,Fun S.K x x s f fd->S.mg x=some (.ref f)->x++".<locals>."=q.1/\∃ c0,fd.code=.ref c0/\TbS S c0 q.2
structure TabOk (S:Sx) (d:Nat) (fn:Str->Option XF) (ob:ObS):Prop where
 fn:∀ x m,fn x=some m->FnG S d x (toW m)
 fnW:∀ x m,ob.fnW x=some m->FnG S d x m
 cls:∀ x C m,ob.cls x=some (C,m)->(∀ ws h,m ws h=none)\/∃ k f fd ps,k+1<=d/\Mk S.K C f/\FnS S k f fd ps m/\S.mg x=some (.ref C)/\eG S.K fd ps
 om:∀ x C m,ob.om x=some (C,m)->(∀ ws h,m ws h=none)\/(Cls S.K C/\∃ f fd ps,Meth S.K C x f/\FnS S d f fd ps m/\eG S.K fd ps)
 fo:∀ C f,ob.fo C f=true->Cls S.K C/\NoAttr S.K C f
section
variable {S:Sx} {t:Top} {fn:Str->Option XF} {ob:ObS} {x n q:Str} {st:Stmt} {f:Addr} {fd:FuncData} {k:Nat}
def gK {A:Around} {L:Addr} {cd:Value} (T:TopOk t S) (B:TabOk S k fn ob) (hr:Room (k+1) A) (hq:∀ q',t.qn x=some q'->q++".<locals>."=q'.1/\∃ c0,cd=.ref c0/\TbS S c0 q'.2):Good (cxF S st q L f cd A) (t.sta fn ob x st) k :=
 ⟨T.bl,T.gc,T.tk,B.fn,B.fnW,B.cls,B.om,B.fo,rfl,rfl,fun _=>rfl,hr.deeper _,fun q' e=>⟨(hq q' e).1,(hq q' e).2,by have:=hr.dp;show A.depth+1+3*k+7 < _;omega,by have:=hr.un;show A.units+3+16*k+212 < _;omega⟩⟩
def aJ6 {m:XFW} (hq:∀ q',t.qn x=some q'->q++".<locals>."=q'.1/\∃ c0,fd.code=.ref c0/\TbS S c0 q'.2) (T:TopOk t S) (F:Fun S.K n q st f fd) (B:TabOk S k fn ob) (hb:fnB st=true) (len:∀ ws h r,m ws h=some r->ws.length=(parsOf st).length)
  (he:∀ ws h r,m ws h=some r->∃ p,xSs (evs t.deep) (t.sta fn ob x st) (aX st) (dI (bY st) ws) h=some p/\∀ {κ M M2 s s' u},Mem S κ M h s->Le M M2->Mem S κ M2 p.2 s'->((∃ δ,p.1=.nx δ/\u=.none)\/∃ w,p.1=.rt w/\RepW S M2 w u)->Pw S κ M r.2 r.1 u s') (hnb:∀ ws h r p,m ws h=some r->xSs (evs t.deep) (t.sta fn ob x st) (aX st) (dI (bY st) ws) h=some p->(∃ δ,p.1=.nx δ)\/∃ w,p.1=.rt w) :
  FnS S (k+1) f fd (parsOf st) m:=by
 refine ⟨len,fun {A κ M h h' s args us ws w} hr fo md hz R hbd r e=>?_⟩;obtain ⟨oc,od,kV,doc,pm,an,cdv,ct,osl,rfl,lk,hcd⟩:=F.ex;have FS:=aJ3 hb;have KX:S.K.In s.heap:=md.kin.keeps R.bk;have lim:s.heap.NoLimit:=md.nolimit.keeps R.bk;have hkind:∀ y∈(parsOf st).zip us,(defScope st).names.lookup y.1=some .local\/((defScope st).names.lookup y.1=some .cell/\((cellsFrom (s.heap.objs.size+1) (defScope st).names []).lookup y.1).isSome=true):=fun ⟨n,v⟩ hy=>by
  rcases FS.par n (zip_fst hy) with q | q
  ·exact .inl q
  ·exact .inr ⟨q,PySem.W.cellsFrom_some _ _ _ (.inl q)⟩
 have hdep:A.depth < recursionLimit:=by have:=hr.dp;omega
 refine codeAny_call_function hdep (KX _ _ lk) rfl FS.co FS.gen rfl (PySem.W.codeRec_of KX hcd) (hbd _ _ _ _ ?_);refine wpAny_newFunctionEnv_cells FS.kind hkind fun env he' s1 ic=>?_;subst he';refine ⟨lim.keeps ic.toInCall.keep,codeAny_func ?_⟩;obtain ⟨⟨fl,h1⟩,ep,fin⟩:=he ws h _ e;obtain ⟨κ1,R1,F1,back⟩:=lD (A:=A) FS md hz (len _ _ _ e) fo R r ic;refine wpAny_mono (tM (cQ t.deep) (gK (x:=x) T B hr hq) _ R1 F1 ep) (fun fl2 s2 ⟨κ2,M2,o2,l2,R2,fw⟩=>?_) fun _ _ z=>z.elim;have R3:Mem S κ M2 h1 s2:=R2.less (back κ2 o2);rcases hnb ws h _ _ e ep with ⟨δ,hp⟩ | ⟨w',hp⟩
 ·cases hp;cases fl2 with
  | next=>exact ⟨.none,rfl,fin R l2 R3 (.inl ⟨δ,rfl,rfl⟩)⟩
  | _=>exact fw.elim
 ·cases hp;cases fl2 with
  | ret u=>exact ⟨u,rfl,fin R l2 R3 (.inr ⟨w',rfl,fw⟩)⟩
  | _=>exact fw.elim
def xO {d:Nat} {ps:List Str} {m:XFW} (hm:∀ ws h,m ws h=none):FnS S d f fd ps m:=⟨fun ws h r e=>(by rw [hm] at e;cases e),fun _ _ _ _ _ _ _ e=>(by rw [hm] at e;cases e)⟩
def aJ7 (hq:∀ q',t.qn x=some q'->q++".<locals>."=q'.1/\∃ c0,fd.code=.ref c0/\TbS S c0 q'.2) (T:TopOk t S) (F:Fun S.K n q st f fd) (B:TabOk S k fn ob):FnS S (k+1) f fd (parsOf st) (iT t fn ob x st):=by
 by_cases hb:fnB st=true
 ·have op:∀ {ws h r},iT t fn ob x st ws h=some r->ws.length=(parsOf st).length/\∃ p,xSs (evs t.deep) (t.sta fn ob x st) (aX st) (dI (bY st) ws) h=some p/\fR p=some r:=fun {ws h r} e=>by
   unfold iT at e;obtain ⟨hc,e⟩:=aF e;obtain ⟨p,e1,e2⟩:=bind_some e;exact ⟨hc.2,p,e1,e2⟩
  refine aJ6 (x:=x) hq T F B hb (fun ws h r e=>(op e).1) (fun ws h r e=>?_) fun ws h r p e e1=>?_
  ·obtain ⟨_,⟨fl,h1⟩,e1,e2⟩:=op e;refine ⟨_,e1,fun {κ M M2 s s' u} R0 l R hr=>?_⟩;rcases hr with ⟨δ,hp,rfl⟩ | ⟨w,hp,r⟩
   ·cases hp;cases e2;exact (R.pn.go l)
   ·cases hp;cases e2;exact ⟨M2,l,R,r⟩
  ·obtain ⟨_,p',e1',e2⟩:=op e;rw [e1] at e1';cases e1';obtain ⟨fl,h1⟩:=p;cases fl with
   | nx δ=>exact .inl ⟨δ,rfl⟩
   | rt w=>exact .inr ⟨w,rfl⟩
   | _=>cases e2
 ·exact xO fun ws h=>by unfold iT;rw [if_neg fun z=>hb z.1]
def bA5 (hq:∀ q',t.qn x=some q'->q++".<locals>."=q'.1/\∃ c0,fd.code=.ref c0/\TbS S c0 q'.2) (T:TopOk t S) (F:Fun S.K n q st f fd) (B:TabOk S k fn ob):FnS S (k+1) f fd (parsOf st) (toW (lX t fn ob x st)):=by
 by_cases hb:fnB st=true
 ·have op:∀ {ws h r},toW (lX t fn ob x st) ws h=some r->ws.length=(parsOf st).length/\∃ p z,xSs (evs t.deep) (t.sta fn ob x st) (aX st) (dI (bY st) ws) h=some p/\aR h p=some (z,r.2)/\r.1=.d z:=fun {ws h r} e=>by
   obtain ⟨⟨z,h2⟩,e0,e⟩:=bind_some e;cases e;unfold lX at e0;obtain ⟨hc,e0⟩:=aF e0;obtain ⟨p,e1,e2⟩:=bind_some e0;exact ⟨hc.2,p,z,e1,e2,rfl⟩
  refine aJ6 (x:=x) hq T F B hb (fun ws h r e=>(op e).1) (fun ws h r e=>?_) fun ws h r p e e1=>?_
  ·obtain ⟨_,p,z,e1,e2,ez⟩:=op e;refine ⟨_,e1,fun {κ M M2 s s' u} R0 l R hr=>?_⟩;rw [ez];exact aU2 R0 l R e2 hr
  ·obtain ⟨_,p',z,e1',e2,_⟩:=op e;rw [e1] at e1';cases e1';unfold aR at e2
   classical
   obtain ⟨_,e2⟩:=aF e2;obtain ⟨fl,h1⟩:=p;cases fl with
   | nx δ=>exact .inl ⟨δ,rfl⟩
   | rt w=>exact .inr ⟨w,rfl⟩
   | _=>cases e2
 ·exact xO fun ws h=>by unfold toW lX;rw [if_neg fun z=>hb z.1];rfl
abbrev xP (t:Top) (S:Sx) (d:Nat):Prop:=TabOk S d (fnT t fun y=>aE t d y) (obT t (fun y=>callW t d y) (fun y=>callI t d y) fun y=>callM t d y)
def tT (T:TopOk t S):xP t S 0:=by
 refine ⟨fun x m e=>?_,fun x m e=>?_,fun x C m e=>?_,fun x C m e=>?_,T.fo⟩
 ·obtain ⟨s,hs,rfl⟩:=map_some e;exact .inl fun _ _=>rfl
 ·dsimp only at e;split at e
  ·obtain ⟨s,hs,rfl⟩:=map_some e;exact .inl fun _ _=>rfl
  ·cases e
 ·obtain ⟨p,hs,e2⟩:=map_some e;cases e2;exact .inl fun _ _=>rfl
 ·obtain ⟨p,hs,e2⟩:=map_some e;cases e2;exact .inl fun _ _=>rfl
def tU (T:TopOk t S) {d:Nat} (B:xP t S d) (hI:∀ x C s,t.ini x=some (C,s)->(∀ ws h,callI t (d+1) x ws h=none)\/∃ k f fd ps,k+1<=d+1/\Mk S.K C f/\FnS S k f fd ps (callI t (d+1) x)/\S.mg x=some (.ref C)/\eG S.K fd ps):xP t S (d+1):=by
 refine ⟨fun x m e=>?_,fun x m e=>?_,fun x C m e=>?_,fun x C m e=>?_,T.fo⟩
 ·obtain ⟨s,hs,rfl⟩:=map_some e;obtain ⟨f,fd,F,hm,hb⟩:=T.defs x s hs;have e:aE t (d+1) x=lX t (fnT t fun y=>aE t d y) (obT t (fun y=>callW t d y) (fun y=>callI t d y) fun y=>callM t d y) x s:=by
   rw [aE,hs]
  dsimp only;rw [e];exact .inr ⟨f,fd,parsOf s,hm,F.kp,hb,bA5 (fun q' e=>(T.qn x q' e).2.2 _ _ _ F hm) T F B⟩
 ·dsimp only at e;split at e
  ·obtain ⟨s,hs,rfl⟩:=map_some e;obtain ⟨f,fd,F,hm,hb⟩:=T.defs x s hs;have e:callW t (d+1) x=iT t (fnT t fun y=>aE t d y) (obT t (fun y=>callW t d y) (fun y=>callI t d y) fun y=>callM t d y) x s:=by
    rw [callW,hs]
   try dsimp only
   rw [e];exact .inr ⟨f,fd,parsOf s,hm,F.kp,hb,aJ7 (fun q' e=>(T.qn x q' e).2.2 _ _ _ F hm) T F B⟩
  ·cases e
 ·obtain ⟨⟨C',s⟩,hs,e2⟩:=map_some e;cases e2;exact hI x _ s hs
 ·obtain ⟨⟨C',s⟩,hs,e2⟩:=map_some e;cases e2;obtain ⟨hc,n,q,f,fd,F,hM,hb⟩:=T.mt x _ s hs;have e:callM t (d+1) x=iT t (fnT t fun y=>aE t d y) (obT t (fun y=>callW t d y) (fun y=>callI t d y) fun y=>callM t d y) x s:=by
   rw [callM,hs]
  dsimp only;rw [e];exact .inr ⟨hc,f,fd,parsOf s,hM,aJ7 (fun q' e=>by rw [(T.qn x q' e).1] at hs;cases hs) T F B,hb⟩
theorem gL (T:TopOk t S):∀ d,xP t S d
 | 0=>tT T
 | 1=>tU T (tT T) fun x C s _=>.inl fun _ _=>rfl
 | d+2=>tU T (gL T (d+1)) fun x C s hs=>by
  obtain ⟨n,q,f,fd,F,hM,hm,hb⟩:=T.ini x C s hs;have e:callI t (d+2) x=iT t (fnT t fun y=>aE t d y) (obT t (fun y=>callW t d y) (fun y=>callI t d y) fun y=>callM t d y) x s:=by
   rw [callI,hs]
  refine .inr ⟨d+1,f,fd,parsOf s,Nat.le_refl _,hM,?_,hm,hb⟩;show FnS S (d+1) f fd (parsOf s) (callI t (d+2) x);rw [e];exact aJ7 (fun q' e=>by rw [(T.qn x q' e).2.1] at hs;cases hs) T F (gL T d)
end
end DL

namespace Att
open PySem PySem.W PySem.Calls PyProof.Rows

def mO {P:Params} {h:Heap}:∀ (ns:List Int) (vs:List Value),WellAll P h vs (ns.map WData.int)->IntsAre vs ns:=by
 intro ns;induction ns with
 | nil =>
  intro vs w;rw [List.map_nil] at w;cases w;exact .nil
 | cons n ns ih =>
  intro vs w;rw [List.map_cons] at w;cases w with
  | cons a b =>
   cases a;exact .cons _ _ (ih _ b)

def aA4 {l:OpenLaw} {n:Nat} (hn:l.most=some n) {P:Params} {h:Heap} {args:List WData} {vals:List Value}
  (hpre:l.row.toRowW.claim.pre args=true) (hwl:WellAll P h vals args) :
  ∃ a vs ns,vals=[Value.ref a]/\args=[WData.list (ns.map WData.int)]/\h.get? a=some { cls:=.type "list",data:=.seq vs.toArray }/\IntsAre vs ns/\ns.length<=n:=by
 have hsh:WShape.hasAll [] args [.list .int]=true:=(pre_splitW hpre).1;have hc:l.pre.holds [] { args:=args }=true:=(pre_splitW hpre).2;obtain ⟨d,r,rfl,h1,h2⟩:=hasAllW_cons hsh;obtain rfl:=hasAllW_nil h2;obtain ⟨xs,rfl,h3⟩:=hasW_list h1;obtain ⟨ns,rfl⟩:=items_int h3;have hlen:ns.length<=n:=by
  unfold OpenLaw.pre at hc;have h4:(WTm.not (.lt (.lit (.int (n:Int))) (.len (.arg 0)))).holds [] { args:=[.list (ns.map .int)] }=true:=by
   have h4:=(holds_andW hc).1;rw [hn] at h4;exact h4
  have h5:=condW_of h4 (w_not (w_lt w_lit (w_len_list (w_arg rfl))));rw [List.length_map] at h5;refine Nat.le_of_not_lt fun q=>?_;have q':(n:Int) < ((ns.length:Nat):Int):=by omega
  first
   | (rw [decide_eq_true q'] at h5;exact absurd h5 (by decide))
   | (simp at h5;omega)
 cases hwl with
 | cons w1 w2 =>
  cases w2;cases w1 with
  | list ho hall=>exact ⟨_,_,ns,rfl,rfl,ho,mO ns _ hall,hlen⟩

def aA5 (l:OpenLaw) (args:List WData):l.row.toRowW.claim.post args (.bool true) args=true :=
 postW_of (r:=l.row.toRowW) (X:=(true==true))
  (show WShape.has [] (.bool true) .bool=true by first | rfl | decide | simp [WShape.has,WShape.arms,WShape.armsAll])
  (show (WTm.eq .res (.lit (.bool true))).value [] { args:=args,res:=some (.bool true),after:=args }=some (.bool (true==true)) from w_eq_bool (w_res rfl) w_lit) rfl

def attach_call {l:OpenLaw} {n:Nat} {q:Program} {loose:List Str} {XP:(Str->Option Value)->Heap->Prop} {YP:World->Heap->Prop} {d:DefRec}
  (hn:l.most=some n) (hdf:d.params.defaults=[])
  (call:∀ (w:World) (s₀ s₁:Shared) (mg mb:Str->Option Value) (fa:Addr) (o:Obj) (pm cd doc:Value) (a:Addr) (vs:List Value) (ns:List Int),
   Ground q loose [] XP w s₀ mg mb s₁.heap->YP w s₁.heap ->
   s₁.heap.get? fa=some o->o.data=.func (docDef d.name d.params d.body d.scope pm cd doc)->s₁.heap.CodeRec cd d.name->mg d.name=some (.ref fa) ->
   s₁.heap.get? a=some { cls:=.type "list",data:=.seq vs.toArray }->IntsAre vs ns->ns.length<=n->s₁.gens=#[] ->
   codeAny (model l.prog w) callerA (.call (.ref fa) ⟨[.ref a],[]⟩) (fun r s'=>r=.ok (.ret (.bool true))/\OldK s₁.heap s'.heap/\s'.os=s₁.os/\AllBare s'.gens) s₁) :
  WalkO q loose XP YP l.row.toRowW d [] (fun f vs=>PySem.call f vs):=by
 intro w s₀ s₁ mg mb G Y fa o pm cd doc dV kV ho hd hcd hD hmg hg args vals as hpre hlay hrd hwl hlo;obtain rfl:dV=.none:=Dflts.none hD hdf;obtain rfl:kV=.none:=Dflts.noKw hD;obtain ⟨a,vs,ns,rfl,rfl,hobj,hints,hlen⟩:=aA4 hn hpre hwl;refine enter_call (codeAny_mono (call w s₀ s₁ mg mb fa o pm cd doc a vs ns G Y ho (fd_plain hd) hcd hmg hobj hints hlen hg) fun r s' hq=>?_);obtain ⟨rfl,h2,h3,h4⟩:=hq;exact ⟨.inl ⟨.bool true,.bool true,[],rfl,fun _=>rfl,.bool true,aA5 l _,fun _=>⟨List.Pairwise.nil,fun _ hm=>(nomatch hm)⟩⟩,h2,h3,h4⟩

end Att

namespace CI
open PySem PySem.Spec PyProof.Rows L2 DL
noncomputable def aJ8 (x:Str):Stmt->Bool
 | .FunctionDef n _ _ _ _ _ _ _ _ _=>n==x
 | _=>false
def vU (b:List Stmt) (x:Str):Option Stmt:=b.find? (aJ8 x)
noncomputable def aJ9:Nat->Expr->Option PyData
 | _,.Constant (.int i) _ _=>some (.int i)
 | _,.Constant (.str x) _ _=>some (.str x)
 | _,.Constant (.bool x) _ _=>some (.bool x)
 | _,.Constant .none _ _=>some .none
 | n+1,.Tuple es _ _=>(es.mapM (aJ9 n)).map .tuple
 | _,_=>none
def bI5 (b:List Stmt) (x:Str):Option PyData:=b.findSome? fun s=>match s with
 | .Assign [.Name y _] e _=>if y==x&&!(x==("__name__":Str)) then aJ9 4 e else none
 | _=>none
noncomputable def bI6:List (Option Expr)->List Expr->Option (List (Str×Int))
 | [],[]=>some []
 | some (.Constant (.str x) _ _)::ks,.Constant (.int i) _ _::vs=>(bI6 ks vs).map ((x,i)::·)
 | _,_=>none
noncomputable def tkS:(s:Stmt)->Option (Str×List (Option Expr)×List Expr)
 | .Assign [.Name y _] (.Dict ks vs _) _=>some (y,ks,vs)
 | _=>none
def bI7 (b:List Stmt) (x:Str):Option (Str->Option Int):=b.findSome? fun s=>(tkS s).bind fun y=>if y.1==x then (bI6 y.2.1 y.2.2).map fun t z=>t.lookup z else none
noncomputable def blAll:List Str:=["len","tuple","all","any","isinstance","int","bool","str","list","range","sorted","set","zip","enumerate","dict","max","min","sum","reversed","abs"]
def bW7 (b:List Stmt) (ac:Str->List Nat) (cv:Str->List Str) (fuel deep:Nat) (wf:Str->Bool:=fun _=>false) (ini mt:Str->Option (Addr×Stmt):=fun _=>none) (fo:Addr->Str->Bool:=fun _ _=>false) (qn:Str->Option (Str×Pos):=fun _=>none):Top:=⟨blAll,bI5 b,bI7 b,vU b,ac,cv,fuel,deep,wf,ini,mt,fo,qn⟩
def gcl (b:List Stmt):List (Str×PyData):=b.filterMap fun s=>match s with
 | .Assign [.Name y _] e _=>if !(y==("__name__":Str)) then (aJ9 4 e).map (y,·) else none
 | _=>none
def bI8 {b:List Stmt} {x:Str} {z:PyData} (h:bI5 b x=some z):(x,z)∈gcl b:=by
 obtain ⟨s,hs,e⟩:=List.exists_of_findSome?_eq_some h;refine List.mem_filterMap.mpr ⟨s,hs,?_⟩;split at e
 ·rename_i y p e0 q;split at e
  ·rename_i hc;rw [Bool.and_eq_true] at hc;have:y=x:=eq_of_beq hc.1;subst this;try simp only []
   rw [if_pos hc.2,e];rfl
  ·cases e
 ·cases e
def tkl (b:List Stmt):List (Str×List (Str×Int)):=b.filterMap fun s=>(tkS s).bind fun y=>(bI6 y.2.1 y.2.2).map (y.1,·)
def bI9 {b:List Stmt} {x:Str} {f:Str->Option Int} (h:bI7 b x=some f):∃ t,(x,t)∈tkl b/\f=fun z=>t.lookup z:=by
 obtain ⟨s,hs,e⟩:=List.exists_of_findSome?_eq_some h;obtain ⟨y,ey,e1⟩:=Option.bind_eq_some_iff.mp e;obtain ⟨hc,e2⟩:=aF e1;have:y.1=x:=eq_of_beq hc;subst this;obtain ⟨t,et,rfl⟩:=Option.map_eq_some_iff.mp e2;refine ⟨t,List.mem_filterMap.mpr ⟨_,hs,?_⟩,rfl⟩;rw [ey,Option.bind_some,et];rfl
noncomputable def dfl (b:List Stmt):List (Str×Stmt):=b.filterMap fun s=>match s with
 | .FunctionDef n _ _ _ _ _ _ _ _ _=>some (n,s)
 | _=>none
def bJ0 {b:List Stmt} {x:Str} {s:Stmt} (h:vU b x=some s):(x,s)∈dfl b:=by
 have h1:=List.find?_some h;have h2:=List.mem_of_find?_eq_some h;refine List.mem_filterMap.mpr ⟨s,h2,?_⟩;unfold aJ8 at h1;split at h1
 ·simp only [eq_of_beq h1]
 ·cases h1
def tV {x k:Str} {hh:Int} {t:Tok} {v:Value} {es:List DictEntry}:findBy Value.isStrOf (⟨hh,.str k t,v⟩::es).toArray x=if k=x then some v else findBy Value.isStrOf es.toArray x:=by
 unfold findBy;simp only [List.find?_toArray,List.find?_cons,Value.isStrOf]
 by_cases e:k=x
 ·simp [e]
 ·have:(k==x)=false:=beq_eq_false_iff_ne.mpr e;simp [e,this]
section
variable {K:PySem.W.Frag} {S:Sx}
def vV {x qual:Str} {st:Stmt} {f:Addr} {oc:Value} {od an:Option Addr} {osl:Array (Option Value)} {kV doc pm cdv ct:Value} (l:K.lookup f=some ⟨oc,od,.func (PySem.W.fnOf x qual (cP st) (aX st) (defScope st) .none kV doc pm an cdv ct),osl⟩)
  (c:PySem.W.codeIn K cdv qual=true) (k:PySem.W.keepIn K (.ref f)=true):Fun K x qual st f (PySem.W.fnOf x qual (cP st) (aX st) (defScope st) .none kV doc pm an cdv ct):=⟨⟨oc,od,kV,doc,pm,an,cdv,ct,osl,rfl,l,c⟩,k⟩
abbrev BA (n q:Str) (s:Stmt) (us:List Value):Prop:=∀ (kV doc pm:Value) (an:Option Addr) (cdv ct:Value),bindArgs (PySem.W.fnOf n q (cP s) (aX s) (defScope s) .none kV doc pm an cdv ct) ⟨us,[]⟩=pure ((parsOf s).zip us)
def _root_.DL.Fun.binds {x q:Str} {st:Stmt} {f:Addr} {fd:FuncData} (F:Fun K x q st f fd) (h:∀ us:List Value,us.length=(parsOf st).length->BA x q st us):eG K fd (parsOf st):=by
 obtain ⟨oc,od,kV,doc,pm,an,cdv,ct,osl,rfl,lk,hcd⟩:=F.ex;exact fun s us _ hl=>.of_eq (h us hl kV doc pm an cdv ct)
def FI (K:PySem.W.Frag) (n:Str) (s:Stmt):Prop:=∃ (f:Addr) (od an:Option Addr) (sl:Array (Option Value)) (oc kV dc pm cd ct:Value),PySem.W.nsIn K mainGlobals n=some (some (.ref f))/\K.lookup f=some ⟨oc,od,.func (PySem.W.fnOf n n (cP s) (aX s) (defScope s) .none kV dc pm an cd ct),sl⟩/\PySem.W.codeIn K cd n=true/\PySem.W.keepIn K (.ref f)=true
def fi_mk {n:Str} {s:Stmt} {f:Addr} {od an:Option Addr} {sl:Array (Option Value)} {oc kV dc pm cd ct:Value} (a:PySem.W.nsIn K mainGlobals n=some (some (.ref f))) (l:K.lookup f=some ⟨oc,od,.func (PySem.W.fnOf n n (cP s) (aX s) (defScope s) .none kV dc pm an cd ct),sl⟩) (c:PySem.W.codeIn K cd n=true) (k:PySem.W.keepIn K (.ref f)=true):FI K n s:=⟨_,_,_,_,_,_,_,_,_,_,a,l,c,k⟩
abbrev FR (K:PySem.W.Frag) (mg:Str->Option Value) (n:Str) (s:Stmt):Prop:=∃ f fd,Fun K n n s f fd/\mg n=some (.ref f)/\eG K fd (parsOf s)
variable {n q:Str} {s:Stmt} {h:Heap} {mg:Str->Option Value}
def FI.ok (a:FI K n s) (X:K.In h) (G:h.Ns mainGlobals mg) (hb:∀ us:List Value,us.length=(parsOf s).length->BA n n s us):FR K mg n s:=by
 obtain ⟨f,od,an,sl,oc,kV,dc,pm,cd,ct,a,l,c,k⟩:=a;have F:=vV (st:=s) l c k;exact ⟨f,_,F,PySem.W.mg_of X G a,F.binds hb⟩
def cL2 {P:Str->Stmt->Prop}:∀ p∈([]:List (Str×Stmt)),P p.1 p.2:=fun _ z=>nomatch z
def cL3 {P:Str->Stmt->Prop} {x:Str} {s:Stmt} {l:List (Str×Stmt)} (a:P x s) (b:∀ p∈l,P p.1 p.2):∀ p∈(x,s)::l,P p.1 p.2:=List.forall_mem_cons.mpr ⟨a,b⟩
def FI.ok1 (a:FI K n s) (X:K.In h) (G:h.Ns mainGlobals mg) (hn:(parsOf s).length=1) (hb:∀ u,BA n n s [u]):FR K mg n s:=a.ok X G fun us hl=>by
 rw [hn] at hl
 match us,hl with
 | [u],_=>exact hb u
def FI.ok2 (a:FI K n s) (X:K.In h) (G:h.Ns mainGlobals mg) (hn:(parsOf s).length=2) (hb:∀ u v,BA n n s [u,v]):FR K mg n s:=a.ok X G fun us hl=>by
 rw [hn] at hl
 match us,hl with
 | [u,v],_=>exact hb u v
def FI.ok3 (a:FI K n s) (X:K.In h) (G:h.Ns mainGlobals mg) (hn:(parsOf s).length=3) (hb:∀ u v x,BA n n s [u,v,x]):FR K mg n s:=a.ok X G fun us hl=>by
 rw [hn] at hl
 match us,hl with
 | [u,v,x],_=>exact hb u v x
def FM (K:PySem.W.Frag) (C:Addr) (n q:Str) (s:Stmt):Prop:=∃ (f:Addr) (od an:Option Addr) (sl:Array (Option Value)) (oc kV dc pm cd ct:Value),PySem.W.findIn K (.ref C) n=some (some (.ref f))/\PySem.W.isFn K (.ref f)=true/\K.lookup f=some ⟨oc,od,.func (PySem.W.fnOf n q (cP s) (aX s) (defScope s) .none kV dc pm an cd ct),sl⟩/\PySem.W.codeIn K cd q=true/\PySem.W.keepIn K (.ref f)=true
def fm_mk {C:Addr} {f:Addr} {od an:Option Addr} {sl:Array (Option Value)} {oc kV dc pm cd ct:Value} (a:PySem.W.findIn K (.ref C) n=some (some (.ref f))) (i:PySem.W.isFn K (.ref f)=true) (l:K.lookup f=some ⟨oc,od,.func (PySem.W.fnOf n q (cP s) (aX s) (defScope s) .none kV dc pm an cd ct),sl⟩) (c:PySem.W.codeIn K cd q=true) (k:PySem.W.keepIn K (.ref f)=true):FM K C n q s:=⟨_,_,_,_,_,_,_,_,_,_,a,i,l,c,k⟩
def FM.ok {C:Addr} {ps:List Str} (a:FM K C n q s) (hp:parsOf s=ps)
  (hb:∀ (kV doc pm:Value) (an:Option Addr) (cdv ct:Value) (us:List Value),us.length=ps.length->bindArgs (PySem.W.fnOf n q (cP s) (aX s) (defScope s) .none kV doc pm an cdv ct) ⟨us,[]⟩=pure (ps.zip us)):∃ f fd,Fun K n q s f fd/\Meth K C n f/\eG K fd (parsOf s):=by
 obtain ⟨f,od,an,sl,oc,kV,dc,pm,cd,ct,a,i,l,c,k⟩:=a;have F:=vV (st:=s) l c k;exact ⟨f,_,F,⟨a,i,k⟩,F.binds fun us hl kV doc pm an cdv ct=>by rw [hp] at hl ⊢;exact hb kV doc pm an cdv ct us hl⟩
def FM.ok2 {C:Addr} {x y:Str} (a:FM K C n q s) (hp:parsOf s=[x,y]) (hb:∀ (kV doc pm:Value) (an:Option Addr) (cdv ct u v:Value),bindArgs (PySem.W.fnOf n q (cP s) (aX s) (defScope s) .none kV doc pm an cdv ct) ⟨[u,v],[]⟩=pure [(x,u),(y,v)]):∃ f fd,Fun K n q s f fd/\Meth K C n f/\eG K fd (parsOf s):=a.ok hp fun kV doc pm an cdv ct us hl=>by
 match us,hl with
 | [u,v],_=>exact hb kV doc pm an cdv ct u v
def FM.ok3 {C:Addr} {x y z:Str} (a:FM K C n q s) (hp:parsOf s=[x,y,z]) (hb:∀ (kV doc pm:Value) (an:Option Addr) (cdv ct u v t:Value),bindArgs (PySem.W.fnOf n q (cP s) (aX s) (defScope s) .none kV doc pm an cdv ct) ⟨[u,v,t],[]⟩=pure [(x,u),(y,v),(z,t)]):∃ f fd,Fun K n q s f fd/\Meth K C n f/\eG K fd (parsOf s):=a.ok hp fun kV doc pm an cdv ct us hl=>by
 match us,hl with
 | [u,v,t],_=>exact hb kV doc pm an cdv ct u v t
def bJ1 {a:Addr} {n:Nat} {ws:List Int} {its:Array Value} (X:K.In h) (l:K.lookup a=some ⟨.type "tuple",none,.seq its n,#[]⟩) (hv:Paired (fun (i:Int) v=>∃ t,v=.int i t) ws its.toList) (hs:its.size<=sizeLine):Rep S h.get? (.tuple (ws.map .int)) (.ref a) :=
 rep_t.mpr ⟨a,_,its.toList,rfl,X a _ l,⟨⟨n,by rw [Array.toArray_toList]⟩,by rw [Array.length_toList];exact hs⟩,aD6 (tB (fun _ _ x=>rep_i.mpr x) hv)⟩
def bJ2 {a:Addr} {n:Nat} {ws:List Str} {its:Array Value} (X:K.In h) (l:K.lookup a=some ⟨.type "tuple",none,.seq its n,#[]⟩) (hv:Paired (fun (i:Str) v=>(∃ t,v=.str i t)/\PyData.strOk i=true) ws its.toList) (hs:its.size<=sizeLine):Rep S h.get? (.tuple (ws.map .str)) (.ref a) :=
 rep_t.mpr ⟨a,_,its.toList,rfl,X a _ l,⟨⟨n,by rw [Array.toArray_toList]⟩,by rw [Array.length_toList];exact hs⟩,aD6 (tB (fun _ _ x=>rep_s.mpr x) hv)⟩
theorem tW {Z:Zm}:∀ {ns:List Int} {vs:List Value},IntsAre vs ns->Paired (Rep S Z) (ns.map .int) vs
 | _,_,.nil=>.nil
 | _,_,.cons n t h=>.cons (rep_i.mpr ⟨t,rfl⟩) (tW h)
def aK0 {P:Program} {w:World} {mb:Str->Option Value} {k:Nat} {fa a:Addr} {fd:FuncData} {x:Str} {m:XF} {s₁:Shared} {vs:List Value} {ns:List Int} {h':aA}
  (KX:K.In s₁.heap) (hns:s₁.heap.Ns mainGlobals mg) (hb:s₁.heap.Ns builtinsNs mb) (hbb:∀ x:Str,x≠"__name__"->mb x=bootBuiltins x) (hlim:s₁.heap.NoLimit) (hg:s₁.gens=#[])
  (ha:s₁.heap.get? a=some { cls:=.type "list",data:=.seq vs.toArray }) (hi:IntsAre vs ns) (hl:ns.length<=sizeLine) (hr:Room k callerA)
  (F:FnS ⟨P,w,K,mg,s₁.heap,s₁.os,#[],0⟩ k fa fd [x] (toW m)) (hbind:BindsTo s₁ fd ⟨[.ref a],[]⟩ [(x,.ref a)]) (e:m [.d (.list (ns.map .int))] []=some (.bool true,h')) :
  codeAny (model P w) callerA (.call (.ref fa) ⟨[.ref a],[]⟩) (fun r s'=>r=.ok (.ret (.bool true))/\OldK s₁.heap s'.heap/\s'.os=s₁.os/\AllBare s'.gens) s₁:=by
 have R:Mem ⟨P,w,K,mg,s₁.heap,s₁.os,#[],0⟩ (fun _=>none) ⟨s₁.heap.get?,[]⟩ [] s₁:=⟨fun _ _ e=>e,fun _ _ _ e=>(by cases e),rfl,fun i j p q e=>(by simp at e),fun p hp=>absurd hp (by simp),fun i p c e=>(by simp at e),fun _ _ e=>e,.of_eq hg,rfl⟩;have md:Mod ⟨P,w,K,mg,s₁.heap,s₁.os,#[],0⟩:=⟨KX,hns,⟨mb,hb,hbb⟩,hlim⟩;have e':toW m [.d (.list (ns.map .int))] []=some (.d (.bool true),h'):=by unfold toW;rw [e];rfl
 have hv:=tW (S:=⟨P,w,K,mg,s₁.heap,s₁.os,#[],0⟩) (Z:=s₁.heap.get?) hi;have hlen:=hv.length;rw [List.length_map] at hlen;refine codeAny_mono (F.run (us:=[.ref a]) hr ⟨[],rfl,fun _ z=>nomatch z⟩ md (Nat.le_refl _) R hbind (ws:=[.d (.list (ns.map .int))]) (.cons (rep_l.mpr ⟨a,_,vs,rfl,ha,⟨⟨0,rfl⟩,by omega⟩,hv⟩) .nil) e') fun r s' ⟨u,hq,M',l,R',ru⟩=>?_;subst hq;cases wb.mp ru;exact ⟨rfl,.of_keep fun b o e=>R'.bk b o e,R'.os,R'.bare⟩
def aU3 {l:PySem.W.OpenLaw} {n k:Nat} {q:Program} {loose:List Str} {XP:(Str->Option Value)->Heap->Prop} {YP:World->Heap->Prop} {d:DefRec} {K:Params->PySem.W.Frag} {m:XF} {x:Str}
  (hn:l.most=some n) (hn2:n<=sizeLine) (hdf:d.params.defaults=[]) (hr:Room k callerA) (hY:∀ (w:World) (h:Heap),YP w h->(K w.params).In h)
  (F:∀ (w:World) (mg:Str->Option Value) (fa:Addr) (h:Heap) (os:OsState),(K w.params).In h->h.Ns mainGlobals mg->mg d.name=some (.ref fa) ->
   ∃ fd:FuncData,(∀ (s:Shared) (u:Value),BindsTo s fd ⟨[u],[]⟩ [(x,u)])/\FnS ⟨l.prog,w,K w.params,mg,h,os,#[],0⟩ k fa fd [x] (toW m))
  (hm:∀ ns:List Int,ns.length<=n->∃ h',m [.d (.list (ns.map .int))] []=some (.bool true,h')) :
  PySem.W.WalkO q loose XP YP l.row.toRowW d [] (fun f vs=>PySem.call f vs):=by
 refine Att.attach_call hn hdf fun w s₀ s₁ mg mb fa o pm cd doc a vs ns G Y ho hd hcd hmg hobj hints hlen hg=>?_;have KX:=hY w _ Y;obtain ⟨fd,hb,hF⟩:=F w mg fa s₁.heap s₁.os KX G.T.g hmg;obtain ⟨h',e⟩:=hm ns hlen;exact aK0 KX G.T.g G.T.b G.T.builtins G.T.nolimit hg hobj hints (Nat.le_trans hlen hn2) hr hF (hb _ _) e
end
end CI

namespace CI
open PySem PySem.Spec PyProof.Rows L2 DL
@[simp] theorem cL4 (j:Nat) (y x:PyData) (δ:DSt) (h:aA):uV j y x δ h=match h[j]?,y with
   | some (.l xs),.int k=>(ixN xs.length k).map fun n=>(δ,h.set j (.l (xs.set n x)))
   | some (.k kvs),_=>if (cC y).isSome=true/\kvs.length < sizeLine then some (δ,h.set j (.k (mL kvs y x))) else none
   | some (.n kvs),_=>if (fY y&&hkB 4 y)=true/\kvs.length < sizeLine then some (δ,h.set j (.n (putN kvs y x))) else none
   | _,_=>none:=rfl
@[simp] theorem cP8 (j:Nat) (x:PyData) (h:aA):zG (.c j) [.d x] h=match h[j]? with
 | some (.l xs)=>if xs.length < sizeLine then some (.d .none,h.set j (.l (xs++[x]))) else none
 | _=>none:=rfl
@[simp] theorem cP9 (j k:Nat) (h:aA):zG (.c j) [.c k] h=match h[j]? with
 | some (.r is)=>if is.length < sizeLine then some (.d .none,h.set j (.r (is++[k]))) else none
 | _=>none:=rfl
def bJ3 {a b:String} (h:Str.ofString a=Str.ofString b):a=b:=by
 simp only [Str.ofString_eq_byList] at h;unfold Str.ofStringByList at h;have h1:=congrArg Str.cps h;have h2:(a.toList.map Char.toNat)=(b.toList.map Char.toNat):=by
  have:=congrArg Array.toList h1
  simpa using this
 have h3:a.toList=b.toList:=by
  refine (List.map_inj_right ?_).mp h2;intro x y e;exact Char.toNat_inj.mp e
 exact String.toList_inj.mp h3
@[simp] theorem bW8 (a b:String):(Str.ofString a=Str.ofString b)=(a=b):=propext ⟨bJ3,fun e=>by rw [e]⟩
@[simp] theorem cL5 (a b:String):(Str.ofString a==Str.ofString b)=(a==b):=by
 rw [Bool.eq_iff_iff,beq_iff_eq,beq_iff_eq,bW8]
end CI
namespace DL
open PySem PySem.Spec PyProof.Rows L2
@[simp] theorem ev_int (i j:Int):PyData.eqv (.int i) (.int j)=decide (i=j):=by rw [PyData.eqv];exact Bool.beq_eq_decide_eq i j
@[simp] theorem cL6 (i j:Str):PyData.eqv (.str i) (.str j)=(i==j):=by rw [PyData.eqv]
@[simp] theorem at0 {a:PyData} {r:List PyData}:atI (a::r) 0=some a:=by simp [atI,ixN]
@[simp] theorem at1 {a b:PyData} {r:List PyData}:atI (a::b::r) 1=some b:=by
 have:(1:Int) < (r.length:Int)+1+1:=by omega
 simp [atI,ixN,this]
@[simp] theorem at2 {a b c:PyData} {r:List PyData}:atI (a::b::c::r) 2=some c:=by
 have:(2:Int) < (r.length:Int)+1+1+1:=by omega
 simp [atI,ixN,this]
@[simp] theorem at3 {a b c d:PyData} {r:List PyData}:atI (a::b::c::d::r) 3=some d:=by
 have:(3:Int) < (r.length:Int)+1+1+1+1:=by omega
 simp [atI,ixN,this]
@[simp] theorem ix0 (n:Nat):ixN (n+1) 0=some 0:=by
 have:(0:Int) < ((n+1:Nat):Int):=by omega
 simp only [ixN,this,Int.le_refl,if_true];rfl
def ix_nat {n i:Nat} (h:i < n):ixN n (i:Int)=some i:=by
 have h1:(i:Int) < (n:Int):=by omega
 have h2:(0:Int)<=(i:Int):=by omega
 simp [ixN,h1,h2]
@[simp] theorem bW9 (h:aA) (i:Nat) (a:Cell):(h.set i a).take h.length=h.set i a:=by
 rw [List.take_of_length_le (by simp)]
@[simp] theorem cR7:ixN 3 2=some 2:=rfl
@[simp] theorem cR8:ixN 3 0=some 0:=rfl
end DL
namespace L2
def eW {α:Type} {xs:List α} {j:Nat} {v:α} (h:xs[j]?=some v):atI xs (j:Int)=some v:=by
 unfold atI;rw [DL.ix_nat (List.getElem?_eq_some_iff.mp h).1];exact h
end L2
namespace DL
open PySem
def szl:sizeLine=16777216:=rfl
end DL

namespace DL
open PySem PySem.Spec PyProof.Rows L2 CI
section
variable {S:Sx} {κ:Kp} {M:Mp} {h:aA} {s s':Shared}
def Mem.keepF {fs:List Addr} (R:Mem S κ M h s) (hf:∀ a∈fs,∃ o,κ a=some (false,o)) (k:∀ b o,s.heap.get? b=some o->b∉fs->¬ bV κ M b->s'.heap.get? b=some o) (u:∀ a∈fs,∀ o,s.heap.get? a=some o->(∃ o',κ a=some (false,o'))->∃ sl,s'.heap.get? a=some { o with slots:=sl }) (hg:AllBare s'.gens) (ho:s'.os=s.os):Mem S κ M h s' where
 z:=fun b o e=>k b o (R.z b o e) (fun m=>by obtain ⟨o',q⟩:=hf b m;rw [(R.k b _ _ q).2.2] at e;cases e) fun f=>by rw [f.1] at e;cases e
 k:=fun b t o e=>by
  have nf:¬ bV κ M b:=fun f=>by rw [f.2.1] at e;cases e
  obtain ⟨h1,⟨sl,h2⟩,h3⟩:=R.k b t o e
  by_cases m:b∈fs
  ·obtain ⟨o',q⟩:=hf b m;rw [e] at q;cases q;obtain ⟨sl2,h4⟩:=u b m _ h2 ⟨_,e⟩;exact ⟨fun z=>(by cases z),⟨sl2,h4⟩,h3⟩
  ·exact ⟨fun z=>k b o (h1 z) m nf,⟨sl,k b _ h2 m nf⟩,h3⟩
 len:=R.len
 ap:=R.ap
 off:=fun p hp a ha=>by
  obtain ⟨h1,h2,o,h3⟩:=R.off p hp a ha;refine ⟨h1,h2,o,k a o h3 (fun m=>?_) fun f=>?_⟩
  ·obtain ⟨o',q⟩:=hf a m;rw [h2] at q;cases q
  ·rcases ha with z | z
   ·exact (f.2.2 p hp).1 z.symm
   ·exact (f.2.2 p hp).2 z.symm
 cel:=fun i p c e1 e2=>(R.cel i p c e1 e2).go .refl fun b o hb q=>by
  have hp:=List.mem_of_getElem? e1;refine k b o q (fun m=>?_) fun f=>?_
  ·obtain ⟨o',z⟩:=hf b m;rw [(R.off p hp b hb).2.1] at z;cases z
  ·rcases hb with e | e;exact (f.2.2 p hp).1 e.symm;exact (f.2.2 p hp).2 e.symm
 base:=R.base
 bare:=hg
 os:=ho.trans R.os
noncomputable def frs (l:List Env):List Addr:=l.filterMap fun e=>e.frame
def FrL (κ:Kp) (l:List Env):Prop:=∀ env∈l,env.scope.kind≠.module/\∃ L o,env.frame=some L/\κ L=some (false,o)/\∀ vs,o.data≠.fields vs
def FrL.at {l:List Env} (F:FrL κ l) {a:Addr} (ha:a∈frs l):∃ o,κ a=some (false,o)/\∀ vs,o.data≠.fields vs:=by
 obtain ⟨env,he,e⟩:=List.mem_filterMap.mp ha;obtain ⟨_,L,o,h1,h2,h3⟩:=F env he;rw [h1] at e;cases e;exact ⟨o,h2,h3⟩
theorem FrL.fun (R:Mem S κ M h s) {as:List Addr}:∀ {l:List Env},FrL κ l->(∀ a∈frs l,a∈as)->s.heap.FunFrames (PySem.W.hideAll s.heap as) l
 | [],_,_=>by unfold Heap.FunFrames;trivial
 | env::l,F,ha=>by
  unfold Heap.FunFrames;obtain ⟨h1,L,o,h2,h3,h4⟩:=F env List.mem_cons_self;obtain ⟨_,⟨sl,h5⟩,_⟩:=R.k _ _ _ h3;refine ⟨h1,⟨L,_,h2,PySem.W.hideAll_none as (ha L (List.mem_filterMap.mpr ⟨env,List.mem_cons_self,h2⟩)),h5,h4⟩,FrL.fun R (fun e he=>F e (List.mem_cons_of_mem _ he)) fun a hm=>ha a ?_⟩;obtain ⟨e,he,z⟩:=List.mem_filterMap.mp hm;exact List.mem_filterMap.mpr ⟨e,List.mem_cons_of_mem _ he,z⟩
def Mem.there (R:Mem S κ M h s) {b:Addr} (n:¬ bV κ M b):∃ u,s.heap.get? b=some u:=by
 cases q:s.heap.get? b with
 | some u=>exact ⟨u,rfl⟩
 | none=>exact (n (R.new q)).elim
structure Fly (S:Sx) (κ:Kp) (M:Mp) (h:aA) (l:List Env) (C ea:Addr) (s:Shared):Prop where
 mem:Mem S κ M h s
 fl:∃ B t,Heap.FlyingW B l ea (.ref C) (.ref t) s.heap/\∀ b o,s.heap.get? b=some o->b∉frs l->¬ bV κ M b->B.get? b=some o
variable {A:Around} {env:Env} {l:List Env} {L C e:Addr} {vs:List Value} {h1:Heap} {κ0:Kp} {Ex:Value->Shared->Prop}
def jX (hf:env.frame=some L):frs (env::l)=L::frs l:=by
 unfold frs;rw [List.filterMap_cons,hf]
def aK1 (R:Mem S κ M h s) (F:FrL κ (env::l)) (hA:A.frames=some (env::l)) (hf:env.frame=some L) (lt:∀ a x,κ0 a=some x->κ a=some x) (h0:κ0 L=none) (hx:Heap.MadeExcOf s.heap h1 e (.ref C) vs) :
  wpAny (model S.P S.w) A (leaving env (.ref e)) (fun _ s'=>Fly S κ0 M h l C e s') Ex { s with heap:=h1 }:=by
 have kB:∀ a o,s.heap.get? a=some o->a∉frs (env::l)->(PySem.W.hideAll s.heap (frs (env::l))).get? a=some o:=fun a o q n=>PySem.W.hideAll_get _ q n;refine wpAny_leaves_madeW (base:=PySem.W.hideAll s.heap (frs (env::l))) (h:=s.heap) (env:=env) (outer:=l) hA hf (fun a o q=>PySem.W.of_hideAll _ q) (FrL.fun R F fun _ z=>z) hx fun h' t fl _ _ up=>?_;have R1:Mem S κ M h { s with heap:=h' }:=R.keepF (fs:=frs (env::l)) (fun a ha=>let ⟨o,h1,_⟩:=F.at ha;⟨o,h1⟩) (fun b o q n _=>fl.1 b o (kB b o q n)) (fun a ha o q _=>by
  obtain ⟨o',k1,k2⟩:=F.at ha;obtain ⟨_,⟨sl,k3⟩,_⟩:=R.k _ _ _ k1;rw [q] at k3;cases k3;exact up a _ (hx.keeps a _ q) k2) R.bare rfl
 have R2:Mem S κ0 M h { s with heap:=h' }:=R1.less lt;refine ⟨R2,_,t,fl,fun b o q nb nf=>?_⟩;have fL:bV κ0 M L:=by
  obtain ⟨o,k1,_⟩:=F.at (a:=L) (by rw [jX hf];exact List.mem_cons_self);exact ⟨(R.k _ _ _ k1).2.2,h0,R.kc k1⟩
 have nb':b∉frs (env::l):=fun m=>by
  rw [jX hf] at m;rcases List.mem_cons.mp m with z | z
  ·rw [z] at nf;exact nf fL
  ·exact nb z
 obtain ⟨u,hu⟩:=(R.less lt).there nf;have z:=fl.1 b u (kB b u hu nb');have q:h'.get? b=some o:=q;rw [q] at z;cases z;exact kB b _ hu nb'
def bJ4 (X:Fly S κ M h (env::l) C e s) (F:FrL κ (env::l)) (hA:A.frames=some (env::l)) (hf:env.frame=some L) (lt:∀ a x,κ0 a=some x->κ a=some x) (h0:κ0 L=none) :
  wpAny (model S.P S.w) A (leaving env (.ref e)) (fun _ s'=>Fly S κ0 M h l C e s') Ex s:=by
 obtain ⟨R,B,t,fl,pr⟩:=X;refine wpAny_leaves_onW (env:=env) (outer:=l) hA hf fl fun h' fl' up=>?_;have R1:Mem S κ M h { s with heap:=h' }:=R.keepF (fs:=frs (env::l)) (fun a ha=>let ⟨o,h1,_⟩:=F.at ha;⟨o,h1⟩) (fun b o q n nf=>fl'.1 b o (pr b o q n nf)) (fun a ha o q _=>by
  obtain ⟨o',k1,k2⟩:=F.at ha;obtain ⟨_,⟨sl,k3⟩,_⟩:=R.k _ _ _ k1;rw [q] at k3;cases k3;exact up a _ q k2) R.bare rfl
 have R2:Mem S κ0 M h { s with heap:=h' }:=R1.less lt;refine ⟨R2,B,t,fl',fun b o q nb nf=>?_⟩;have fL:bV κ0 M L:=by
  obtain ⟨o,k1,_⟩:=F.at (a:=L) (by rw [jX hf];exact List.mem_cons_self);exact ⟨(R.k _ _ _ k1).2.2,h0,R.kc k1⟩
 have nb':b∉frs (env::l):=fun m=>by
  rw [jX hf] at m;rcases List.mem_cons.mp m with z | z
  ·rw [z] at nf;exact nf fL
  ·exact nb z
 have nf':¬ bV κ M b:=fun f=>by
  refine nf ⟨f.1,?_,f.2.2⟩;cases q:κ0 b with
  | none=>rfl
  | some x =>
   have z:=f.2.1;rw [lt b x q] at z;cases z
 obtain ⟨u,hu⟩:=R.there nf';have z:=fl'.1 b u (pr b u hu nb' nf');have q:h'.get? b=some o:=q;rw [q] at z;cases z;exact pr b _ hu nb' nf'
end
end DL

namespace DL
open PySem PySem.Spec PyProof.Rows L2 CI
structure FnR (S:Sx) (d:Nat) (f:Addr) (fd:FuncData) (ps:List Str) (C:Addr) (pre:List W->aA->Prop):Prop where
 len:∀ ws h,pre ws h->ws.length=ps.length
 run:∀ {A:Around} {κ:Kp} {M:Mp} {h:aA} {s:Shared} {args:Args} {us:List Value} {ws:List W} {l:List Env},Room d A->A.frames=some l->FrL κ l->Mod S->S.base.objs.size<=s.heap.objs.size->Mem S κ M h s->BindsTo s fd args (ps.zip us)->RepWs S M ws us->pre ws h ->
  codeAny (model S.P S.w) A (.call (.ref f) args) (fun r s'=>∃ ea M',r=.error (.ref ea)/\Le M M'/\Fly S κ M' h l C ea s') s
def Rz (X:Cx) (κ:Kp) (M:Mp) (h:aA) (C:Addr) (ex:Value) (s:Shared):Prop:=∃ κ' M' l ea,ex=.ref ea/\Own X κ κ'/\Le M M'/\X.A.frames=some (X.env::l)/\FrL κ' (X.env::l) /\
 ((∃ s0 h1 vs,Mem X.S κ' M' h s0/\Heap.MadeExcOf s0.heap h1 ea (.ref C) vs/\s={ s0 with heap:=h1 })\/Fly X.S κ' M' h (X.env::l) C ea s)
section
variable {S:Sx} {t:Top} {n q:Str} {st:Stmt} {f C:Addr} {fd:FuncData} {k:Nat} {pre:List W->aA->Prop}
def iF (F:Fun S.K n q st f fd) (hb:fnB st=true) (len:∀ ws h,pre ws h->ws.length=(parsOf st).length)
  (he:∀ {A:Around} {κ:Kp} {M:Mp} {h:aA} {s:Shared} {L:Addr} {cd:Value} {ws:List W},Room (k+1) A->pre ws h->Mem S κ M h s->Fra (cxF S st q L f cd A) κ M (dI (bY st) ws) ->
   Wp S (cxF S st q L f cd A).A (execs (aX st) (cxF S st q L f cd A).env) (fun _ _=>False) (Rz (cxF S st q L f cd A) κ M h C) s) :
  FnR S (k+1) f fd (parsOf st) C pre:=by
 refine ⟨len,fun {A κ M h s args us ws l} hr hA FL md hz R hbd r e=>?_⟩;obtain ⟨oc,od,kV,doc,pm,an,cdv,ct,osl,rfl,lk,hcd⟩:=F.ex;have FS:=aJ3 hb;have KX:S.K.In s.heap:=md.kin.keeps R.bk;have lim:s.heap.NoLimit:=md.nolimit.keeps R.bk;have hkind:∀ y∈(parsOf st).zip us,(defScope st).names.lookup y.1=some .local\/((defScope st).names.lookup y.1=some .cell/\((cellsFrom (s.heap.objs.size+1) (defScope st).names []).lookup y.1).isSome=true):=fun ⟨n,v⟩ hy=>by
  rcases FS.par n (zip_fst hy) with q | q
  ·exact .inl q
  ·exact .inr ⟨q,PySem.W.cellsFrom_some _ _ _ (.inl q)⟩
 have hdep:A.depth < recursionLimit:=by have:=hr.dp;omega
 refine codeAny_call_function hdep (KX _ _ lk) rfl FS.co FS.gen rfl (PySem.W.codeRec_of KX hcd) (hbd _ _ _ _ ?_);refine wpAny_newFunctionEnv_cells FS.kind hkind fun env he' s1 ic=>?_;subst he';refine ⟨lim.keeps ic.toInCall.keep,codeAny_func ?_⟩;obtain ⟨κ1,R1,F1,back⟩:=lD (A:=A) FS md hz (len _ _ e) ⟨l,hA,FL⟩ R r ic;refine wpAny_mono (he hr e R1 F1) (fun _ _ z=>z.elim) fun ex s2 ⟨κ',M',l',ea,hex,own,l2,hA',FL',h2⟩=>?_;subst hex;have hl:l'=l:=by
  have z:(A.deeper (envOfC q (defScope st) s.heap.objs.size f cdv)).frames=some (envOfC q (defScope st) s.heap.objs.size f cdv::l):=by simp [Around.deeper,hA]
  have z':(A.deeper (envOfC q (defScope st) s.heap.objs.size f cdv)).frames=some (envOfC q (defScope st) s.heap.objs.size f cdv::l'):=hA';rw [z] at z';cases z';rfl
 subst hl;rcases h2 with ⟨s0,h1,vs,R0,hm,rfl⟩ | X
 ·exact wpAny_mono (aK1 (Ex:=NE) (L:=s.heap.objs.size) R0 FL' hA' rfl (back κ' own) R.size.2.1 hm) (fun _ s3 z=>⟨ea,M',rfl,l2,z⟩) fun _ _ z=>z.elim
 ·exact wpAny_mono (bJ4 (Ex:=NE) (L:=s.heap.objs.size) X FL' hA' rfl (back κ' own) R.size.2.1) (fun _ s3 z=>⟨ea,M',rfl,l2,z⟩) fun _ _ z=>z.elim
end
end DL

namespace DL
open PySem PySem.Spec PyProof.Rows L2 CI
section
variable {X:Cx} {κ:Kp} {M:Mp} {h h':aA} {s:Shared} {δ:DSt} {x:Str} {np pos epos:Pos} {e:Expr} {es:List Expr} {fa:XR (List W)} {ws:List W} {C:Addr} {B newId initId:String} {bmB:List Value} {Q:Flow->Shared->Prop}
def aK2 {l:List Env} (O:OwnCls x C bmB newId X.S.mg X.S.base) (FB:ExcBaseFacts B newId initId bmB) (ha:SA X (e::es) fa) (hd:X.A.handled=none) (hn:cG x=true) (hg:Gl X x) (hA:X.A.frames=some (X.env::l)) (hst:(e::es).all aH=true)
  (R:Mem X.S κ M h s) (F:Fra X κ M δ) (e1:fa δ h=some (ws,h')) (hz:ws.length<=sizeLine):Wp X.S X.A (exec (.Raise (some (.Call (.Name x np) (e::es) [] pos)) none epos) X.env) Q (Rz X κ M h' C) s:=by
 obtain ⟨tl,N,nm,qn,bs,hdct,sn,sub,ab,col,dd,k0,k1,k2,k3,k5,mN,hC,hN,hni,T⟩:=O.obj;rw [List.all_cons,Bool.and_eq_true] at hst;have he:=bZ (X:=X) e hst.1 (es:=es);have hpl:=cA (X:=X) pos es hst.2;have hall:(backTo pos (starEach (e::es) X.env)).any (·.1)=false:=by
  rw [he];show (false||(backTo pos (starEach es X.env)).any (·.1))=false;rw [hpl];rfl
 have FL:FrL κ (X.env::l):=by
  obtain ⟨l',z1,z2⟩:=F.frs;rw [hA] at z1;cases z1;exact z2
 refine wpAny_Raise_call_subT (C:=C) (N:=N) (nm:=nm) (q:=qn) (bs:=bs) (bm:=tl) (hdct:=hdct) (sn:=sn) (sub:=sub) (ab:=ab) (col:=col) (dd:=dd) (k0:=k0) (k1:=k1) (k2:=k2) (k3:=k3) (k5:=k5) (mN:=mN) FB (T.hasType FB.hasBase) hd hall hni (fT F R hg O.bound hn ⟨rfl,?_⟩);have hq:=ha pos R F e1;rw [he] at hq ⊢;exact Calls.evalArgs_plain (wpAny_mono hq (fun us s2 ⟨M2,l2,R2,r⟩=>⟨rfl,by rw [<- r.length];exact hz,R2.bk _ _ hC,hN.keeps R2.bk,T.keeps R2.bk,fun h1 ea hm=>⟨κ,M2,l,ea,rfl,.refl,l2,hA,FL,.inl ⟨s2,h1,us,R2,hm,rfl⟩⟩⟩) fun _ _ z=>z.elim)
def Fra.frl {l:List Env} (F:Fra X κ M δ) (hA:X.A.frames=some l):FrL κ l:=by
 obtain ⟨l',z1,z2⟩:=F.frs;rw [hA] at z1;cases z1;exact z2
def Rt (X:Cx) (κ:Kp) (M:Mp) (h:aA) (C:Addr) (ex:Value) (s:Shared):Prop:=∃ M' l ea,ex=.ref ea/\Le M M'/\X.A.frames=some (X.env::l)/\Fly X.S κ M' h (X.env::l) C ea s
def Rt.rz {ex:Value} {s':Shared} (F:Fra X κ M δ) (z:Rt X κ M h C ex s'):Rz X κ M h C ex s' :=
 let ⟨M',l,ea,h1,h2,h3,h4⟩:=z;⟨κ,M',l,ea,h1,.refl,h2,h3,F.frl h3,.inr h4⟩
def Rt.go {M1:Mp} {ex:Value} (l:Le M M1) (z:Rt X κ M1 h C ex s):Rt X κ M h C ex s :=
 let ⟨M',l',ea,h1,h2,h3⟩:=z;⟨M',l',ea,h1,l.trans h2,h3⟩
def jY {l:List Env} {d:Nat} {f:Addr} {fd:FuncData} {ps:List Str} {pre:List W->aA->Prop} {p:Pos} {Qv:Value->Shared->Prop} (FF:FnR X.S d f fd ps C pre) (rm:Room d X.A) (mg:X.S.mg x=some (.ref f)) (kp:PySem.W.keepIn X.S.K (.ref f)=true) (hb:eG X.S.K fd ps)
  (ha:SA X (e::es) fa) (hn:cG x=true) (hg:Gl X x) (hA:X.A.frames=some (X.env::l)) (hst:(e::es).all aH=true) (R:Mem X.S κ M h s) (F:Fra X κ M δ) (e1:fa δ h=some (ws,h')) (hp:pre ws h') :
  Wp X.S X.A (eval (.Call (.Name x p) (e::es) [] pos) X.env) Qv (Rt X κ M h' C) s:=by
 rw [List.all_cons,Bool.and_eq_true] at hst;refine wpAny_Call_Name_kw (fT F R hg mg hn ?_);refine PySem.W.callWith_K (h₀:=X.S.base) F.kin kp (wpAny_mono (ha pos R F e1) (fun us s1 ⟨M1,l1,R1,r1⟩=>⟨F.kin.keeps R1.bk,?_⟩) fun _ _ z=>z.elim) (bZ e hst.1) (cA pos es hst.2);have hl:us.length=ps.length:=by rw [<- r1.length];exact FF.len _ _ hp
 refine wpAny_call (codeAny_mono (FF.run (args:=⟨us,[]⟩) rm hA (F.frl hA) F.ok.mod ((F.go l1).size R1) R1 (hb s1 us (F.ok.mod.kin.keeps R1.bk) hl) r1 hp) fun r s' ⟨ea,M',hq,l2,fl⟩=>?_);subst hq;exact ⟨M',l,ea,rfl,l1.trans l2,hA,fl⟩
def Rz.go {M1:Mp} {ex:Value} (l:Le M M1) (z:Rz X κ M1 h C ex s):Rz X κ M h C ex s :=
 let ⟨κ',M',l',ea,h1,h2,h3,h4⟩:=z;⟨κ',M',l',ea,h1,h2,l.trans h3,h4⟩
variable {E:Value->Shared->Prop} {a c:Expr} {body els:List Stmt} {t:Stmt} {r:List Stmt} {v:Evs} {st:Sta} {d:Nat}
def bJ5 {f:Addr} {p:Pos} {Qv:Value->Shared->Prop} (mg:X.S.mg x=some (.ref f)) (kp:PySem.W.keepIn X.S.K (.ref f)=true) (hn:cG x=true) (hg:Gl X x) (hst:(a::es).all aH=true) (R:Mem X.S κ M h s) (F:Fra X κ M δ)
  (ra:Wp X.S X.A (eval a X.env) (fun _ _=>False) E s):Wp X.S X.A (eval (.Call (.Name x p) (a::es) [] pos) X.env) Qv E s:=by
 rw [List.all_cons,Bool.and_eq_true] at hst;refine wpAny_Call_Name_kw (fT F R hg mg hn ?_);refine PySem.W.callWith_K (h₀:=X.S.base) F.kin kp ?_ (bZ a hst.1) (cA pos es hst.2);rw [bZ a hst.1];show Wp _ _ (spliced ((false,eval a X.env)::backTo pos (starEach es X.env))) _ _ s;exact Calls.spliced_cons (wpAny_mono ra (fun _ _ z=>z.elim) fun _ _ z=>z)
def mS (F:Fra X κ M δ) (hs:swapsWith a none pos.line X.env=pure false) (ra:Wp X.S X.A (eval a X.env) (fun _ _=>False) E s):Wp X.S X.A (exec (.Expr a pos) X.env) Q E s :=
 wpAny_Expr_any (wpAny_mono ra (fun _ _ z=>z.elim) fun _ _ z=>z) (quiet F) hs
def aK3 (ra:Wp X.S X.A (eval a X.env) (fun _ _=>False) E s):Wp X.S X.A (exec (.Return (some a) pos) X.env) Q E s :=
 wpAny_Return_some (wpAny_mono ra (fun _ _ z=>z.elim) fun _ _ z=>z)
def cN (rt:Wp X.S X.A (exec t X.env) (fun _ _=>False) E s):Wp X.S X.A (execs (t::r) X.env) Q E s :=
 wpAny_execs_cons (wpAny_mono rt (fun _ _ z=>z.elim) fun _ _ z=>z)
def bX0 {h1:aA} {b:Bool} (S:Snd v) (G:Good X st d) (R:Mem X.S κ M h s) (F:Fra X κ M δ) (e1:v.T st c δ h=some (b,h1))
  (rb:∀ {M1:Mp} {s1:Shared},Mem X.S κ M1 h1 s1->Fra X κ M1 δ->Wp X.S X.A (execs (if b=true then body else els) X.env) (fun _ _=>False) (Rz X κ M1 h' C) s1):Wp X.S X.A (exec (.If c body els pos) X.env) Q (Rz X κ M h' C) s:=by
 refine wpAny_If (wpAny_mono (S.T G c R F e1) (fun t' s1 ⟨et,M1,l1,R1⟩=>?_) fun _ _ z=>z.elim);subst et;have z:=wpAny_mono (rb R1 (F.go l1)) (fun _ _ z=>z.elim) (fun _ _ z=>Rz.go l1 z) (Q':=Q);cases t' with
 | true=>exact z
 | false=>exact z
def bA6 {h1:aA} {b:Bool} (S:Snd v) (G:Good X st d) (R:Mem X.S κ M h s) (F:Fra X κ M δ) (e1:v.T st c δ h=some (b,h1))
  (rb:∀ {M1:Mp} {s1:Shared},Mem X.S κ M1 h1 s1->Fra X κ M1 δ->Wp X.S X.A (execs (if b=true then body else els) X.env) (fun _ _=>False) (Rt X κ M1 h' C) s1):Wp X.S X.A (exec (.If c body els pos) X.env) Q (Rt X κ M h' C) s:=by
 refine wpAny_If (wpAny_mono (S.T G c R F e1) (fun t' s1 ⟨et,M1,l1,R1⟩=>?_) fun _ _ z=>z.elim);subst et;have z:=wpAny_mono (rb R1 (F.go l1)) (fun _ _ z=>z.elim) (fun _ _ z=>Rt.go l1 z) (Q':=Q);cases t' with
 | true=>exact z
 | false=>exact z
def bJ6 {px:Pos} (hs:swapsWith a (some (.Name x px)) pos.line X.env=pure false) (ra:Wp X.S X.A (eval a X.env) (fun _ _=>False) E s):Wp X.S X.A (exec (.Assign [.Name x px] a pos) X.env) Q E s :=
 wpAny_Assign_Name (wpAny_mono ra (fun _ _ z=>z.elim) fun _ _ z=>z) hs
def aK4 {A:Around} {u:Value} {p:Pos} {Qv:Value->Shared->Prop} (F:Fra X κ M δ) (R:Mem X.S κ M h s) (hg:Gl X x) (hm:X.S.mg x=some u) (hn:cG x=true) (q:Qv u s):Wp X.S A (eval (.Name x p) X.env) Qv E s:=by
 unfold cG at hn;simp only [Bool.and_eq_true,Bool.not_eq_true'] at hn;exact Calls.Name_function_global F.ok.kind hg (Calls.loadGlobal_global (by rw [F.ok.glob];exact F.ok.mod.glob.keeps R.bk) hm q) hn.1
def bJ7 {J:Str} {jp hpos tpos:Pos} {CJ L:Addr} {b0:Stmt} {su:List Stmt} (F:Fra X κ M δ) (hb:Wp X.S X.A (execs body X.env) (fun _ _=>False) (Rt X κ M h' C) s) (hmJ:X.S.mg J=some (.ref CJ)) (hJ:PySem.W.exmOne X.S.K (.ref C) (.ref CJ)=some true) (hnJ:cG J=true) (hgJ:Gl X J) (hf:X.env.frame=some L)
  (hsu:∀ {M1:Mp} {s1:Shared} {ea:Addr},Le M M1->Mem X.S κ M1 h' s1->Fra X κ M1 δ->Wp X.S (X.A.mark (some (.ref ea))) (execs (b0::su) X.env) Q NE s1) :
  Wp X.S X.A (exec (.Try body [.ExceptHandler (some (.Name J jp)) none (b0::su) hpos] [] [] tpos) X.env) Q NE s:=by
 refine wpAny_Try_except (wpAny_mono hb (fun _ _ z=>z.elim) fun ex s' ⟨M',l,ea,hex,l1,hA,R,B,t,fl,pr⟩=>?_);subst hex;have FL:=F.frl hA;have F1:=F.go l1;have inv:∀ h2,B.StaysIn h2->s'.heap.UpToSlots h2->Mem X.S κ M' h' { s' with heap:=h2 }:=fun h2 hB up=>R.keepF (fs:=frs (X.env::l)) (fun a ha=>let ⟨o,h1,_⟩:=FL.at ha;⟨o,h1⟩) (fun b o q n nf=>hB b o (pr b o q n nf)) (fun a ha o q _=>by
  obtain ⟨o',k1,k2⟩:=FL.at ha;obtain ⟨_,⟨sl,k3⟩,_⟩:=R.k _ _ _ k1;rw [q] at k3;cases k3;exact up a _ q k2) R.bare rfl
 refine wpAny_looks_onW hA hf fl fun h4 held4 up4=>?_;refine wpAny_landsW held4 fun h5 fl5 up5=>?_;have R5:=inv h5 fl5.1 (up4.trans up5);obtain ⟨oe5,ws5,he5,hc5,hd5,_⟩:=fl5.first
 refine wpAny_handleBy_cons (codeAny_handlers_test (aK4 F1 R5 hgJ hmJ hnJ ?_)) (by intro q;cases q);have LT:PySem.W.Looks (model X.S.P X.S.w) h5 (typeOf (.ref ea)) (.ref C):=hc5 ▸ (PySem.W.Looks.ld he5).andThen .now;refine (PySem.W.exm_one (K:=X.S.K) (F1.kin.keeps R5.bk) LT hJ).here ?_;refine codeAny_handlers_suite ?_;refine lands_againW fl5 fun h6 fl6 up6=>?_;exact wpAny_mono (hsu l1 (inv h6 fl6.1 ((up4.trans up5).trans up6)) F1) (fun _ _ z=>z) fun _ _ z=>z.elim
end
end DL

namespace DL
open PySem PySem.Spec PyProof.Rows L2 CI
section
variable {X:Cx} {κ:Kp} {M:Mp} {h h':aA} {s:Shared} {δ:DSt} {x:Str} {C:Addr} {A:Around} {v:Evs} {st:Sta} {d:Nat}
def bJ8 {i j:Nat} {b:Bool} {px p pos:Pos} (G:Good X st d) (F:Fra X κ M δ) (R:Mem X.S κ M h s) (hi:slot st x=some i) (hl:(oS st.S x&&(st.top||dJ st.S x))=true) (hs:swapsWith (.Constant (.bool b) j p) (some (.Name x px)) pos.line X.env=pure false) :
  Wp X.S A (execs [.Assign [.Name x px] (.Constant (.bool b) j p) pos] X.env) (fun f s'=>f=.next/\∃ κ',Own X κ κ'/\Mem X.S κ' M h s'/\Fra X κ' M (δ.set i (some (.d (.bool b))))) NE s:=by
 obtain ⟨hx,hf⟩:=uY G hl;refine wpAny_execs_cons (wpAny_Assign_Name (Constant_bool ?_) hs);exact xD F R (jO G hi) hx hf (wb.mpr rfl) fun s2 κ2 o2 R2 F2 _=>wpAny_execs_nil ⟨rfl,κ2,o2,R2,F2⟩
def aK5 {t:Stmt} {r:List Stmt} {Q:Flow->Shared->Prop} {E:Value->Shared->Prop} (ht:Wp X.S X.A (exec t X.env) (fun f s'=>f=.next/\Wp X.S X.A (execs r X.env) Q E s') E s):Wp X.S X.A (execs (t::r) X.env) Q E s :=
 wpAny_execs_cons (wpAny_mono ht (fun f s' ⟨e,z⟩=>by subst e;exact z) fun _ _ z=>z)
end
section
variable {S:Sx} {n q:Str} {st:Stmt} {f:Addr} {fd:FuncData} {k:Nat} {m:XFW}
def bX1 (F:Fun S.K n q st f fd) (hb:fnB st=true) (len:∀ ws h r,m ws h=some r->ws.length=(parsOf st).length)
  (he:∀ {A:Around} {κ:Kp} {M:Mp} {h h':aA} {s:Shared} {L:Addr} {cd:Value} {ws:List W} {w:W},Room (k+1) A->m ws h=some (w,h')->Mem S κ M h s->Fra (cxF S st q L f cd A) κ M (dI (bY st) ws) ->
   Wp S (cxF S st q L f cd A).A (execs (aX st) (cxF S st q L f cd A).env) (fun fl s'=>∃ u κ' M',fl=.ret u/\Own (cxF S st q L f cd A) κ κ'/\Le M M'/\Mem S κ' M' h' s'/\RepW S M' w u) NE s) :
  FnS S (k+1) f fd (parsOf st) m:=by
 refine ⟨len,fun {A κ M h h' s args us ws w} hr fo md hz R hbd r e=>?_⟩;obtain ⟨oc,od,kV,doc,pm,an,cdv,ct,osl,rfl,lk,hcd⟩:=F.ex;have FS:=aJ3 hb;have KX:S.K.In s.heap:=md.kin.keeps R.bk;have lim:s.heap.NoLimit:=md.nolimit.keeps R.bk;have hkind:∀ y∈(parsOf st).zip us,(defScope st).names.lookup y.1=some .local\/((defScope st).names.lookup y.1=some .cell/\((cellsFrom (s.heap.objs.size+1) (defScope st).names []).lookup y.1).isSome=true):=fun ⟨n,v⟩ hy=>by
  rcases FS.par n (zip_fst hy) with q | q
  ·exact .inl q
  ·exact .inr ⟨q,PySem.W.cellsFrom_some _ _ _ (.inl q)⟩
 have hdep:A.depth < recursionLimit:=by have:=hr.dp;omega
 refine codeAny_call_function hdep (KX _ _ lk) rfl FS.co FS.gen rfl (PySem.W.codeRec_of KX hcd) (hbd _ _ _ _ ?_);refine wpAny_newFunctionEnv_cells FS.kind hkind fun env he' s1 ic=>?_;subst he';refine ⟨lim.keeps ic.toInCall.keep,codeAny_func ?_⟩;obtain ⟨κ1,R1,F1,back⟩:=lD (A:=A) FS md hz (len _ _ _ e) fo R r ic;refine wpAny_mono (he hr e R1 F1) (fun fl s2 ⟨u,κ',M',hfl,own,l2,R2,ru⟩=>?_) fun _ _ z=>z.elim;subst hfl;exact ⟨u,rfl,M',l2,R2.less (back κ' own),ru⟩
end
end DL

namespace CI
open PySem PySem.Spec PyProof.Rows L2 DL
def fnL (t:Top) (d:Nat) (y:Str) (m:XF):Str->Option XF:=fun z=>if z=y then some m else fnT t (fun y=>aE t d y) z
def mE (t:Top) (d:Nat) (y:Str) (m:XF) (x:Str):XF:=match t.defs x with
 | some s=>lX t (fnL t d y m) (obT t (fun y=>callW t d y) (fun y=>callI t d y) fun y=>callM t d y) x s
 | none=>fun _ _=>none
def aU4 {S:Sx} {t:Top} {x y:Str} {s:Stmt} {m:XF} {f:Addr} {fd:FuncData} {k:Nat} (T:TopOk t S) (hs:t.defs x=some s) (F:Fun S.K x x s f fd) (hm:FnG S k y (toW m)) (hq:autoParam (t.qn x=none) ZR):FnS S (k+1) f fd (parsOf s) (toW (mE t k y m x)):=by
 have e:mE t k y m x=lX t (fnL t k y m) (obT t (fun y=>callW t k y) (fun y=>callI t k y) fun y=>callM t k y) x s:=by
  unfold mE;rw [hs]
 rw [e];have B:TabOk S k (fnT t fun y=>aE t k y) (obT t (fun y=>callW t k y) (fun y=>callI t k y) fun y=>callM t k y):=gL T k;refine bA5 (fun q' e=>by rw [hq] at e;cases e) T F ⟨fun z m' e=>?_,B.fnW,B.cls,B.om,B.fo⟩;unfold fnL at e;split at e
 ·rename_i hz;cases e;rw [hz];exact hm
 ·exact B.fn z m' e
end CI

namespace CI
open PySem DL
@[simp] theorem bX2 {α β:Type} (x:XR α) (f:α->XR β) (δ:DSt) (h:aA):xb x f δ h=(x δ h).bind fun p=>f p.1 δ p.2:=rfl
@[simp] theorem nU {α:Type} (a:α) (δ:DSt) (h:aA):aD a δ h=some (a,h):=rfl
@[simp] theorem cL7 {α:Type} (δ:DSt) (h:aA):(xno:XR α) δ h=none:=rfl
@[simp] theorem cI3 (i:Nat) (δ:DSt) (h:aA):aB i δ h=match δ[i]? with
 | some (some w)=>some (w,h)
 | _=>none:=rfl
def gM (h:aA):okP h h:=fun i c _ e=>.inr e
def nV {h h1:aA} (L:aA) (hl:h1.length=h.length) (k:okP h h1):okP h (h1++L):=fun i c hi e=>k i c hi (by rwa [List.getElem?_append_left (by omega)] at e)
def bJ9 {h h1:aA} (i:Nat) (xs:List PyData) (k:okP h h1):okP h (h1.set i (.l xs)):=fun j c hj e=>by
 by_cases q:i=j
 ·subst q
  by_cases hi:i < h1.length
  ·rw [List.getElem?_set_self hi] at e;cases e;exact .inl fun m hm=>by cases hm
  ·rw [List.set_eq_of_length_le (by omega)] at e;exact k i c hj e
 ·rw [List.getElem?_set_ne q] at e;exact k j c hj e
@[simp] theorem cR9 (h:aA):okP h h=True:=eq_true (gM h)
@[simp] theorem cS0 (h L:aA):okP h (h++L)=True:=eq_true (nV L rfl (gM h))
def aK6 (h0:aA) (z:PyData) (h:aA) (ok:okP h0 h):aR h0 (.rt (.d z),h)=some (z,h.take h0.length):=by
 unfold aR;rw [if_pos ok]
def aK7 (h0:aA) (δ:DSt) (h:aA) (ok:okP h0 h):aR h0 (.nx δ,h)=some (.none,h.take h0.length):=by
 unfold aR;rw [if_pos ok]
@[simp] theorem aU5 (h:aA) (z:PyData):aR h (.rt (.d z),h)=some (z,h):=by rw [aK6 _ _ _ (gM h),List.take_length]
@[simp] theorem cI4 (h:aA) (δ:DSt):aR h (.nx δ,h)=some (.none,h):=by rw [aK7 _ _ _ (gM h),List.take_length]
@[simp] theorem cI5 (h L:aA) (z:PyData):aR h (.rt (.d z),h++L)=some (z,h):=by rw [aK6 _ _ _ (nV L rfl (gM h)),List.take_left'];rfl
@[simp] theorem cI6 (h L:aA) (δ:DSt):aR h (.nx δ,h++L)=some (.none,h):=by rw [aK7 _ _ _ (nV L rfl (gM h)),List.take_left'];rfl
@[simp] theorem cI7 (δ:DSt) (h:aA):fR (.nx δ,h)=some (.d .none,h):=rfl
@[simp] theorem cI8 (w:W) (h:aA):fR (.rt w,h)=some (w,h):=rfl
@[simp] theorem bP3 (δ:DSt):aY [] δ=[]:=rfl
@[simp] theorem bK0 (r:List (Option Nat)) (δ:DSt):aY (none::r) δ=none::aY r δ:=rfl
@[simp] theorem bK1 (i:Nat) (r:List (Option Nat)) (δ:DSt):aY (some i::r) δ=(δ[i]?).bind id::aY r δ:=rfl
@[simp] theorem bX3 (gs:List XG) (xs:List PyData) (δ:DSt) (h:aA):bK gs (.d (.tuple xs)) δ h=kU gs xs δ h:=rfl
@[simp] theorem bX4 (δ:DSt) (h:aA):kU [] [] δ h=some (δ,h):=rfl
@[simp] theorem bP4 (g:XG) (gs:List XG) (x:PyData) (xs:List PyData) (δ:DSt) (h:aA):kU (g::gs) (x::xs) δ h=(g (.d x) δ h).bind fun p=>kU gs xs p.1 p.2:=rfl
@[simp] theorem cQ0 (h:aA) (x:PyData):ref h (.d x)=some x:=rfl
end CI

namespace CI
open PySem PySem.Spec PyProof.Rows L2 DL
section
variable {δ:DSt} {h:aA}
@[simp] theorem bX5 (x:XR Bool):cT x δ h=(x δ h).map asW:=rfl
@[simp] theorem cL8 (b:Bool):asW (b,h)=(.d (.bool b),h):=rfl
@[simp] theorem cL9 (op:CmpOp) (x y:XR W):xC1 op x y δ h=(x δ h).bind fun u=>(y δ u.2).bind fun w=>eU op u.1 w.1 w.2:=rfl
@[simp] theorem cM0 (op op':CmpOp) (x y z:XR W):xC2 op op' x y z δ h=(x δ h).bind fun u=>(y δ u.2).bind fun w=>(eU op u.1 w.1 w.2).bind fun p=>if p.1=true then (z δ p.2).bind fun q=>eU op' w.1 q.1 q.2 else some (false,p.2):=rfl
@[simp] theorem cM1 (op op' op'':CmpOp) (x y z t:XR W):xC3 op op' op'' x y z t δ h=(x δ h).bind fun u=>(y δ u.2).bind fun w=>(eU op u.1 w.1 w.2).bind fun p =>
 if p.1=true then (z δ p.2).bind fun q=>(eU op' w.1 q.1 q.2).bind fun p'=>if p'.1=true then (t δ p'.2).bind fun q'=>eU op'' q.1 q'.1 q'.2 else some (false,p'.2) else some (false,p.2):=rfl
@[simp] theorem bX6 (f:Str->Option Int) (x:XR W):lU f x δ h=(x δ h).bind fun p=>(match p.1 with
 | .d (.str s)=>some (!(f s).isSome,p.2)
 | .d .none=>some (true,p.2)
 | _=>none):=by
 unfold lU;rw [bX2]
 congr 1
 funext p
 obtain ⟨w,h'⟩:=p;cases w with
 | d x=>cases x<;>rfl
 | c i=>rfl
@[simp] theorem cI9 (x:XR (List PyData)):aJ x δ h=(x δ h).bind fun p=>some (.d (.list p.1),p.2):=rfl
@[simp] theorem bX7 (x:XR (List PyData)):bB x δ h=(x δ h).bind fun p=>some (.c p.2.length,p.2++[.l p.1]):=rfl
@[simp] theorem cM2 (x:XR (List W)):xPl x δ h=(x δ h).bind fun p=>(match gI p.1 with
 | some xs=>if xs.length<=sizeLine then some (xs,p.2) else none
 | none=>none):=rfl
@[simp] theorem cJ0 (i:Nat) (x:XR W):aS i x δ h=(x δ h).bind fun p=>some (.nx (δ.set i (some p.1)),p.2):=rfl
@[simp] theorem aK8 (x:XR W):aZ x δ h=(x δ h).bind fun p=>(match p.1 with
 | .d (.list xs)=>some ((xs,none),p.2)
 | .d (.tuple xs)=>some ((xs,none),p.2)
 | .c i=>(match p.2[i]? with
  | some (.l xs)=>some ((xs,some (i,false)),p.2)
  | _=>none)
 | _=>none):=rfl
@[simp] theorem bK2:gI []=some []:=rfl
@[simp] theorem bX8 (x:PyData) (r:List W):gI (.d x::r)=(gI r).map (x::·):=rfl
@[simp] theorem cM3 (i j:Int):eU .Lt (.d (.int i)) (.d (.int j)) h=some (decide (i < j),h):=rfl
@[simp] theorem cM4 (i j:Int):eU .LtE (.d (.int i)) (.d (.int j)) h=some (decide (i<=j),h):=rfl
@[simp] theorem cM5 (i j:Int):eU .Gt (.d (.int i)) (.d (.int j)) h=some (decide (j < i),h):=rfl
@[simp] theorem cM6 (i j:Int):eU .GtE (.d (.int i)) (.d (.int j)) h=some (decide (j<=i),h):=rfl
@[simp] theorem cM7 (u w:W):eU .Eq u w h=(xEq u w h).map fun b=>(b,h):=rfl
@[simp] theorem cM8 (u w:W):eU .NotEq u w h=(xEq u w h).map fun b=>(!b,h):=rfl
@[simp] theorem cM9 (u w:W):eU .Is u w h=(xIs u w).map fun b=>(b,h):=rfl
@[simp] theorem bP5 (u w:W):eU .IsNot u w h=(xIs u w).map fun b=>(!b,h):=rfl
@[simp] theorem cN0 (u w:W):eU .In u w h=(xIn u w h).map fun b=>(b,h):=rfl
@[simp] theorem bP6 (u w:W):eU .NotIn u w h=(xIn u w h).map fun b=>(!b,h):=rfl
def xQ (a b:PyData):xEq (.d a) (.d b) h=if (aN 64 a&&aN 64 b)=true then some (PyData.eqv a b) else none:=rfl
@[simp] theorem cJ1 (n:Nat):aN n .none=true:=by rw [aN]
@[simp] theorem cJ2 (n:Nat) (b:Bool):aN n (.bool b)=true:=by rw [aN]
@[simp] theorem cN1 (n:Nat) (i:Int):aN n (.int i)=true:=by rw [aN]
@[simp] theorem cN2 (n:Nat) (x:Str):aN n (.str x)=true:=by rw [aN]
@[simp] theorem cJ3 (n:Nat) (xs:List PyData):aN (n+1) (.list xs)=plainsB n xs:=by rw [aN]
@[simp] theorem bX9 (n:Nat) (xs:List PyData):aN (n+1) (.tuple xs)=plainsB n xs:=by rw [aN]
@[simp] theorem cJ4 (n:Nat):plainsB n []=true:=by rw [plainsB]
@[simp] theorem bY0 (n:Nat) (x:PyData) (xs:List PyData):plainsB n (x::xs)=(aN n x&&plainsB n xs):=by rw [plainsB]
@[simp] theorem cJ5 (i j:Int):xEq (.d (.int i)) (.d (.int j)) h=some (decide (i=j)):=by rw [xQ];simp [PyData.eqv];exact Bool.beq_eq_decide_eq i j
@[simp] theorem cJ6 (x y:Str):xEq (.d (.str x)) (.d (.str y)) h=some (x==y):=by simp [xQ,PyData.eqv]
@[simp] theorem bY1 (x y:Bool):xEq (.d (.bool x)) (.d (.bool y)) h=some (x==y):=by cases x<;>cases y<;>simp [xQ,PyData.eqv]
@[simp] theorem bA7 (y:Str):xEq (.d .none) (.d (.str y)) h=some false:=by simp [xQ,PyData.eqv]
@[simp] theorem cQ1 (x:PyData):bJ [.d x] h=(match x with
  | .list xs=>some (.d (.int xs.length),h)
  | .tuple xs=>some (.d (.int xs.length),h)
  | _=>none):=by cases x<;>rfl
@[simp] theorem cJ7 (xs:List PyData):bX [.d (.list xs)] h=some (.d (.tuple xs),h):=rfl
@[simp] theorem cJ8 (xs:List PyData):bX [.d (.tuple xs)] h=some (.d (.tuple xs),h):=rfl
@[simp] theorem bY2 (xs:List PyData):iY [.d (.list xs)] h=(eT xs).map fun bs=>(.d (.bool (bs.all id)),h):=rfl
@[simp] theorem cS1 (xs:List PyData) (i:Int):xIx (.d (.tuple xs)) (.d (.int i)) h=(atI xs i).map fun v=>(.d v,h):=rfl
@[simp] theorem aU6 (xs:List PyData) (i:Int):xIx (.d (.list xs)) (.d (.int i)) h=(atI xs i).map fun v=>(.d v,h):=rfl
@[simp] theorem sl_t (xs:List PyData) (lo hi:Option Int):xSl (.d (.tuple xs)) lo hi h=some (.d (.tuple (cut xs lo hi)),h):=rfl
@[simp] theorem sl_l (xs:List PyData) (lo hi:Option Int):xSl (.d (.list xs)) lo hi h=some (.d (.list (cut xs lo hi)),h):=rfl
@[simp] theorem bP7 (i j:Int):dA .Add (.d (.int i)) (.d (.int j)) h=some (.d (.int (i+j)),h):=rfl
@[simp] theorem bP8 (i j:Int):dA .Sub (.d (.int i)) (.d (.int j)) h=some (.d (.int (i - j)),h):=rfl
@[simp] theorem bP9 (i j:Int):dA .Mult (.d (.int i)) (.d (.int j)) h=if gW i j=true then some (.d (.int (i*j)),h) else none:=rfl
@[simp] theorem bQ0 (i j:Int):dA .FloorDiv (.d (.int i)) (.d (.int j)) h=if bA j=true then some (.d (.int (i / j)),h) else none:=rfl
@[simp] theorem bQ1 (i j:Int):dA .Mod (.d (.int i)) (.d (.int j)) h=if 0 < j then some (.d (.int (i%j)),h) else none:=rfl
@[simp] theorem bQ2 (i j:Int):dA .Pow (.d (.int i)) (.d (.int j)) h=if wX i j=true then some (.d (.int (i^j.toNat)),h) else none:=rfl
@[simp] theorem bQ3 (xs ys:List PyData):dA .Add (.d (.tuple xs)) (.d (.tuple ys)) h=if xs.length+ys.length<=sizeLine then some (.d (.tuple (xs++ys)),h) else none:=rfl
@[simp] theorem bQ4 (xs ys:List PyData):dA .Add (.d (.list xs)) (.d (.list ys)) h=if xs.length+ys.length<=sizeLine then some (.d (.list (xs++ys)),h) else none:=rfl
@[simp] theorem cR (xs:List PyData):condB none xs h=true:=rfl
theorem bL {g:XG} {te:XR W} {all:List PyData} (f:PyData->PyData) (k:Nat) (hg:∀ w δ h,g w δ h=some (δ.set k (some w),h)) :
  ∀ (rest:List PyData) (δ:DSt) (ac:List PyData),(∀ x∈rest,∀ u,te ((δ.set k u).set k (some (.d x))) h=some (.d (f x),h))->aQ g (aD true) te none all rest δ h ac=some (ac++rest.map f,h)
 | [],δ,ac,_=>by simp [aQ]
 | x::r,δ,ac,hf=>by
  have e:=hf x List.mem_cons_self none;rw [List.set_set] at e;rw [aQ,cR,if_pos rfl,hg];simp only [Option.bind_some,nU,if_true,e];rw [bL f k hg r _ _ fun y hy u=>by
   have:=hf y (List.mem_cons_of_mem _ hy) u;rw [List.set_set] at this ⊢;rw [List.set_set];exact this]
  simp
theorem bools_map {f:PyData->Bool}:∀ xs:List PyData,eT (xs.map fun x=>.bool (f x))=some (xs.map f)
 | []=>rfl
 | x::r=>by rw [List.map_cons,eT,bools_map r];rfl
theorem all_map {f:PyData->Bool} {h:aA} (xs:List PyData):iY [.d (.list (xs.map fun x=>.bool (f x)))] h=some (.d (.bool (xs.all f)),h):=by
 rw [bY2,bools_map,Option.map_some,List.all_map];rfl
end
end CI

namespace CI
open PySem PySem.Spec PyProof.Rows L2 DL
abbrev S3:=Int×Int×Int
noncomputable def stL (s:S3):Cell:=.l [.int s.1,.int s.2.1,.int s.2.2]
def iL {i:Int} (h1:-(2^64) < i) (h2:i < 2^64) (j:Int):gW i j=true:=by
 unfold gW;rw [decide_eq_true h1,decide_eq_true h2];rfl
def xR {j:Int} (h1:-(2^64) < j) (h2:j < 2^64) (i:Int):gW i j=true:=by
 unfold gW;rw [decide_eq_true h1,decide_eq_true h2,Bool.and_self,Bool.or_true]
def cJ {j:Int} (h1:0 < j) (h2:j < 1073741824):bA j=true:=by
 unfold bA;rw [decide_eq_true h1,decide_eq_true h2];rfl
def fD {h L:aA} {i:Nat} {c:Cell} (hi:i < h.length):h.set i c++L=(h++L).set i c:=(List.set_append_left _ _ hi).symm
def xS {h:aA} {i:Nat} {xs:List PyData} (hi:i < h.length):ref (h.set i (.l xs)) (.c i)=some (.list xs):=by
 simp [ref,hi]
@[simp] theorem cS2 {h:aA} {i:Nat} {xs:List PyData} (hi:i < h.length) (k:Int):xIx (.c i) (.d (.int k)) (h.set i (.l xs))=(atI xs k).map fun v=>(.d v,h.set i (.l xs)):=by
 unfold xIx;rw [xS hi]
noncomputable def thr (f:PyData->S3->PyData) (n:PyData->S3->S3):List PyData->S3->List PyData×S3
 | [],s=>([],s)
 | x::r,s=>(f x s::(thr f n r (n x s)).1,(thr f n r (n x s)).2)
theorem qA {g:XG} {te:XR W} {all:List PyData} {h:aA} {i:Nat} (f:PyData->S3->PyData) (n:PyData->S3->S3) (k:Nat) (hg:∀ w δ h,g w δ h=some (δ.set k (some w),h)) :
  ∀ (rest:List PyData) (δ:DSt) (ac:List PyData) (s:S3),(∀ x∈rest,∀ u s,te ((δ.set k u).set k (some (.d x))) (h.set i (stL s))=some (.d (f x s),h.set i (stL (n x s)))) ->
   aQ g (aD true) te none all rest δ (h.set i (stL s)) ac=some (ac++(thr f n rest s).1,h.set i (stL (thr f n rest s).2))
 | [],δ,ac,s,_=>by simp [aQ,thr]
 | x::r,δ,ac,s,hf=>by
  have e:=hf x List.mem_cons_self none s;rw [List.set_set] at e;rw [aQ,cR,if_pos rfl,hg];simp only [Option.bind_some,nU,if_true,e];rw [qA f n k hg r _ _ _ fun y hy u s=>by
   have:=hf y (List.mem_cons_of_mem _ hy) u s;rw [List.set_set] at this ⊢;rw [List.set_set];exact this]
  simp [thr]
end CI

namespace CI
open PySem PySem.Spec PyProof.Rows L2 DL
variable (h:aA)
@[simp] theorem cN3 (L:aA) (i:Nat) (c:Cell):(h.set i c++L).take h.length=h.set i c:=by
 rw [List.take_append_of_le_length (by simp)];simp
end CI

namespace CI
open PySem PySem.Spec PyProof.Rows L2 DL
theorem qB {g:XG} {te:XR W} {all:List PyData} {h:aA} (f:PyData->PyData) (J:DSt->Prop) :
  ∀ (rest:List PyData) (δ:DSt) (ac:List PyData),J δ->(∀ x∈rest,∀ δ,J δ->∃ δ1,g (.d x) δ h=some (δ1,h)/\J δ1/\te δ1 h=some (.d (f x),h))->aQ g (aD true) te none all rest δ h ac=some (ac++rest.map f,h)
 | [],δ,ac,_,_=>by simp [aQ]
 | x::r,δ,ac,j,hf=>by
  obtain ⟨δ1,e1,j1,e2⟩:=hf x List.mem_cons_self δ j;rw [aQ];simp [e1,e2,aD];rw [qB f J r δ1 (ac++[f x]) j1 fun y hy=>hf y (List.mem_cons_of_mem _ hy)];simp
theorem dX {g:XG} {te:XR W} {all:List PyData} {h:aA} (J:DSt->Prop) :
  ∀ (ps:List (PyData×PyData)) (δ:DSt) (ac:List PyData),J δ->(∀ p∈ps,∀ δ,J δ->∃ δ1,g (.d p.1) δ h=some (δ1,h)/\J δ1/\te δ1 h=some (.d p.2,h))->aQ g (aD true) te none all (ps.map (·.1)) δ h ac=some (ac++ps.map (·.2),h)
 | [],δ,ac,_,_=>by simp [aQ]
 | x::r,δ,ac,j,hf=>by
  obtain ⟨δ1,e1,j1,e2⟩:=hf x List.mem_cons_self δ j;rw [List.map_cons,aQ];simp [e1,e2,aD];rw [dX J r δ1 (ac++[x.2]) j1 fun y hy=>hf y (List.mem_cons_of_mem _ hy)];simp
@[simp] theorem cN4 (xs:List PyData) (h:aA):jK (.d (.list xs)) h=some ((bF xs,none),h):=rfl
@[simp] theorem cN5 (xs:List PyData) (h:aA):jK (.d (.tuple xs)) h=some ((bF xs,none),h):=rfl
@[simp] theorem cN6 (xs:List PyData):jJ (.d (.tuple xs))=some xs:=rfl
@[simp] theorem cN7 (xs:List PyData):jJ (.d (.list xs))=some xs:=rfl
def bK3 (a:PyData) (xs:List PyData) (h:aA):xIn (.d a) (.d (.tuple xs)) h=if (aN 64 (.tuple xs)&&aN 64 a)=true then some (xs.any fun z=>PyData.eqv z a) else none:=rfl
@[simp] theorem bY3 (x a b:Str) (h:aA):xIn (.d (.str x)) (.d (.tuple [.str a,.str b])) h=some (a==x||b==x):=by
 rw [bK3];simp [PyData.eqv]
end CI

namespace CI
open PySem PySem.Spec PyProof.Rows L2 DL ST
theorem tX {g:XG} {tb:XS} {all:List PyData} (I:DSt->aA->Prop):∀ (rest:List PyData),(∀ x∈rest,∀ δ h,I δ h->∃ δ1 h1 δ2 h2,g (.d x) δ h=some (δ1,h1)/\tb δ1 h1=some (.nx δ2,h2)/\I δ2 h2) ->
  ∀ (δ:DSt) (h:aA),I δ h->∃ δ' h',aW g tb none all rest δ h=some (.nx δ',h')/\I δ' h'
 | [],_,δ,h,i=>⟨δ,h,by simp [aW],i⟩
 | x::r,ht,δ,h,i=>by
  obtain ⟨δ1,h1,δ2,h2,e1,e2,i2⟩:=ht x List.mem_cons_self δ h i;obtain ⟨δ3,h3,e3,i3⟩:=tX I r (fun y hy=>ht y (List.mem_cons_of_mem _ hy)) δ2 h2 i2;refine ⟨δ3,h3,?_,i3⟩;rw [aW,cR,if_pos rfl,e1];simp only [Option.bind_some,e2];exact e3
def lE {g:XG} {tb:XS} {all:List PyData} (I:DSt->aA->Prop) (rest:List PyData) (ht:∀ x∈rest,∀ δ h,I δ h->∃ δ1 h1,g (.d x) δ h=some (δ1,h1)/\∃ δ2 h2,tb δ1 h1=some (.nx δ2,h2)/\I δ2 h2) (δ:DSt) (h:aA) (i:I δ h) :
  ∃ δ' h',aW g tb none all rest δ h=some (.nx δ',h')/\I δ' h':=tX I rest (fun x hx δ h i=>let ⟨δ1,h1,e1,δ2,h2,e2,i2⟩:=ht x hx δ h i;⟨δ1,h1,δ2,h2,e1,e2,i2⟩) δ h i
def fE {x:Option (Fl×aA)} {f:Fl×aA->Option (Fl×aA)} {P:DSt->aA->Prop} (J:DSt->aA->Prop) (e:∃ δ' h',x=some (.nx δ',h')/\J δ' h') (k:∀ δ' h',J δ' h'->∃ δ2 h2,f (.nx δ',h')=some (.nx δ2,h2)/\P δ2 h2):∃ δ2 h2,x.bind f=some (.nx δ2,h2)/\P δ2 h2:=by
 obtain ⟨δ',h',e,j⟩:=e;rw [e];exact k δ' h' j

section
variable (h:aA)
@[simp] theorem bY4:dQ []=some []:=rfl
@[simp] theorem bQ5 (i:Int) (r:List PyData):dQ (.int i::r)=(dQ r).map (i::·):=rfl
@[simp] theorem cQ2:xIs (.d .none) (.d .none)=some true:=rfl
@[simp] theorem cQ3 (i:Int):xIs (.d (.int i)) (.d .none)=some false:=rfl
@[simp] theorem cQ4 (xs:List PyData):xIs (.d (.tuple xs)) (.d .none)=some false:=rfl
def get_last (c:Cell):(h++[c])[h.length]?=some c:=by simp
def mpre_last (xs:List PyData):gJ "append" (.c h.length) (h++[.l xs])=true:=by
 unfold gJ;rw [if_pos rfl];simp
end
end CI

namespace CI
open PySem PySem.Spec PyProof.Rows L2 DL ST
@[simp high] theorem bs {α β:Type} (a:α) (f:α->Option β):(some a).bind f=f a:=id rfl
@[simp high] theorem xv0 (w:W) (l:DSt) (h:aA):aB 0 (some w::l) h=some (w,h):=id rfl
@[simp high] theorem xv1 {x0:Option W} (w:W) (l:DSt) (h:aA):aB 1 (x0::some w::l) h=some (w,h):=id rfl
@[simp high] theorem xv2 {x0 x1:Option W} (w:W) (l:DSt) (h:aA):aB 2 (x0::x1::some w::l) h=some (w,h):=id rfl
@[simp high] theorem xv3 {x0 x1 x2:Option W} (w:W) (l:DSt) (h:aA):aB 3 (x0::x1::x2::some w::l) h=some (w,h):=id rfl
@[simp high] theorem xv4 {x0 x1 x2 x3:Option W} (w:W) (l:DSt) (h:aA):aB 4 (x0::x1::x2::x3::some w::l) h=some (w,h):=id rfl
@[simp high] theorem xv5 {x0 x1 x2 x3 x4:Option W} (w:W) (l:DSt) (h:aA):aB 5 (x0::x1::x2::x3::x4::some w::l) h=some (w,h):=id rfl
@[simp high] theorem xv6 {x0 x1 x2 x3 x4 x5:Option W} (w:W) (l:DSt) (h:aA):aB 6 (x0::x1::x2::x3::x4::x5::some w::l) h=some (w,h):=id rfl
@[simp high] theorem xv7 {x0 x1 x2 x3 x4 x5 x6:Option W} (w:W) (l:DSt) (h:aA):aB 7 (x0::x1::x2::x3::x4::x5::x6::some w::l) h=some (w,h):=id rfl
@[simp high] theorem xv8 {x0 x1 x2 x3 x4 x5 x6 x7:Option W} (w:W) (l:DSt) (h:aA):aB 8 (x0::x1::x2::x3::x4::x5::x6::x7::some w::l) h=some (w,h):=id rfl
@[simp high] theorem xv9 {x0 x1 x2 x3 x4 x5 x6 x7 x8:Option W} (w:W) (l:DSt) (h:aA):aB 9 (x0::x1::x2::x3::x4::x5::x6::x7::x8::some w::l) h=some (w,h):=id rfl
@[simp high] theorem cS3 {x0 x1 x2 x3 x4 x5 x6 x7 x8 x9 x10:Option W} (w:W) (l:DSt) (h:aA):aB 11 (x0::x1::x2::x3::x4::x5::x6::x7::x8::x9::x10::some w::l) h=some (w,h):=id rfl
@[simp high] theorem cS4 {x0 x1 x2 x3 x4 x5 x6 x7 x8 x9 x10 x11:Option W} (w:W) (l:DSt) (h:aA):aB 12 (x0::x1::x2::x3::x4::x5::x6::x7::x8::x9::x10::x11::some w::l) h=some (w,h):=id rfl
theorem eX {g:XG} {tt:XR Bool} {te:XR W} {all:List PyData} {h:aA} (p:PyData->Bool) (f:PyData->PyData) (I:DSt->Prop):∀ (xs:List PyData) (δ:DSt) (ac:List PyData),I δ ->
  (∀ x∈xs,∀ δ,I δ->∃ δ',g (.d x) δ h=some (δ',h)/\I δ'/\tt δ' h=some (p x,h)/\(p x=true->te δ' h=some (.d (f x),h)))->aQ g tt te none all xs δ h ac=some (ac++(xs.filter p).map f,h)
 | [],δ,ac,_,_=>by simp [aQ]
 | x::r,δ,ac,i,hx=>by
  obtain ⟨δ',e1,i',e2,e3⟩:=hx x List.mem_cons_self δ i;have ih:=fun ac=>eX (all:=all) p f I r δ' ac i' fun y hy=>hx y (List.mem_cons_of_mem _ hy);rw [aQ,cR,if_pos rfl,e1];simp only [bs,e2];cases hp:p x with
  | true=>rw [if_pos rfl,e3 hp];simp only [bs];rw [ih];simp [hp]
  | false=>rw [if_neg (by simp)];rw [ih];simp [hp]
def bK4 {g:XG} {te:XR W} {all:List PyData} {h:aA} (f:PyData->PyData) (I:DSt->Prop) (xs:List PyData) (δ:DSt) (i:I δ)
  (hx:∀ x∈xs,∀ δ,I δ->∃ δ',g (.d x) δ h=some (δ',h)/\I δ'/\te δ' h=some (.d (f x),h)):aQ g (aD true) te none all xs δ h []=some (xs.map f,h):=by
 have:=eX (g:=g) (tt:=aD true) (te:=te) (all:=all) (h:=h) (fun _=>true) f I xs δ [] i fun x m δ i=>by
  obtain ⟨δ',a,b,c⟩:=hx x m δ i;exact ⟨δ',a,b,rfl,fun _=>c⟩
 rw [this,List.filter_eq_self.mpr (fun _ _=>rfl),List.nil_append]
def vW {σ α:Type} {g:XG} {tb:XS} {all:List PyData} {P:DSt->aA->Prop} (F:α->PyData) (st:σ->α->σ) (R:σ->DSt->aA->Prop) (s:σ) (qs:List α) {δ:DSt} {h:aA} (hi:R s δ h) (hP:∀ δ h,R (qs.foldl st s) δ h->P δ h)
  (ht:∀ q∈qs,∀ s δ h,R s δ h->∃ δ1 h1,g (.d (F q)) δ h=some (δ1,h1)/\∃ δ2 h2,tb δ1 h1=some (.nx δ2,h2)/\R (st s q) δ2 h2):∃ δ' h',aW g tb none all (qs.map F) δ h=some (.nx δ',h')/\P δ' h':=by
 suffices H:∀ (qs:List α) (s:σ) (δ:DSt) (h:aA),R s δ h->(∀ q∈qs,∀ s δ h,R s δ h->∃ δ1 h1,g (.d (F q)) δ h=some (δ1,h1)/\∃ δ2 h2,tb δ1 h1=some (.nx δ2,h2)/\R (st s q) δ2 h2)->∃ δ' h',aW g tb none all (qs.map F) δ h=some (.nx δ',h')/\R (qs.foldl st s) δ' h' by
  obtain ⟨δ',h',e,r⟩:=H qs s δ h hi ht;exact ⟨δ',h',e,hP _ _ r⟩
 clear hP hi ht;intro qs;induction qs with
 | nil=>exact fun s δ h i _=>⟨δ,h,by simp [aW],i⟩
 | cons q r ih =>
  intro s δ h i ht;obtain ⟨δ1,h1,e1,δ2,h2,e2,i2⟩:=ht q List.mem_cons_self s δ h i;obtain ⟨δ3,h3,e3,i3⟩:=ih _ δ2 h2 i2 fun y hy=>ht y (List.mem_cons_of_mem _ hy);refine ⟨δ3,h3,?_,i3⟩;rw [List.map_cons,aW,cR,if_pos rfl,e1];simp only [bs,e2];exact e3
def cF {g:XG} {tb:XS} {all:List PyData} {P:DSt->aA->Prop} (I:Nat->DSt->aA->Prop) {rest:List PyData} {δ:DSt} {h:aA} (hi:I 0 δ h) (hP:∀ δ h,I rest.length δ h->P δ h)
  (ht:∀ n (hn:n < rest.length) δ h,I n δ h->∃ δ1 h1,g (.d rest[n]) δ h=some (δ1,h1)/\∃ δ2 h2,tb δ1 h1=some (.nx δ2,h2)/\I (n+1) δ2 h2):∃ δ' h',aW g tb none all rest δ h=some (.nx δ',h')/\P δ' h':=by
 suffices H:∀ (r:List PyData) (n:Nat) (δ:DSt) (h:aA),(∃ p,rest=p++r/\p.length=n)->I n δ h->∃ δ' h',aW g tb none all r δ h=some (.nx δ',h')/\I rest.length δ' h' by
  obtain ⟨δ',h',e,i⟩:=H rest 0 δ h ⟨[],rfl,rfl⟩ hi;exact ⟨δ',h',e,hP δ' h' i⟩
 intro r;induction r with
 | nil =>
  rintro n δ h ⟨p,e1,e2⟩ i;subst e2;simp at e1;subst e1;exact ⟨δ,h,by simp [aW],i⟩
 | cons x r ih =>
  rintro n δ h ⟨p,e1,e2⟩ i;have hn:n < rest.length:=by rw [e1];simp;omega
  have hx:rest[n]=x:=by subst e2;subst e1;simp
  obtain ⟨δ1,h1,e1',δ2,h2,e2',i2⟩:=ht n hn δ h i;rw [hx] at e1';obtain ⟨δ3,h3,e3,i3⟩:=ih (n+1) δ2 h2 ⟨p++[x],by simp [e1],by simp [e2]⟩ i2;refine ⟨δ3,h3,?_,i3⟩;rw [aW,cR,if_pos rfl,e1'];simp only [bs,e2'];exact e3
def rng_len (lo:Int) (n:Nat):(rng lo n).length=n:=by simp [rng]
@[simp] theorem at4 (a b c e f:PyData) (r:List PyData):atI (a::b::c::e::f::r) 4=some f:=eW (j:=4) (by simp)
@[simp] theorem at5 (a b c e f g:PyData) (r:List PyData):atI (a::b::c::e::f::g::r) 5=some g:=eW (j:=5) (by simp)
end CI

namespace CI
open PySem DL
variable {h L:aA} {i:Nat} {c c':Cell}
open Classical in
@[simp] theorem cN8 (h0:aA) (z:PyData) (h1:aA):aR h0 (.rt (.d z),h1)=if okP h0 h1 then some (z,h1.take h0.length) else none:=rfl
open Classical in
@[simp] theorem cN9 (h0:aA) (δ:DSt) (h1:aA):aR h0 (.nx δ,h1)=if okP h0 h1 then some (PyData.none,h1.take h0.length) else none:=rfl
def xT (xs:List PyData):okP (h.set i c) (h.set i (.l xs)):=by
 have:=bJ9 i xs (gM (h.set i c))
 rwa [List.set_set] at this
@[simp] theorem cQ5 (xs:List PyData):okP (h.set i c) (h.set i (.l xs))=True:=eq_true (xT xs)
@[simp] theorem cQ6 (s:S3):okP (h.set i c) (h.set i (stL s))=True:=eq_true (xT _)
@[simp] theorem cQ7 (xs:List PyData):okP (h.set i c) (h.set i (.l xs)++L)=True:=eq_true (nV L (by simp) (xT xs))
@[simp] theorem bK5 (s:S3):okP (h.set i c) (h.set i (stL s)++L)=True:=eq_true (nV L (by simp) (xT _))
@[simp] theorem aK9 (s:S3) (hi:i < h.length):okP (h.set i c) ((h++L).set i (stL s))=True:=by rw [<- fD hi,bK5]
@[simp] theorem cO0:(h.set i c).take h.length=h.set i c:=List.take_of_length_le (by simp)
@[simp] theorem bY5:(h.set i c++L).take h.length=h.set i c:=by rw [List.take_append_of_le_length (by simp),cO0]
@[simp] theorem aL0 (hi:i < h.length):((h++L).set i c).take h.length=h.set i c:=by rw [<- fD hi,bY5]
end CI

namespace SJ
open PySem
set_option genInjectivity true in
inductive One where
 | read (k:Nat) | write (k:Nat) (v:Int) | add (k:Nat) (n:Int) | swap (k:Nat) (o n:Int)
set_option genInjectivity true in
inductive Call where
 | one (c:One) | span (lo hi:Nat) | deal (cs:List One)
set_option genInjectivity true in
inductive Stp where
 | call (c:Call) | look (c:Call) | lay (ps:List (Nat×Int))
def One.dat:One->PyData
 | .read k=>.tuple [.str "read",.int k]
 | .write k v=>.tuple [.str "write",.int k,.int v]
 | .add k n=>.tuple [.str "add",.int k,.int n]
 | .swap k o n=>.tuple [.str "swap",.int k,.int o,.int n]
def One.key:One->Nat
 | .read k=>k | .write k _=>k | .add k _=>k | .swap k _ _=>k
def Call.dat:Call->PyData
 | .one c=>c.dat
 | .span lo hi=>.tuple [.str "span",.int lo,.int hi]
 | .deal cs=>.tuple [.str "deal",.tuple (cs.map One.dat)]
def Stp.dat:Stp->PyData
 | .call c=>c.dat
 | .look c=>.tuple [.str "look",c.dat]
 | .lay ps=>.tuple [.str "lay",.tuple (ps.map fun p=>.tuple [.int p.1,.int p.2])]
def One.ok (c:One):Prop:=c.key < 8
noncomputable def Call.ok:Call->Prop
 | .one c=>c.ok
 | .span lo hi=>lo < hi/\hi<=8
 | .deal cs=>cs.length<=4/\1<=cs.length/\∀ c∈cs,c.ok
noncomputable def got (v:Int):PyData:=.tuple [.str "got",.int v]
noncomputable def dn:PyData:=.tuple [.str "done"]
noncomputable def yes:PyData:=.tuple [.str "yes"]
def no:PyData:=.tuple [.str "no"]
end SJ

namespace SJ
open PySem
mutual
noncomputable def sok:PyData->Bool
 | .str x=>PyData.strOk x
 | .list xs=>decide (xs.length<=1000)&&soks xs
 | .tuple xs=>decide (xs.length<=1000)&&soks xs
 | _=>true
noncomputable def soks:List PyData->Bool
 | []=>true
 | x::r=>sok x&&soks r
end
def qC {x:PyData} {xs:List PyData}:soks (x::xs)=true ↔ sok x=true/\soks xs=true:=by rw [soks,Bool.and_eq_true]
noncomputable def fO:PyData->Bool
 | .int _=>true
 | _=>false
noncomputable def bR (x:PyData) (lo hi:Int):Bool:=match x with
 | .int i=>decide (lo<=i)&&decide (i<=hi)
 | _=>false
def jZ (x:PyData):Bool:=bR x 0 7
noncomputable def bP:PyData->Int->Bool
 | .tuple xs,n=>decide ((xs.length:Int)=n)
 | _,_=>false
noncomputable def gA:PyData->PyData
 | .tuple (.str s::_)=>.str s
 | _=>.none
noncomputable def aK (x:PyData) (s:Str) (n:Int):Bool:=match x with
 | .tuple (.str t::r)=>(t==s)&&decide ((r.length:Int)+1=n)
 | _=>false
def nb (s:Str):Option Int:=if s=Str.ofString "read" then some 0 else if s=Str.ofString "write" then some 1 else if s=Str.ofString "add" then some 1 else if s=Str.ofString "swap" then some 2 else none
def bS:PyData->Bool
 | .tuple (.str s::r)=>match nb s with
  | some n=>(decide ((r.length:Int)+1=2+n))&&(match r with
   | k::vs=>jZ k&&vs.all fO
   | []=>false)
  | none=>false
 | _=>false
noncomputable def eP:PyData->Bool
 | .tuple [.str s,.int a,.int b]=>(s==Str.ofString "span")&&decide (0<=a)&&decide (a < b)&&decide (b<=8)
 | _=>false
def eQ:PyData->Bool
 | .tuple [.str s,.tuple ps]=>(s==Str.ofString "deal")&&decide (1<=ps.length)&&decide (ps.length<=4)&&ps.all bS
 | _=>false
def cU (x:PyData):Bool:=bS x||eP x||eQ x
def jH:PyData->Bool
 | .tuple [.str s,c]=>(s==Str.ofString "look")&&cU c
 | _=>false
def eR:PyData->Bool
 | .tuple [k,v]=>jZ k&&fO v
 | _=>false
noncomputable def oW:PyData->Int
 | .int i=>i
 | _=>0
noncomputable def nW:PyData->PyData
 | .tuple (k::_)=>k
 | _=>.none
noncomputable def rT (ns:List Int):Bool:=(List.range (ns.length - 1)).all fun k=>decide (ns.getD k 0 < ns.getD (k+1) 0)
def kA:PyData->Bool
 | .tuple [.str s,.tuple ps]=>(s==Str.ofString "lay")&&!ps.isEmpty&&ps.all eR&&rT (ps.map fun p=>oW (nW p))
 | _=>false
def gB (x:PyData):Bool:=cU x||jH x||kA x
end SJ

namespace SJ
open PySem PySem.Spec PyProof.Rows L2 DL
def aU7:nb "read"=some 0:=by decide +kernel
def aL1:nb "write"=some 1:=by decide +kernel
def bK6:nb "add"=some 1:=by decide +kernel
def aU8:nb "swap"=some 2:=by decide +kernel
def aU9:nb "look"=none:=by decide +kernel
def bK7:nb "lay"=none:=by decide +kernel
def aV0:PyData.strOk "read"=true:=by decide +kernel
def aL2:PyData.strOk "write"=true:=by decide +kernel
def bK8:PyData.strOk "add"=true:=by decide +kernel
def aV1:PyData.strOk "swap"=true:=by decide +kernel
end SJ

namespace SJ
open PySem PySem.Spec PyProof.Rows L2 DL
def aV2:PyData.strOk "span"=true:=by decide +kernel
def aV3:PyData.strOk "deal"=true:=by decide +kernel
def aV4:PyData.strOk "look"=true:=by decide +kernel
def bK9:PyData.strOk "lay"=true:=by decide +kernel
def aL3 {k:Nat} (h:k < 8):jZ (.int k)=true:=by
 simp [jZ,bR];omega
def nX {o:One} (h:o.ok):bS o.dat=true/\sok o.dat=true:=by
 have h':o.key < 8:=h;cases o<;>simp [One.key] at h'<;>simp [One.dat,bS,aU7,aL1,bK6,aU8,aL3 h',fO,sok,soks,aV0,aL2,bK8,aV1]
theorem tY:∀ {cs:List One},(∀ c∈cs,c.ok)->(cs.map One.dat).all bS=true/\soks (cs.map One.dat)=true
 | [],_=>⟨rfl,rfl⟩
 | c::r,h=>by
  obtain ⟨h1,h2⟩:=nX (h c List.mem_cons_self);obtain ⟨h3,h4⟩:=tY fun z hz=>h z (List.mem_cons_of_mem _ hz);rw [List.map_cons,List.all_cons,h1,h3,qC];exact ⟨rfl,h2,h4⟩
def gF {o:SJ.Call} (h:o.ok):cU o.dat=true/\gB o.dat=true/\sok o.dat=true:=by
 have hc:cU o.dat=true/\sok o.dat=true:=by
  cases o with
  | one c =>
   obtain ⟨h1,h2⟩:=nX (o:=c) h;exact ⟨by simp [cU,Call.dat,h1],h2⟩
  | span lo hi =>
   obtain ⟨h1,h2⟩:=h;refine ⟨?_,by simp [Call.dat,sok,soks,aV2]⟩;have e1:(0:Int)<=lo:=by omega
   have e2:(lo:Int) < hi:=by omega
   have e3:(hi:Int)<=8:=by omega
   simp [cU,Call.dat,eP,e2,e3]
  | deal cs =>
   obtain ⟨h1,h2,h3⟩:=h;obtain ⟨h4,h5⟩:=tY h3;refine ⟨?_,by simp [Call.dat,sok,soks,aV3,h5];omega⟩;simp only [cU,Call.dat,eQ,h4,List.length_map];simp [h1,h2]
 exact ⟨hc.1,by simp [gB,hc.1],hc.2⟩
def iM {o:SJ.Call} (h:o.ok):cU (.tuple [.str "look",o.dat])=false/\gB (.tuple [.str "look",o.dat])=true/\sok (.tuple [.str "look",o.dat])=true:=by
 obtain ⟨h1,h2,h3⟩:=gF h;have hs:eP (.tuple [.str "look",o.dat])=false:=by
  unfold eP;split
  ·simp_all
  ·rfl
 have hd:eQ (.tuple [.str "look",o.dat])=false:=by
  unfold eQ;split
  ·rename_i e;injection e with e
   injection e with e1 e2
   injection e1 with e1
   subst e1;simp
  ·rfl
 have hi:bS (.tuple [.str "look",o.dat])=false:=by simp [bS,aU9]
 have hc:cU (.tuple [.str "look",o.dat])=false:=by simp [cU,hs,hd,hi]
 refine ⟨hc,?_,by simp [sok,soks,aV4,h3]⟩;simp only [gB,hc,jH,h1];simp
noncomputable def prP (p:Nat×Int):PyData:=.tuple [.int p.1,.int p.2]
theorem lF:∀ {ps:List (Nat×Int)},(∀ p∈ps,p.1 < 8)->(ps.map prP).all eR=true/\soks (ps.map prP)=true/\((ps.map prP).map fun p=>oW (nW p))=ps.map fun p=>(p.1:Int)
 | [],_=>⟨rfl,rfl,rfl⟩
 | p::r,h=>by
  obtain ⟨h3,h4,h5⟩:=lF fun z hz=>h z (List.mem_cons_of_mem _ hz);have hk:=aL3 (h p List.mem_cons_self);rw [List.map_cons,List.all_cons,h3,qC,List.map_cons,h5];refine ⟨by simp [prP,eR,hk,fO],⟨by simp [prP,sok,soks],h4⟩,?_⟩;rfl
def xU {ks:List Nat} (h:ks.Pairwise (· < ·)):rT (ks.map fun (k:Nat)=>(k:Int))=true:=by
 unfold rT;rw [List.all_eq_true];intro i hi;have hi':i+1 < ks.length:=by
  have:=List.mem_range.mp hi;simp at this;omega
 have:=List.pairwise_iff_getElem.mp h i (i+1) (by omega) hi' (by omega);simp [List.getD,hi',show i < ks.length by omega];omega
def aL4 {ps:List (Nat×Int)} (h0:ps≠[]) (h1:(ps.map (·.1)).Pairwise (· < ·)) (h2:∀ p∈ps,p.1 < 8) (h3:ps.length<=8) :
  cU (.tuple [.str "lay",.tuple (ps.map prP)])=false/\gB (.tuple [.str "lay",.tuple (ps.map prP)])=true/\sok (.tuple [.str "lay",.tuple (ps.map prP)])=true:=by
 obtain ⟨q1,q2,q3⟩:=lF h2;have hd:eQ (.tuple [.str "lay",.tuple (ps.map prP)])=false:=by
  unfold eQ;simp
 have hc:cU (.tuple [.str "lay",.tuple (ps.map prP)])=false:=by simp [cU,hd,bS,bK7,eP]
 refine ⟨hc,?_,by simp [sok,soks,bK9,q2];omega⟩;have hr:=xU h1;rw [List.map_map] at hr;have he:(ps.map prP).isEmpty=false:=by simpa using h0
 simp only [gB,hc,kA,q1,q3,he];have e:(List.map (fun p:Nat×Int=>(p.1:Int)) ps)=List.map ((fun k:Nat=>(k:Int)) ∘ fun x=>x.1) ps:=rfl;rw [e,hr];simp
end SJ

namespace SJ
open PySem
set_option genInjectivity true in
inductive An1 where
 | got (v:Int) | dn | yes | no
def An1.dat:An1->PyData
 | .got v=>.tuple [.str "got",.int v]
 | .dn=>.tuple [.str "done"]
 | .yes=>.tuple [.str "yes"]
 | .no=>.tuple [.str "no"]
def An1.fits:One->An1->Prop
 | .read _,.got _=>True
 | .add _ _,.got _=>True
 | .write _ _,.dn=>True
 | .swap _ _ _,.yes=>True
 | .swap _ _ _,.no=>True
 | _,_=>False
set_option genInjectivity true in
inductive Ans where
 | one (a:An1) | all (ns:List Int) | each (as:List An1)
def Ans.dat:Ans->PyData
 | .one a=>a.dat
 | .all ns=>.tuple [.str "all",.tuple (ns.map .int)]
 | .each as=>.tuple [.str "each",.tuple (as.map An1.dat)]
set_option genInjectivity true in
inductive Fit2:List One->List An1->Prop
 | nil:Fit2 [] []
 | cons {o:One} {a:An1} {os:List One} {as:List An1} (h:An1.fits o a) (t:Fit2 os as):Fit2 (o::os) (a::as)
def Ans.fits:Call->Ans->Prop
 | .one o,.one a=>An1.fits o a
 | .span lo hi,.all ns=>ns.length=hi - lo
 | .deal cs,.each as=>Fit2 cs as
 | _,_=>False
def dP (o:One) (t:PyData):Bool:=match o with
 | .read _=>(match t with
  | .tuple [.str s,v]=>(s==Str.ofString "got")&&fO v
  | _=>false)
 | .add _ _=>(match t with
  | .tuple [.str s,v]=>(s==Str.ofString "got")&&fO v
  | _=>false)
 | .write _ _=>aK t "done" 1
 | .swap _ _ _=>aK t "yes" 1||aK t "no" 1
def fW:List One->List PyData->Bool
 | o::os,t::ts=>dP o t&&fW os ts
 | _,_=>true
def bM (c:Call) (t:PyData):Bool:=match c with
 | .one o=>dP o t
 | .span lo hi=>(match t with
  | .tuple [.str s,.tuple xs]=>(s==Str.ofString "all")&&decide ((xs.length:Int)=(hi:Int) - lo)&&xs.all fO
  | _=>false)
 | .deal cs=>(match t with
  | .tuple [.str s,.tuple xs]=>(s==Str.ofString "each")&&decide (xs.length=cs.length)&&fW cs xs
  | _=>false)
theorem Fit2.length:∀ {os:List One} {as:List An1},Fit2 os as->as.length=os.length
 | _,_,.nil=>rfl
 | _,_,.cons _ t=>by simp [t.length]
def tZ {o:One} {a:An1} (h:An1.fits o a):dP o a.dat=true:=by
 cases o<;>cases a<;>first | exact False.elim h | rfl
theorem qD:∀ {os:List One} {as:List An1},Fit2 os as->fW os (as.map An1.dat)=true
 | _,_,.nil=>rfl
 | _,_,.cons h t=>by simp [fW,tZ h,qD t]
def aA6 {c:Call} {a:Ans} (h:Ans.fits c a) (hc:c.ok):bM c a.dat=true:=by
 cases c<;>cases a<;>first | exact False.elim h | skip
 ·exact tZ h
 ·rename_i lo hi ns;have:=hc.1
  replace h:ns.length=hi - lo:=h
  simp [bM,Ans.dat,h,fO];omega
 ·rename_i cs as
  replace h:Fit2 cs as:=h
  simp [bM,Ans.dat,qD h,h.length]
end SJ

noncomputable section
namespace K24
open PySem PySem.Spec PyProof.Rows L2 DL CI SJ
noncomputable def body:List Stmt:=PySem.Challenge.pw_storejudge_k24_the_fault_of_a_list.main.body
noncomputable def cv (x:Str):List Str:=if x="_law_problem" then ["_law_state"] else if x="_law_items" then ["_law_options","_law_items_here"] else if x="_law_pairs" then ["_law_pairs_here"] else if x="_law_triples" then ["_law_triples_here"] else if x="deal_done" then ["answers"] else if x="nodes_behind" then ["pairs"] else if x="marked" then ["return"] else if x="_law_nexts" then ["_law_found"] else if x="_law_nodes" then ["_law_nodes_here"] else if x="_law_bad" then ["_law_found"] else if x="law" then ["_law_state","_law_spoiled"] else []
noncomputable def wf (x:Str):Bool:=decide (x="ways_of")||decide (x="marked")
def methOf (m:Str):Option Stmt:=body.findSome? fun s=>match s with
 | .ClassDef n _ _ b _ _ _ _ _ _ _=>if n="Ways" then b.find? (aJ8 m) else none
 | _=>none
def ini (x:Str):Option (Addr×Stmt):=if x="Ways" then (methOf "__init__").map fun s=>(280,s) else none
def mt (x:Str):Option (Addr×Stmt):=if x="stand_behind" then (methOf "stand_behind").map fun s=>(280,s) else if x="may_follow" then (methOf "may_follow").map fun s=>(280,s) else if x="followers" then (methOf "followers").map fun s=>(280,s) else if x="missing" then (methOf "missing").map fun s=>(280,s) else none
noncomputable def fo (C:Addr) (f:Str):Bool:=decide (C=280)&&(["first","listed","musts","ahead","later","gaps"]:List Str).contains f
def T:Top:=bW7 body (fun _=>[]) cv 100000 60 wf ini mt fo
end K24

namespace K24
open PySem PySem.Spec PyProof.Rows L2 DL CI
noncomputable def YE:Fl×aA->Option (Fl×aA):=fun p=>match p.1 with
  | Fl.nx δ'=>some (Fl.nx δ',p.2)
  | f=>some (f,p.2)
def YN:W->XR (List W):=fun w=>xb (aD []) fun ws=>aD (w::ws)
@[simp] theorem cS5 :YN=fun w=>xb (aD []) fun ws=>aD (w::ws):=rfl
def YC (w:W):List W->XR (List W):=fun ws=>aD (w::ws)
@[simp] theorem cS6 (w:W):YC w=fun ws=>aD (w::ws):=rfl
def YF (d:Nat) (s:String):List W->XR W:=fun ws x h=>Option.bind (aE T d (Str.ofString s) ws h) fun p=>some (W.d p.1,p.2)
@[simp] theorem cS7 (d:Nat) (s:String):YF d s=fun ws x h=>Option.bind (aE T d (Str.ofString s) ws h) fun p=>some (W.d p.1,p.2):=rfl
def YI (n:Int):W->XR W:=fun x=>xb (aD (W.d (PyData.int n))) fun y x_1 h=>xIx x y h
@[simp] theorem cS8 (n:Int):YI n=fun x=>xb (aD (W.d (PyData.int n))) fun y x_1 h=>xIx x y h:=rfl
def YB (o:Operator) (n:Int):W->XR W:=fun u=>xb (aD (W.d (PyData.int n))) fun w x h=>dA o u w h
@[simp] theorem cS9 (o:Operator) (n:Int):YB o n=fun u=>xb (aD (W.d (PyData.int n))) fun w x h=>dA o u w h:=rfl
def YO (o:Operator) (u:W):W->XR W:=fun w x h=>dA o u w h
@[simp] theorem cT0 (o:Operator) (u:W):YO o u=fun w x h=>dA o u w h:=rfl
def YT:List PyData->XR W:=fun xs=>aD (W.d (PyData.tuple xs))
@[simp] theorem cT1 :YT=fun xs=>aD (W.d (PyData.tuple xs)):=rfl
noncomputable def YW:W×aA->Option (Fl×aA):=fun p=>some (Fl.rt p.1,p.2)
@[simp] theorem cT2 :YW=fun p=>some (Fl.rt p.1,p.2):=rfl
def YS (s:String):XR W:=aD (W.d (PyData.str (Str.ofString s)))
@[simp] theorem cT3 (s:String):YS s=aD (W.d (PyData.str (Str.ofString s))):=rfl
def YJ (n:Int):XR W:=aD (W.d (PyData.int n))
@[simp] theorem cT4 (n:Int):YJ n=aD (W.d (PyData.int n)):=rfl
noncomputable def YK (f:List W->aA->Option (W×aA)):List W->XR W:=fun ws x h=>f ws h
@[simp] theorem cT5 (f:List W->aA->Option (W×aA)):YK f=fun ws x h=>f ws h:=rfl
noncomputable def YQ (k:DSt->Fl×aA->Option (Fl×aA)):Fl×aA->Option (Fl×aA):=fun p=>match p.1 with
  | Fl.nx δ'=>k δ' p
  | f=>some (f,p.2)
noncomputable def YP {α β:Type} (x:Option α) (f:α->Option β):Option β:=Option.bind x f
@[simp] theorem cT6 {α β:Type} (x:Option α) (f:α->Option β):YP x f=Option.bind x f:=rfl
noncomputable def YG (i:Nat):XG:=fun w δ h=>some (List.set δ i (some w),h)
@[simp] theorem cO1 (i:Nat):YG i=fun w δ h=>some (List.set δ i (some w),h):=rfl
def YZ:XR W:=aD (W.d PyData.none)
@[simp] theorem cT7:YZ=aD (W.d PyData.none):=rfl
def YV (i:Nat) (n:Int):XR W:=xb (aB i) (YI n)
@[simp] theorem cT8 (i:Nat) (n:Int):YV i n=xb (aB i) (YI n):=rfl
def YL (s:String):W->XR W:=fun w x h=>match w with
  | W.c j=>match h[j]? with
    | some (Cell.o C fs)=>if Top.fo T C (Str.ofString s)=true then Option.map (fun (w:W)=>(w,h)) (List.lookup (Str.ofString s) fs) else none
    | x=>none
  | x=>none
@[simp] theorem cT9 (s:String):YL s=fun w x h=>match w with
  | W.c j=>match h[j]? with
    | some (Cell.o C fs)=>if Top.fo T C (Str.ofString s)=true then Option.map (fun (w:W)=>(w,h)) (List.lookup (Str.ofString s) fs) else none
    | x=>none
  | x=>none:=rfl
def YM (s:String) (δ:DSt) (v:W):W×aA->Option (Fl×aA):=fun q=>match q.1 with
  | W.c j=>match (q.2)[j]? with
    | some (Cell.o C fs)=>if Top.fo T C (Str.ofString s)=true/\List.length fs < 1000 then some (Fl.nx δ,List.set (q.2) j (Cell.o C (fF (Str.ofString s) v fs))) else none
    | x=>none
  | x=>none
@[simp] theorem cU0 (s:String) (δ:DSt) (v:W):YM s δ v=fun q=>match q.1 with
  | W.c j=>match (q.2)[j]? with
    | some (Cell.o C fs)=>if Top.fo T C (Str.ofString s)=true/\List.length fs < 1000 then some (Fl.nx δ,List.set (q.2) j (Cell.o C (fF (Str.ofString s) v fs))) else none
    | x=>none
  | x=>none:=rfl
def YA (e:XR (List W)):W->XR W:=fun w δ h=>if gJ (Str.ofString "append") w h=true then Option.bind (e δ h) fun p=>zG w p.1 p.2 else none
@[simp] theorem cU1 (e:XR (List W)):YA e=fun w δ h=>if gJ (Str.ofString "append") w h=true then Option.bind (e δ h) fun p=>zG w p.1 p.2 else none:=rfl
def YR :W->XR (List PyData×Cw):=fun w x h=>match w with
  | W.d (PyData.int j)=>if fN 0 j=true then some ((rng 0 (Int.toNat j),none),h) else none
  | x=>none
@[simp] theorem cU2 :YR =fun w x h=>match w with
  | W.d (PyData.int j)=>if fN 0 j=true then some ((rng 0 (Int.toNat j),none),h) else none
  | x=>none:=rfl
def YD :W->XR Bool:=fun w=>match w with
  | W.d (PyData.bool b)=>aD b
  | x=>xno
@[simp] theorem cU3 :YD =fun w=>match w with
  | W.d (PyData.bool b)=>aD b
  | x=>xno:=rfl
def YU :W->XR (Option Int):=fun w=>match w with
  | W.d (PyData.int i)=>aD (some i)
  | x=>xno
@[simp] theorem cU4 :YU =fun w=>match w with
  | W.d (PyData.int i)=>aD (some i)
  | x=>xno:=rfl
def YH (d:Nat) (s:String) (e:XR (List W)):W->XR W:=fun w δ h=>match w with
  | W.c j=>match h[j]? with
    | some (Cell.o C' fs)=>if C'=280/\List.lookup (Str.ofString s) fs=none then Option.bind (e δ h) fun p=>callM T d (Str.ofString s) (W.c j::p.1) p.2 else none
    | x=>none
  | x=>none
@[simp] theorem cU5 (d:Nat) (s:String) (e:XR (List W)):YH d s e=fun w δ h=>match w with
  | W.c j=>match h[j]? with
    | some (Cell.o C' fs)=>if C'=280/\List.lookup (Str.ofString s) fs=none then Option.bind (e δ h) fun p=>callM T d (Str.ofString s) (W.c j::p.1) p.2 else none
    | x=>none
  | x=>none:=rfl
def YX (x:W):W->XR W:=fun y _ h=>xIx x y h
@[simp] theorem cU6 (x:W):YX x=fun y _ h=>xIx x y h:=rfl
def YS3 (x:W) (l:Option Int):Option Int->XR W:=fun u _ h=>xSl x l u h
@[simp] theorem cQ8 (x:W) (l:Option Int):YS3 x l=fun u _ h=>xSl x l u h:=rfl
def YT2 (b:Bool) (δ:DSt):Bool×aA->Option (Fl×aA):=fun p=>if p.1=true then YP (YP (aD (W.d (PyData.bool b)) δ p.2) YW) YE else some (Fl.nx δ,p.2)
@[simp] theorem cQ9 (b:Bool) (δ:DSt):YT2 b δ=fun p=>if p.1=true then YP (YP (aD (W.d (PyData.bool b)) δ p.2) YW) YE else some (Fl.nx δ,p.2):=rfl
def YI2 (s:String):W->XR W:=fun w x h=>Option.bind (ref h w) fun d=>some (W.d (PyData.bool (isi d s)),h)
@[simp] theorem cR0 (s:String):YI2 s=fun w x h=>Option.bind (ref h w) fun d=>some (W.d (PyData.bool (isi d s)),h):=rfl
def YNg :W->XR W:=fun w=>match w with
  | W.d (PyData.int i)=>aD (W.d (PyData.int (-i)))
  | x=>xno
@[simp] theorem cR1 :YNg =fun w=>match w with
  | W.d (PyData.int i)=>aD (W.d (PyData.int (-i)))
  | x=>xno:=rfl
def Y1 (a:XR W):XR (List W):=xb a YN
@[simp] theorem cU7 (a:XR W):Y1 a=xb a YN:=rfl
def Y2 (a b:XR W):XR (List W):=xb a fun w=>xb (Y1 b) (YC w)
@[simp] theorem cU8 (a b:XR W):Y2 a b=xb a fun w=>xb (Y1 b) (YC w):=rfl
def Y3 (a b c:XR W):XR (List W):=xb a fun w=>xb (Y2 b c) (YC w)
@[simp] theorem cU9 (a b c:XR W):Y3 a b c=xb a fun w=>xb (Y2 b c) (YC w):=rfl
def Y4 (a b c e:XR W):XR (List W):=xb a fun w=>xb (Y3 b c e) (YC w)
@[simp] theorem cV0 (a b c e:XR W):Y4 a b c e=xb a fun w=>xb (Y3 b c e) (YC w):=rfl
def Y5 (a b c e f:XR W):XR (List W):=xb a fun w=>xb (Y4 b c e f) (YC w)
@[simp] theorem cV1 (a b c e f:XR W):Y5 a b c e f=xb a fun w=>xb (Y4 b c e f) (YC w):=rfl
def Y6 (a b c e f g:XR W):XR (List W):=xb a fun w=>xb (Y5 b c e f g) (YC w)
@[simp] theorem cV2 (a b c e f g:XR W):Y6 a b c e f g=xb a fun w=>xb (Y5 b c e f g) (YC w):=rfl
def Y7 (a b c e f g i:XR W):XR (List W):=xb a fun w=>xb (Y6 b c e f g i) (YC w)
@[simp] theorem cV3 (a b c e f g i:XR W):Y7 a b c e f g i=xb a fun w=>xb (Y6 b c e f g i) (YC w):=rfl
def vX (d:Nat) (w0:W) (h:aA):aE T (d+1) "is_whole" [w0] h =
 YP
 (YP
 (YP
 (xb (xb (aB 0) (YI2 "int"))
 (fun (w:W) =>
 match w with
     | W.d (PyData.bool true) =>
      xb (xb (aB 0) (YI2 "bool")) fun (w:W) =>
 match w with
       | W.d (PyData.bool b)=>aD (W.d (PyData.bool !b))
       | x=>xno
     | W.d (PyData.bool false)=>aD (W.d (PyData.bool false))
     | x=>xno)
 [some w0] h)
 YW)
 YE)
 (aR h):=by kernel_rfl
def rU (d:Nat) (w0 w1 w2:W) (h:aA):aE T (d+1) "is_between" [w0,w1,w2] h =
 YP
 (YP
 (YP
 (xb (xb (Y1 (aB 0)) (YF d "is_whole"))
 (fun (w:W) =>
 match w with
     | W.d (PyData.bool true)=>cT (xC2 CmpOp.LtE CmpOp.LtE (aB 1) (aB 0) (aB 2))
     | W.d (PyData.bool false)=>aD (W.d (PyData.bool false))
     | x=>xno)
 [some w0,some w1,some w2] h)
 YW)
 YE)
 (aR h):=by kernel_rfl
def oX (d:Nat) (w0 w1:W) (h:aA):aE T (d+1) "is_tuple_of" [w0,w1] h =
 YP
 (YP
 (YP
 (xb (xb (aB 0) (YI2 "tuple"))
 (fun (w:W) =>
 match w with
     | W.d (PyData.bool true)=>cT (xC1 CmpOp.Eq (xb (Y1 (aB 0)) (YK bJ)) (aB 1))
     | W.d (PyData.bool false)=>aD (W.d (PyData.bool false))
     | x=>xno)
 [some w0,some w1] h)
 YW)
 YE)
 (aR h):=by kernel_rfl
def uA (d:Nat) (w0:W) (h:aA):aE T (d+1) "are_whole" [w0] h =
 YP
 (YP (YP (xb (Y1 (aJ (xb (aZ (aB 0)) fun p δ h=>aQ (YG 0) (aD true) (xb (Y1 (aB 0)) (YF d "is_whole")) p.2 p.1 p.1 (aY [none] δ) h []))) (YK iY) [some w0] h) YW) YE)
 (aR h):=by kernel_rfl
def rV (d:Nat) (w0:W) (h:aA):aE T (d+1) "are_rising" [w0] h =
 YP
 (YP
 (YP
 (xb
 (Y1 (aJ
 (xb
 (xb (xb (xb (Y1 (aB 0)) (YK bJ)) (YB .Sub 1)) YR)
 fun p δ h=>aQ (YG 0) (aD true) (cT (xC1 CmpOp.Lt (xb (aB 1) fun x=>xb (aB 0) (YX x)) (xb (aB 1) fun x=>xb (xb (aB 0) (YB .Add 1)) (YX x)))) p.2 p.1 p.1 (aY [none,some 0] δ) h [])))
 (YK iY) [some w0] h)
 YW)
 YE)
 (aR h):=by kernel_rfl
def aL5 (d:Nat) (w0:W) (h:aA):aE T (d+1) "is_key" [w0] h =
 YP
 (YP (YP (xb (Y3 (aB 0) (YJ 0) (YJ 7)) ((YF d "is_between")) [some w0] h) YW) YE)
 (aR h):=by kernel_rfl
def iN (d:Nat) (w0:W) (h:aA):aE T (d+1) "word_of" [w0] h =
 YP
 (YP
 (YP
 (xb
 (xb (xb (aB 0) (YI2 "tuple")) YD)
 (fun c =>
 if c=true then
 xb (xC1 CmpOp.Gt (xb (Y1 (aB 0)) (YK bJ)) (YJ 0)) fun c =>
 if c=true then
 xb (xb (YV 0 0) (YI2 "str")) YD
 else aD false
 else aD false)
 [some w0] h)
 fun p =>
 if p.1=true then
 YP (YP (xb (aB 0) (YI 0) [some w0] p.2) YW) YE
 else some (Fl.nx [some w0],p.2))
 (YQ fun δ' p =>
 YP (YP (YZ δ' p.2) YW) YE))
 (aR h):=by kernel_rfl
def uB (d:Nat) (w0 w1 w2:W) (h:aA):aE T (d+1) "is_worded" [w0,w1,w2] h =
 YP
 (YP
 (YP
 (xb (cT (xC1 CmpOp.Eq (xb (Y1 (aB 0)) (YF d "word_of")) (aB 1)))
 (fun (w:W) =>
 match w with
     | W.d (PyData.bool true)=>cT (xC1 CmpOp.Eq (xb (Y1 (aB 0)) (YK bJ)) (aB 2))
     | W.d (PyData.bool false)=>aD (W.d (PyData.bool false))
     | x=>xno)
 [some w0,some w1,some w2] h)
 YW)
 YE)
 (aR h):=by kernel_rfl
def uC (d:Nat) (w0:W) (h:aA):aE T (d+1) "is_single" [w0] h =
 YP
 (YP (aS 1 (xb (Y1 (aB 0)) (YF d "word_of")) [some w0,none] h) (YQ fun δ' p =>
   YP
    (YP
     (xb (lU (fun (z:Str)=>List.lookup z [(Str.ofString "read",0),(Str.ofString "write",1),(Str.ofString "add",1),(Str.ofString "swap",2)]) (aB 1))
      (fun c =>
       if c=true then aD true
       else
        xC1 CmpOp.NotEq (xb (Y1 (aB 0)) (YK bJ))
         (xb (YJ 2) fun (u:W) =>
          xb
           (xb (aB 1) fun (w:W) =>
            match w with
            | W.d (PyData.str z) =>
             match List.lookup z [(Str.ofString "read",0),(Str.ofString "write",1),(Str.ofString "add",1),(Str.ofString "swap",2)] with
             | some i=>aD (W.d (PyData.int i))
             | none=>xno
            | x=>xno)
           (YO .Add u)))
      δ' p.2)
     (YT2 false δ'))
    (YQ fun δ' p =>
     YP
      (YP
       (xb (xb (Y1 (YV 0 1)) (YF d "is_key"))
        (fun (w:W) =>
         match w with
         | W.d (PyData.bool true) =>
          xb
           (Y1 (xb (aB 0) fun (x:W) =>
             xb
              (xb (YJ 2) YU)
              fun (l:Option Int)=>xb (aD none) (YS3 x l)))
           (YF d "are_whole")
         | W.d (PyData.bool false)=>aD (W.d (PyData.bool false))
         | x=>xno)
        δ' p.2)
       YW)
      YE)))
 (aR h):=by kernel_rfl
def aA7 (d:Nat) (w0:W) (h:aA):aE T (d+1) "is_span" [w0] h =
 YP
 (YP
 (YP
 (xb
 (xb
 (xb (xb (Y3 (aB 0) (YS "span") (YJ 3)) (YF d "is_worded")) YD)
 fun (b:Bool)=>aD !b)
 (fun c =>
 if c=true then aD true
 else
 xb
 (xb
 (xb
 (Y1 (xb (aB 0) fun (x:W) =>
 xb
 (xb (YJ 1) YU)
 fun (l:Option Int)=>xb (aD none) (YS3 x l)))
 (YF d "are_whole"))
 YD)
 fun (b:Bool)=>aD !b)
 [some w0] h)
 (YT2 false [some w0]))
 (YQ fun δ' p =>
 YP (YP (cT (xC3 CmpOp.LtE CmpOp.Lt CmpOp.LtE (YJ 0) (YV 0 1) (YV 0 2) (xb (YJ 7) (YB .Add 1))) δ' p.2) YW) YE))
 (aR h):=by kernel_rfl
def aA8 (d:Nat) (w0:W) (h:aA):aE T (d+1) "is_deal" [w0] h =
 YP
 (YP
 (YP
 (xb
 (xb
 (xb (xb (Y3 (aB 0) (YS "deal") (YJ 2)) (YF d "is_worded")) YD)
 fun (b:Bool)=>aD !b)
 (fun c =>
 if c=true then aD true
 else
 xb
 (xb (xb (YV 0 1) (YI2 "tuple")) YD)
 fun (b:Bool)=>aD !b)
 [some w0] h)
 (YT2 false [some w0]))
 (YQ fun δ' p =>
 YP
 (YP
 (xb (cT (xC2 CmpOp.LtE CmpOp.LtE (YJ 1) (xb (Y1 (YV 0 1)) (YK bJ)) (YJ 4)))
 (fun (w:W) =>
 match w with
       | W.d (PyData.bool true)=>xb (Y1 (aJ (xb (aZ (YV 0 1)) fun p δ h=>aQ (YG 0) (aD true) (xb (Y1 (aB 0)) (YF d "is_single")) p.2 p.1 p.1 (aY [none] δ) h []))) (YK iY)
       | W.d (PyData.bool false)=>aD (W.d (PyData.bool false))
       | x=>xno)
 δ' p.2)
 YW)
 YE))
 (aR h):=by kernel_rfl
def aA9 (d:Nat) (w0:W) (h:aA):aE T (d+1) "is_call" [w0] h =
 YP
 (YP
 (YP
 (xb (xb (Y1 (aB 0)) (YF d "is_single"))
 (fun (w:W) =>
 match w with
     | W.d (PyData.bool true)=>aD (W.d (PyData.bool true))
     | W.d (PyData.bool false) =>
      xb (xb (Y1 (aB 0)) (YF d "is_span")) fun (w:W) =>
 match w with
       | W.d (PyData.bool true)=>aD (W.d (PyData.bool true))
       | W.d (PyData.bool false)=>xb (Y1 (aB 0)) (YF d "is_deal")
       | x=>xno
     | x=>xno)
 [some w0] h)
 YW)
 YE)
 (aR h):=by kernel_rfl
def aB0 (d:Nat) (w0:W) (h:aA):aE T (d+1) "is_look" [w0] h =
 YP
 (YP
 (YP
 (xb (xb (Y3 (aB 0) (YS "look") (YJ 2)) (YF d "is_worded"))
 (fun (w:W) =>
 match w with
     | W.d (PyData.bool true)=>xb (Y1 (YV 0 1)) (YF d "is_call")
     | W.d (PyData.bool false)=>aD (W.d (PyData.bool false))
     | x=>xno)
 [some w0] h)
 YW)
 YE)
 (aR h):=by kernel_rfl
def mP (d:Nat) (w0:W) (h:aA):aE T (d+1) "is_value_pair" [w0] h =
 YP
 (YP
 (YP
 (xb (xb (Y2 (aB 0) (YJ 2)) (YF d "is_tuple_of"))
 (fun (w:W) =>
 match w with
     | W.d (PyData.bool true) =>
      xb (xb (Y1 (YV 0 0)) (YF d "is_key")) fun (w:W) =>
 match w with
       | W.d (PyData.bool true)=>xb (Y1 (YV 0 1)) (YF d "is_whole")
       | W.d (PyData.bool false)=>aD (W.d (PyData.bool false))
       | x=>xno
     | W.d (PyData.bool false)=>aD (W.d (PyData.bool false))
     | x=>xno)
 [some w0] h)
 YW)
 YE)
 (aR h):=by kernel_rfl
def aL6 (d:Nat) (w0:W) (h:aA):aE T (d+1) "is_lay" [w0] h =
 YP
 (YP
 (YP
 (xb
 (xb
 (xb (xb (Y3 (aB 0) (YS "lay") (YJ 2)) (YF d "is_worded")) YD)
 fun (b:Bool)=>aD !b)
 (fun c =>
 if c=true then aD true
 else
 xb
 (xb
 (xb (xb (YV 0 1) (YI2 "tuple")) YD)
 fun (b:Bool)=>aD !b)
 fun c=>if c=true then aD true else xC1 CmpOp.Eq (xb (Y1 (YV 0 1)) (YK bJ)) (YJ 0))
 [some w0] h)
 (YT2 false [some w0]))
 (YQ fun δ' p =>
 YP
 (YP
 (xb
 (xb (xb (Y1 (aJ (xb (aZ (YV 0 1)) fun p δ h=>aQ (YG 0) (aD true) (xb (Y1 (aB 0)) (YF d "is_value_pair")) p.2 p.1 p.1 (aY [none] δ) h []))) (YK iY)) YD)
 (fun (b:Bool)=>aD !b) δ' p.2)
 (YT2 false δ'))
 (YQ fun δ' p =>
 YP (YP (xb (Y1 (aJ (xb (aZ (YV 0 1)) fun p δ h=>aQ (YG 0) (aD true) (YV 0 0) p.2 p.1 p.1 (aY [none] δ) h []))) ((YF d "are_rising")) δ' p.2) YW) YE)))
 (aR h):=by kernel_rfl
def aB1 (d:Nat) (w0:W) (h:aA):aE T (d+1) "is_step" [w0] h =
 YP
 (YP
 (YP
 (xb (xb (Y1 (aB 0)) (YF d "is_call"))
 (fun (w:W) =>
 match w with
     | W.d (PyData.bool true)=>aD (W.d (PyData.bool true))
     | W.d (PyData.bool false) =>
      xb (xb (Y1 (aB 0)) (YF d "is_look")) fun (w:W) =>
 match w with
       | W.d (PyData.bool true)=>aD (W.d (PyData.bool true))
       | W.d (PyData.bool false)=>xb (Y1 (aB 0)) (YF d "is_lay")
       | x=>xno
     | x=>xno)
 [some w0] h)
 YW)
 YE)
 (aR h):=by kernel_rfl
def iG (d:Nat) (w0 w1:W) (h:aA):aE T (d+1) "is_answer" [w0,w1] h =
 YP
 (YP
 (YP
 (xb
 (xb (xb (Y1 (aB 0)) (YF d "is_step")) YD)
 (fun (b:Bool)=>aD !b) [some w0,some w1] h)
 (YT2 false [some w0,some w1]))
 (YQ fun δ' p =>
 YP
 (YP
 (xb (xb (Y3 (aB 1) (YS "refused") (YJ 1)) (YF d "is_worded"))
 (YD)
 δ' p.2)
 fun p =>
 if p.1=true then
 YP (YP (xb (Y1 (aB 0)) ((YF d "is_call")) δ' p.2) YW) YE
 else some (Fl.nx δ',p.2))
 (YQ fun δ' p =>
 YP (YP (xb (Y2 (aB 0) (aB 1)) ((YF d "is_own_answer")) δ' p.2) YW) YE)))
 (aR h):=by kernel_rfl
def bG (d:Nat) (w0 w1:W) (h:aA):aE T (d+1) "is_own_answer" [w0,w1] h =
 YP
 (YP (aS 2 (YV 0 0) [some w0,some w1,none] h) (YQ fun δ' p =>
 YP
 (YP (xC1 CmpOp.In (aB 2) (xb (xPl (Y2 (YS "read") (YS "add"))) YT) δ' p.2) fun p =>
 if p.1=true then
 YP
 (YP
 (xb (xb (Y3 (aB 1) (YS "got") (YJ 2)) (YF d "is_worded"))
 (fun (w:W) =>
 match w with
          | W.d (PyData.bool true)=>xb (Y1 (YV 1 1)) (YF d "is_whole")
          | W.d (PyData.bool false)=>aD (W.d (PyData.bool false))
          | x=>xno)
 δ' p.2)
 YW)
 YE
 else some (Fl.nx δ',p.2))
 (YQ fun δ' p =>
 YP
 (YP (xC1 CmpOp.In (aB 2) (xb (xPl (Y2 (YS "write") (YS "lay"))) YT) δ' p.2) fun p =>
 if p.1=true then
 YP (YP (xb (Y3 (aB 1) (YS "done") (YJ 1)) ((YF d "is_worded")) δ' p.2) YW) YE
 else some (Fl.nx δ',p.2))
 (YQ fun δ' p =>
 YP
 (YP (xC1 CmpOp.Eq (aB 2) (YS "swap") δ' p.2) fun p =>
 if p.1=true then
 YP
 (YP
 (xb (xb (Y3 (aB 1) (YS "yes") (YJ 1)) (YF d "is_worded"))
 (fun (w:W) =>
 match w with
              | W.d (PyData.bool true)=>aD (W.d (PyData.bool true))
              | W.d (PyData.bool false)=>xb (Y3 (aB 1) (YS "no") (YJ 1)) (YF d "is_worded")
              | x=>xno)
 δ' p.2)
 YW)
 YE
 else some (Fl.nx δ',p.2))
 (YQ fun δ' p =>
 YP
 (YP (xC1 CmpOp.Eq (aB 2) (YS "span") δ' p.2) fun p =>
 if p.1=true then
 YP
 (YP
 (xb (xb (Y3 (aB 1) (YS "all") (YJ 2)) (YF d "is_worded"))
 (fun (w:W) =>
 match w with
                | W.d (PyData.bool true) =>
                 xb (xb (Y2 (YV 1 1) (xb (YV 0 2) fun u=>xb (YV 0 1) (YO .Sub u))) (YF d "is_tuple_of")) fun (w:W) =>
 match w with
                  | W.d (PyData.bool true)=>xb (Y1 (YV 1 1)) (YF d "are_whole")
                  | W.d (PyData.bool false)=>aD (W.d (PyData.bool false))
                  | x=>xno
                | W.d (PyData.bool false)=>aD (W.d (PyData.bool false))
                | x=>xno)
 δ' p.2)
 YW)
 YE
 else some (Fl.nx δ',p.2))
 (YQ fun δ' p =>
 YP
 (YP (xC1 CmpOp.Eq (aB 2) (YS "look") δ' p.2) fun p =>
 if p.1=true then
 YP (YP (xb (Y2 (YV 0 1) (aB 1)) ((YF d "is_own_answer")) δ' p.2) YW) YE
 else some (Fl.nx δ',p.2))
 (YQ fun δ' p =>
 YP
 (YP
 (xb
 (xb
 (xb (xb (Y3 (aB 1) (YS "each") (YJ 2)) (YF d "is_worded")) YD)
 fun (b:Bool)=>aD !b)
 (fun c =>
 if c=true then aD true
 else
 xb
 (xb (xb (Y2 (YV 1 1) (xb (Y1 (YV 0 1)) (YK bJ))) (YF d "is_tuple_of")) YD)
 fun (b:Bool)=>aD !b)
 δ' p.2)
 (YT2 false δ'))
 (YQ fun δ' p =>
 YP
 (YP
 (xb
 (Y1 (aJ
 (xb
 (xb (YV 0 1) fun (u:W) =>
 xb (YV 1 1) fun (w:W) (x:DSt) (h:aA) =>
 match jJ u,jJ w with
                       | some xs,some ys=>some ((kT xs ys,none),h)
                       | x,x_1=>none)
 fun p δ h=>aQ (bK [YG 0,YG 1]) (aD true) (xb (Y2 (aB 0) (aB 1)) (YF d "is_own_answer")) p.2 p.1 p.1 (aY [none,none] δ) h [])))
 (YK iY) δ' p.2)
 YW)
 YE))))))))
 (aR h):=by kernel_rfl
def fH (d:Nat) (w0:W) (h:aA):aE T (d+1) "is_stand" [w0] h =
 YP
 (YP
 (YP
 (xb (xb (Y2 (aB 0) (xb (Y1 (aD (W.d (PyData.tuple (List.reverse [PyData.int 0,PyData.int 0,PyData.int 0,PyData.int 0,PyData.int 0,PyData.int 0,PyData.int 0,PyData.int 0]))))) (YK bJ))) (YF d "is_tuple_of"))
 (fun (w:W) =>
 match w with
     | W.d (PyData.bool true)=>xb (Y1 (aB 0)) (YF d "are_whole")
     | W.d (PyData.bool false)=>aD (W.d (PyData.bool false))
     | x=>xno)
 [some w0] h)
 YW)
 YE)
 (aR h):=by kernel_rfl
def rW (d:Nat) (w0 w1 w2:W) (h:aA):aE T (d+1) "with_value" [w0,w1,w2] h =
 YP
 (YP
 (YP
 (xb
 (xb
 (xb (aB 0) fun (x:W) =>
 xb (aD none) fun (l:Option Int) =>
 xb
 (xb (aB 1) YU)
 (YS3 x l))
 fun u=>xb (xb (xPl (Y1 (aB 2))) YT) (YO .Add u))
 (fun (u:W) =>
 xb
 (xb (aB 0) fun (x:W) =>
 xb
 (xb (xb (aB 1) (YB .Add 1)) YU)
 fun (l:Option Int)=>xb (aD none) (YS3 x l))
 (YO .Add u))
 [some w0,some w1,some w2] h)
 YW)
 YE)
 (aR h):=by kernel_rfl
def nY (d:Nat) (w0 w1:W) (h:aA):aE T (d+1) "done" [w0,w1] h =
 YP
 (YP (aS 2 (YV 1 0) [some w0,some w1,none] h) (YQ fun δ' p =>
 YP
 (YP (xC1 CmpOp.Eq (aB 2) (YS "span") δ' p.2) fun p =>
 if p.1=true then
 YP
 (YP
 (xb
 (xPl
 (Y2 (xb
 (xPl
 (Y2 (YS "all") (xb (aB 0) fun (x:W) =>
 xb
 (xb (YV 1 1) YU)
 fun (l:Option Int) =>
 xb
 (xb (YV 1 2) YU)
 (YS3 x l))))
 YT) (aB 0)))
 (YT) δ' p.2)
 YW)
 YE
 else some (Fl.nx δ',p.2))
 (YQ fun δ' p =>
 YP
 (YP (xC1 CmpOp.Eq (aB 2) (YS "deal") δ' p.2) fun p =>
 if p.1=true then
 YP (YP (xb (Y2 (aB 0) (YV 1 1)) ((YF d "deal_done")) δ' p.2) YW) YE
 else some (Fl.nx δ',p.2))
 (YQ fun δ' p =>
 YP
 (YP (xC1 CmpOp.Eq (aB 2) (YS "look") δ' p.2) fun p =>
 if p.1=true then
 YP (YP (xb (xPl (Y2 (xb (xb (Y2 (aB 0) (YV 1 1)) (YF d "done")) (YI 0)) (aB 0))) (YT) δ' p.2) YW) YE
 else some (Fl.nx δ',p.2))
 (YQ fun δ' p =>
 YP
 (YP (xC1 CmpOp.Eq (aB 2) (YS "lay") δ' p.2) fun p =>
 if p.1=true then
 YP (YP (xb (xPl (Y2 (xb (xPl (Y1 (YS "done"))) YT) (xb (Y2 (aB 0) (YV 1 1)) (YF d "laid")))) (YT) δ' p.2) YW) YE
 else some (Fl.nx δ',p.2))
 (YQ fun δ' p =>
 YP (YP (xb (Y2 (aB 0) (aB 1)) ((YF d "single_done")) δ' p.2) YW) YE))))))
 (aR h):=by kernel_rfl
def cZ (d:Nat) (w0 w1:W) (h:aA):aE T (d+1) "single_done" [w0,w1] h =
 YP
 (YP (aS 2 (YV 1 0) [some w0,some w1,none,none,none] h) (YQ fun δ' p =>
 YP (aS 3 (YV 1 1) δ' p.2) (YQ fun δ' p =>
 YP (aS 4 (xb (aB 0) fun x=>xb (aB 3) (YX x)) δ' p.2) (YQ fun δ' p =>
 YP
 (YP (xC1 CmpOp.Eq (aB 2) (YS "write") δ' p.2) fun p =>
 if p.1=true then
 YP (YP (xb (xPl (Y2 (xb (xPl (Y1 (YS "done"))) YT) (xb (Y3 (aB 0) (aB 3) (YV 1 2)) (YF d "with_value")))) (YT) δ' p.2) YW) YE
 else some (Fl.nx δ',p.2))
 (YQ fun δ' p =>
 YP
 (YP (xC1 CmpOp.Eq (aB 2) (YS "add") δ' p.2) fun p =>
 if p.1=true then
 YP (YP (xb (xPl (Y2 (xb (xPl (Y2 (YS "got") (xb (aB 4) fun u=>xb (YV 1 2) (YO .Add u)))) YT) (xb (Y3 (aB 0) (aB 3) (xb (aB 4) fun u=>xb (YV 1 2) (YO .Add u))) (YF d "with_value")))) (YT) δ' p.2) YW) YE
 else some (Fl.nx δ',p.2))
 (YQ fun δ' p =>
 YP
 (YP (xb (xC1 CmpOp.Eq (aB 2) (YS "swap")) (fun c=>if c=true then xC1 CmpOp.Eq (aB 4) (YV 1 2) else aD false) δ' p.2) fun p =>
 if p.1=true then
 YP (YP (xb (xPl (Y2 (xb (xPl (Y1 (YS "yes"))) YT) (xb (Y3 (aB 0) (aB 3) (YV 1 3)) (YF d "with_value")))) (YT) δ' p.2) YW) YE
 else some (Fl.nx δ',p.2))
 (YQ fun δ' p =>
 YP
 (YP (xC1 CmpOp.Eq (aB 2) (YS "swap") δ' p.2) fun p =>
 if p.1=true then
 YP (YP (xb (xPl (Y2 (xb (xPl (Y1 (YS "no"))) YT) (aB 0))) (YT) δ' p.2) YW) YE
 else some (Fl.nx δ',p.2))
 (YQ fun δ' p =>
 YP (YP (xb (xPl (Y2 (xb (xPl (Y2 (YS "got") (aB 4))) YT) (aB 0))) (YT) δ' p.2) YW) YE))))))))
 (aR h):=by kernel_rfl
@[simp] def lH (d:Nat) (x:DSt) (x_1:aA):Option (Fl×aA) :=
 YP (aS 4 (xb (Y2 (aB 0) (aB 3)) (YF d "single_done")) x x_1) (YQ fun δ' p =>
 YP (YP (xb (aB 2) ((YA (Y1 (YV 4 0)))) δ' p.2) fun p=>some (Fl.nx δ',p.2)) (YQ fun δ' p =>
 YP (aS 0 (YV 4 1) δ' p.2) YE))
def uD (d:Nat) (w0 w1:W) (h:aA):aE T (d+1) "deal_done" [w0,w1] h =
 YP
 (YP (aS 2 (bB (xPl (aD []))) [some w0,some w1,none,none,none] h) (YQ fun δ' p =>
 YP
 (YP (aZ (aB 1) δ' p.2) fun (p:(List PyData×Cw)×aA) =>
 aW (YG 3)
 (lH d)
 (Prod.snd p.1) (Prod.fst p.1) (Prod.fst p.1) δ' p.2)
 (YQ fun δ' p =>
 YP (YP (xb (xPl (Y2 (xb (xPl (Y2 (YS "each") (xb (Y1 (aB 2)) (YK bX)))) YT) (aB 0))) (YT) δ' p.2) YW) YE)))
 (aR h):=by kernel_rfl
def bL0 (d:Nat) (w0 w1:W) (h:aA):aE T (d+1) "laid" [w0,w1] h =
 YP
 (YP
 (YP (aZ (aB 1) [some w0,some w1,none,none] h) fun (p:(List PyData×Cw)×aA) =>
 aW (bK [YG 2,YG 3])
 (fun (x:DSt) (x_1:aA) =>
 YP (aS 0 (xb (Y3 (aB 0) (aB 2) (aB 3)) (YF d "with_value")) x x_1) YE)
 (Prod.snd p.1) (Prod.fst p.1) (Prod.fst p.1) [some w0,some w1,none,none] p.2)
 (YQ fun δ' p =>
 YP (YP (aB 0 δ' p.2) YW) YE))
 (aR h):=by kernel_rfl
def gG (d:Nat) (w0:W) (h:aA):aE T (d+1) "is_item" [w0] h =
 YP
 (YP
 (YP
 (xb
 (xb
 (xb (xb (Y2 (aB 0) (YJ 3)) (YF d "is_tuple_of")) YD)
 fun (b:Bool)=>aD !b)
 (fun c =>
 if c=true then aD true
 else
 xb
 (xb (xb (Y1 (YV 0 0)) (YF d "is_step")) YD)
 fun (b:Bool)=>aD !b)
 [some w0] h)
 (YT2 false [some w0]))
 (YQ fun δ' p =>
 YP
 (YP
 (xb (xC1 CmpOp.IsNot (YV 0 1) (YZ))
 (fun c =>
 if c=true then
 xb
 (xb (xb (Y2 (YV 0 0) (YV 0 1)) (YF d "is_answer")) YD)
 fun (b:Bool)=>aD !b
 else aD false)
 δ' p.2)
 (YT2 false δ'))
 (YQ fun δ' p =>
 YP
 (YP
 (xb (xb (YV 0 2) (YI2 "str"))
 (fun (w:W) =>
 match w with
         | W.d (PyData.bool true)=>cT (xC1 CmpOp.In (YV 0 2) (aD (W.d (PyData.tuple (List.reverse [PyData.str (Str.ofString "out"),PyData.str (Str.ofString "may"),PyData.str (Str.ofString "must")])))))
         | W.d (PyData.bool false)=>aD (W.d (PyData.bool false))
         | x=>xno)
 δ' p.2)
 YW)
 YE)))
 (aR h):=by kernel_rfl
def iH (d:Nat) (w0:W) (h:aA):aE T (d+1) "are_items" [w0] h =
 YP
 (YP
 (YP
 (xb (xb (aB 0) (YI2 "tuple"))
 (fun (w:W) =>
 match w with
     | W.d (PyData.bool true) =>
      xb (cT (xC1 CmpOp.LtE (xb (Y1 (aB 0)) (YK bJ)) (YJ 120))) fun (w:W) =>
 match w with
       | W.d (PyData.bool true)=>xb (Y1 (aJ (xb (aZ (aB 0)) fun p δ h=>aQ (YG 0) (aD true) (xb (Y1 (aB 0)) (YF d "is_item")) p.2 p.1 p.1 (aY [none] δ) h []))) (YK iY)
       | W.d (PyData.bool false)=>aD (W.d (PyData.bool false))
       | x=>xno
     | W.d (PyData.bool false)=>aD (W.d (PyData.bool false))
     | x=>xno)
 [some w0] h)
 YW)
 YE)
 (aR h):=by kernel_rfl
def iU (d:Nat) (w0 w1:W) (h:aA):aE T (d+1) "are_numbers" [w0,w1] h =
 YP
 (YP (YP (xb (Y1 (aJ (xb (aZ (aB 0)) fun p δ h=>aQ (YG 0) (aD true) (xb (Y3 (aB 0) (YJ 0) (xb (aB 1) (YB .Sub 1))) (YF d "is_between")) p.2 p.1 p.1 (aY [none,some 1] δ) h []))) (YK iY) [some w0,some w1] h) YW) YE)
 (aR h):=by kernel_rfl
def gN (d:Nat) (w0 w1 w2:W) (h:aA):aE T (d+1) "are_unlike" [w0,w1,w2] h =
 YP
 (YP
 (YP
 (xb (xb (Y2 (aB 0) (aB 1)) (YF d "is_tuple_of"))
 (fun (w:W) =>
 match w with
     | W.d (PyData.bool true) =>
      xb (xb (Y2 (aB 0) (aB 2)) (YF d "are_numbers")) fun (w:W) =>
 match w with
       | W.d (PyData.bool true)=>cT (xC1 CmpOp.Eq (xb (Y1 (aB 0)) fun (ws:List W) (x:DSt) (h:aA)=>xLS ws h) (aB 1))
       | W.d (PyData.bool false)=>aD (W.d (PyData.bool false))
       | x=>xno
     | W.d (PyData.bool false)=>aD (W.d (PyData.bool false))
     | x=>xno)
 [some w0,some w1,some w2] h)
 YW)
 YE)
 (aR h):=by kernel_rfl
def iI (d:Nat) (w0 w1:W) (h:aA):aE T (d+1) "are_pairs" [w0,w1] h =
 YP
 (YP
 (YP
 (xb
 (xb
 (xb (xb (aB 0) (YI2 "tuple")) YD)
 fun (b:Bool)=>aD !b)
 (fun c=>if c=true then aD true else xC1 CmpOp.Gt (xb (Y1 (aB 0)) (YK bJ)) (YJ 4000)) [some w0,some w1] h)
 (YT2 false [some w0,some w1]))
 (YQ fun δ' p =>
 YP (YP (xb (Y1 (aJ (xb (aZ (aB 0)) fun p δ h=>aQ (YG 0) (aD true) (xb (Y3 (aB 0) (YJ 2) (aB 1)) (YF d "are_unlike")) p.2 p.1 p.1 (aY [none,some 1] δ) h []))) (YK iY) δ' p.2) YW) YE))
 (aR h):=by kernel_rfl
def iV (d:Nat) (w0 w1:W) (h:aA):aE T (d+1) "are_triples" [w0,w1] h =
 YP
 (YP
 (YP
 (xb
 (xb
 (xb (xb (aB 0) (YI2 "tuple")) YD)
 fun (b:Bool)=>aD !b)
 (fun c=>if c=true then aD true else xC1 CmpOp.Gt (xb (Y1 (aB 0)) (YK bJ)) (YJ 4000)) [some w0,some w1] h)
 (YT2 false [some w0,some w1]))
 (YQ fun δ' p =>
 YP
 (YP
 (xb
 (xb (xb (Y1 (aJ (xb (aZ (aB 0)) fun p δ h=>aQ (YG 0) (aD true) (xb (Y3 (aB 0) (YJ 3) (xb (Y1 (aB 1)) (YK bJ))) (YF d "are_unlike")) p.2 p.1 p.1 (aY [none,some 1] δ) h []))) (YK iY)) YD)
 (fun (b:Bool)=>aD !b) δ' p.2)
 (YT2 false δ'))
 (YQ fun δ' p =>
 YP
 (YP
 (xb
 (Y1 (aJ
 (xb (aZ (aB 0)) fun p δ h =>
 aQ (bK [YG 0,YG 1,YG 2]) (aD true)
 (xb (cT (xC1 CmpOp.Eq (xb (xb (aB 3) fun x=>xb (aB 0) (YX x)) (YI 2)) (YS "must"))) fun (w:W) =>
 match w with
             | W.d (PyData.bool true)=>cT (xC1 CmpOp.Eq (xb (xb (aB 3) fun x=>xb (aB 1) (YX x)) (YI 2)) (YS "must"))
             | W.d (PyData.bool false)=>aD (W.d (PyData.bool false))
             | x=>xno)
 p.2 p.1 p.1 (aY [none,none,none,some 1] δ) h [])))
 (YK iY) δ' p.2)
 YW)
 YE)))
 (aR h):=by kernel_rfl
def cS (d:Nat) (w0:W) (h:aA):aE T (d+1) "is_problem" [w0] h =
 YP
 (YP
 (YP
 (xb
 (xb
 (xb (xb (Y2 (aB 0) (YJ 4)) (YF d "is_tuple_of")) YD)
 fun (b:Bool)=>aD !b)
 (fun c =>
 if c=true then aD true
 else
 xb
 (xb
 (xb (xb (Y1 (YV 0 0)) (YF d "is_stand")) YD)
 fun (b:Bool)=>aD !b)
 fun c =>
 if c=true then aD true
 else
 xb
 (xb (xb (Y1 (YV 0 1)) (YF d "are_items")) YD)
 fun (b:Bool)=>aD !b)
 [some w0] h)
 (YT2 false [some w0]))
 (YQ fun δ' p =>
 YP
 (YP
 (xb (xb (Y2 (YV 0 2) (xb (Y1 (YV 0 1)) (YK bJ))) (YF d "are_pairs"))
 (fun (w:W) =>
 match w with
       | W.d (PyData.bool true)=>xb (Y2 (YV 0 3) (YV 0 1)) (YF d "are_triples")
       | W.d (PyData.bool false)=>aD (W.d (PyData.bool false))
       | x=>xno)
 δ' p.2)
 YW)
 YE))
 (aR h):=by kernel_rfl
def mQ (d:Nat) (w0:W) (h:aA):aE T (d+1) "check_problem" [w0] h =
 YP
 (YP
 (YP
 (xb
 (xb (xb (Y1 (aB 0)) (YF d "is_problem")) YD)
 (fun (b:Bool)=>aD !b) [some w0] h)
 fun p =>
 if p.1=true then
 YP none YE
 else some (Fl.nx [some w0],p.2))
 YE)
 (aR h):=by kernel_rfl
def vY (d:Nat) (w0 w1:W) (h:aA):aE T (d+1) "may_come" [w0,w1] h =
 YP
 (YP
 (YP
 (xb (xb (Y1 (aB 0)) fun (ws:List W) (x:DSt) (h:aA)=>callW T d (Str.ofString "ways_of") ws h)
 ((YH d "followers" (Y1 (xb (Y1 (aB 1)) fun (ws:List W) (x:DSt) (h:aA)=>callW T d (Str.ofString "marked") ws h))))
 [some w0,some w1] h)
 YW)
 YE)
 (aR h):=by kernel_rfl
def aL7 (d:Nat) (w0 w1 w2:W) (h:aA):aE T (d+1) "behind" [w0,w1,w2] h =
 YP
 (YP
 (YP
 (xb (xb (Y1 (aB 0)) fun (ws:List W) (x:DSt) (h:aA)=>callW T d (Str.ofString "ways_of") ws h)
 ((YH d "stand_behind" (Y2 (aB 1) (aB 2))))
 [some w0,some w1,some w2] h)
 YW)
 YE)
 (aR h):=by kernel_rfl
def gH (d:Nat) (w0 w1:W) (h:aA):aE T (d+1) "is_node" [w0,w1] h =
 YP
 (YP
 (YP
 (xb
 (xb
 (xb (xb (Y2 (aB 0) (YJ 2)) (YF d "is_tuple_of")) YD)
 fun (b:Bool)=>aD !b)
 (fun c =>
 if c=true then aD true
 else
 xb
 (xb
 (xb (xb (YV 0 0) (YI2 "tuple")) YD)
 fun (b:Bool)=>aD !b)
 fun c =>
 if c=true then aD true
 else
 xb
 (xb (xb (Y1 (YV 0 1)) (YF d "is_stand")) YD)
 fun (b:Bool)=>aD !b)
 [some w0,some w1] h)
 (YT2 false [some w0,some w1]))
 (YQ fun δ' p =>
 YP
 (YP
 (xb (xb (Y2 (YV 0 0) (aB 1)) (YF d "are_numbers"))
 (fun (w:W) =>
 match w with
       | W.d (PyData.bool true)=>xb (Y1 (YV 0 0)) (YF d "are_rising")
       | W.d (PyData.bool false)=>aD (W.d (PyData.bool false))
       | x=>xno)
 δ' p.2)
 YW)
 YE))
 (aR h):=by kernel_rfl
def rX (d:Nat) (w0:W) (h:aA):aE T (d+1) "first_node" [w0] h =
 YP
 (YP
 (YP
 (xb
 (xPl
 (Y2 (xb (xPl (aD [])) YT) (xb (aB 0) (YL "first"))))
 (YT) [some w0] h)
 YW)
 YE)
 (aR h):=by kernel_rfl
def aB2 (d:Nat) (w0 w1:W) (h:aA):aE T (d+1) "is_last" [w0,w1] h =
 YP
 (YP
 (YP
 (cT
 (xC1 CmpOp.Eq
 (xb
 (Y1 (xb (aB 0) (YH d "missing" (Y1 (xb (Y1 (YV 1 0)) fun (ws:List W) (x:DSt) (h:aA)=>callW T d (Str.ofString "marked") ws h)))))
 (YK bJ))
 (YJ 0))
 [some w0,some w1] h)
 YW)
 YE)
 (aR h):=by kernel_rfl
@[simp] def iQ (d:Nat) (x:DSt) (x_1:aA):Option (Fl×aA) :=
 YP
 (aS 4
 (xb (aB 0) (YH d "stand_behind" (Y2 (YV 1 1) (aB 3))))
 x x_1)
 (YQ fun δ' p =>
 YP
 (YP (xC1 CmpOp.IsNot (aB 4) (YZ) δ' p.2) fun p =>
 if p.1=true then
 YP (YP (xb (aB 2) ((YA (Y1 (xb (xPl (Y2 (aB 3) (xb (xPl (Y2 (xb (Y1 (aJ (xb (Y1 (xb (YV 1 0) fun u=>xb (xb (xPl (Y1 (aB 3))) YT) (YO .Add u))) fun (ws:List W) (x:DSt) (h:aA)=>qW ws h))) (YK bX)) (aB 4))) YT))) YT)))) δ' p.2) fun p=>some (Fl.nx δ',p.2)) YE
 else some (Fl.nx δ',p.2))
 YE)
def nZ (d:Nat) (w0 w1:W) (h:aA):aE T (d+1) "nodes_behind" [w0,w1] h =
 YP
 (YP (aS 2 (bB (xPl (aD []))) [some w0,some w1,none,none,none] h) (YQ fun δ' p =>
 YP
 (YP
 (aZ
 (xb (aB 0) (YH d "followers" (Y1 (xb (Y1 (YV 1 0)) fun (ws:List W) (x:DSt) (h:aA)=>callW T d (Str.ofString "marked") ws h))))
 δ' p.2)
 fun (p:(List PyData×Cw)×aA) =>
 aW (YG 3)
 (iQ d)
 (Prod.snd p.1) (Prod.fst p.1) (Prod.fst p.1) δ' p.2)
 (YQ fun δ' p =>
 YP (YP (aB 2 δ' p.2) YW) YE)))
 (aR h):=by kernel_rfl
def oA (d:Nat) (w0 w1:W) (h:aA):aE T (d+1) "stands_fault" [w0,w1] h =
 YP
 (YP (YP (xb (Y2 (xb (Y1 (aB 0)) fun (ws:List W) (x:DSt) (h:aA)=>callW T d (Str.ofString "ways_of") ws h) (aB 1)) ((YF d "nodes_fault")) [some w0,some w1] h) YW) YE)
 (aR h):=by kernel_rfl
@[simp] def fI (d:Nat) (x:DSt) (x_1:aA):Option (Fl×aA) :=
 YP
 (YP
 (xb (xb (Y2 (aB 0) (aB 5)) (YF d "is_last"))
 (YD)
 x x_1)
 fun p =>
 if p.1=true then
 YP (YP (xb (xPl (Y2 (YS "last") (aB 2))) (YT) x p.2) YW) YE
 else some (Fl.nx x,p.2))
 (YQ fun δ' p =>
 YP (aS 6 (aJ (xb (aZ (xb (Y2 (aB 0) (aB 5)) (YF d "nodes_behind"))) fun p δ h=>aQ (bK [YG 0,YG 1]) (xC1 CmpOp.NotIn (aB 1) (aB 2)) (aB 0) p.2 p.1 p.1 (aY [none,none,some 4] δ) h [])) δ' p.2) (YQ fun δ' p =>
 YP
 (YP (xC1 CmpOp.Gt (xb (Y1 (aB 6)) (YK bJ)) (YJ 0) δ' p.2) fun p =>
 if p.1=true then
 YP (YP (xb (xPl (Y3 (YS "next") (aB 2) (YV 6 0))) (YT) δ' p.2) YW) YE
 else some (Fl.nx δ',p.2))
 YE))
@[simp] def cE (d:Nat) (x:DSt) (x_1:aA):Option (Fl×aA) :=
 YP
 (YP
 (xb
 (xb
 (xb
 (Y2 (aB 3) (xb
 (Y1 (xb (aB 0) (YL "listed")))
 (YK bJ)))
 (YF d "is_node"))
 YD)
 (fun (b:Bool)=>aD !b) x x_1)
 fun p =>
 if p.1=true then
 YP (YP (xb (xPl (Y2 (YS "form") (aB 2))) (YT) x p.2) YW) YE
 else some (Fl.nx x,p.2))
 YE
def gC (d:Nat) (w0 w1:W) (h:aA):aE T (d+1) "nodes_fault" [w0,w1] h =
 YP
 (YP
 (YP
 (xb
 (xb (xb (aB 1) fun (w:W) (x:DSt) (h:aA)=>YP (ref h w) fun (d:PyData)=>some (W.d (PyData.bool (isi d "list"||isi d "tuple")),h)) YD)
 (fun (b:Bool)=>aD !b) [some w0,some w1,none,none,none,none,none] h)
 fun p =>
 if p.1=true then
 YP (YP (xb (xPl (Y2 (YS "form") (YJ 0))) (YT) [some w0,some w1,none,none,none,none,none] p.2) YW) YE
 else some (Fl.nx [some w0,some w1,none,none,none,none,none],p.2))
 (YQ fun δ' p =>
 YP
 (YP
 (xb (aB 1)
 (fun (u:W) (x:DSt) (h:aA) =>
 jK u h)
 δ' p.2)
 fun (p:(List PyData×Cw)×aA) =>
 aW (bK [YG 2,YG 3])
 (cE d)
 (Prod.snd p.1) (Prod.fst p.1) (Prod.fst p.1) δ' p.2)
 (YQ fun δ' p =>
 YP (aS 4 (xb (Y1 (aB 1)) fun (ws:List W) (x:DSt) (h:aA)=>callW T d (Str.ofString "marked") ws h) δ' p.2) (YQ fun δ' p =>
 YP
 (YP (xC1 CmpOp.NotIn (xb (Y1 (aB 0)) (YF d "first_node")) (aB 4) δ' p.2) fun p =>
 if p.1=true then
 YP (YP (xb (xPl (Y1 (YS "first"))) (YT) δ' p.2) YW) YE
 else some (Fl.nx δ',p.2))
 (YQ fun δ' p =>
 YP
 (YP
 (xb (aB 1)
 (fun (u:W) (x:DSt) (h:aA) =>
 jK u h)
 δ' p.2)
 fun (p:(List PyData×Cw)×aA) =>
 aW (bK [YG 2,YG 5])
 (fI d)
 (Prod.snd p.1) (Prod.fst p.1) (Prod.fst p.1) δ' p.2)
 (YQ fun δ' p =>
 YP (YP (YZ δ' p.2) YW) YE))))))
 (aR h):=by kernel_rfl
def fJ (d:Nat) (w0 w1:W) (h:aA):aE T (d+1) "_law_cell_at" [w0,w1] h =
 YP
 (YP
 (YP (xC1 CmpOp.Lt (aB 1) (xb (Y1 (aB 0)) (YK bJ)) [some w0,some w1] h) fun p =>
 if p.1=true then
 YP (YP (xb (aB 0) (fun x=>xb (aB 1) (YX x)) [some w0,some w1] p.2) YW) YE
 else some (Fl.nx [some w0,some w1],p.2))
 (YQ fun δ' p =>
 YP (YP (YJ 0 δ' p.2) YW) YE))
 (aR h):=by kernel_rfl
def kD (d:Nat) (w0 w1:W) (h:aA):aE T (d+1) "_law_digit" [w0,w1] h =
 YP
 (YP
 (YP (xC1 CmpOp.Eq (xb (Y1 (aB 0)) (YK bJ)) (YJ 1) [some w0,some w1,none,none] h) fun p =>
 if p.1=true then
 YP
 (YP
 (xb (aB 0)
 (fun (w:W) (δ:DSt) (h:aA) =>
 match w with
        | W.c j =>
         match h[j]? with
         | some (Cell.l xs) =>
          YP (xPl (Y2 (xb (YV 0 0) (YB .Mod 2147483647)) (YJ 0)) δ h) fun (p:List PyData×aA) =>
 match p.2[j]? with
           | some (Cell.l xs)=>if List.length xs+List.length p.1<=sizeLine then some (W.d PyData.none,List.set p.2 j (Cell.l (xs++p.1))) else none
           | x=>none
         | x=>none
        | x=>none)
 [some w0,some w1,none,none] p.2)
 fun p=>some (Fl.nx [some w0,some w1,none,none],p.2))
 YE
 else some (Fl.nx [some w0,some w1,none,none],p.2))
 (YQ fun δ' p =>
 YP
 (YP (xC1 CmpOp.Gt (YV 0 0) (YJ 0) δ' p.2) fun p =>
 if p.1=true then
 YP (aS 2 (xb (YV 0 0) fun u=>xb (aB 1) (YO .Mod u)) δ' p.2) (YQ fun δ' p =>
 YP
 (YP (xb (YV 0 0) (fun u=>xb (aB 1) (YO .FloorDiv u)) δ' p.2) fun p =>
 YP
 (YP (aB 0 δ' p.2) fun (p_1:W×aA) =>
 YP (YJ 0 δ' (p_1.2)) fun (q:W×aA) =>
 match p_1.1,q.1,p.1 with
             | W.c j,W.d y,W.d x=>uV j y x δ' (q.2)
             | x,x_1,x_2=>none)
 fun (q:DSt×aA)=>some (Fl.nx (q.1),q.2))
 (YQ fun δ' p =>
 YP (YP (aB 2 δ' p.2) YW) YE))
 else some (Fl.nx δ',p.2))
 (YQ fun δ' p =>
 YP
 (YP (xb (YV 0 2) ((YB .Add 1)) δ' p.2) fun p =>
 YP
 (YP (aB 0 δ' p.2) fun (p_1:W×aA) =>
 YP (YJ 2 δ' (p_1.2)) fun (q:W×aA) =>
 match p_1.1,q.1,p.1 with
          | W.c j,W.d y,W.d x=>uV j y x δ' (q.2)
          | x,x_1,x_2=>none)
 fun (q:DSt×aA)=>some (Fl.nx (q.1),q.2))
 (YQ fun δ' p =>
 YP (aS 3 (xb (xb (xb (xb (YV 0 1) fun u=>xb (xb (YJ 7919) fun u=>xb (YV 0 2) (YO .Mult u)) (YO .Add u)) (YB .Add 1)) (YB .Mult 48271)) (YB .Mod 2147483647)) δ' p.2) (YQ fun δ' p =>
 YP (aS 3 (xb (xb (aB 3) fun u=>xb (xb (xb (aB 3) (YB .FloorDiv 1009)) (YB .Add 69621)) (YO .Mult u)) (YB .Mod 2147483647)) δ' p.2) (YQ fun δ' p =>
 YP (YP (xb (xb (xb (aB 3) fun u=>xb (xb (xb (aB 3) (YB .FloorDiv 2003)) (YB .Add 40692)) (YO .Mult u)) (YB .Mod 2147483399)) (fun u=>xb (aB 1) (YO .Mod u)) δ' p.2) YW) YE))))))
 (aR h):=by kernel_rfl
def gO (d:Nat) (w0:W) (h:aA):aE T (d+1) "_law_value" [w0] h =
 YP
 (YP (YP (xb (aJ (xPl (Y3 (xb (Y2 (aB 0) (YJ 3)) (YF d "_law_digit")) (xb (xb (Y2 (aB 0) (YJ 2)) (YF d "_law_digit")) (YB .Sub 1)) (xb (Y2 (aB 0) (xb (YJ 10) (YB .Pow 12))) (YF d "_law_digit"))))) (fun x=>xb (xb (xb (Y2 (aB 0) (YJ 8)) (YF d "_law_digit")) (YB .FloorDiv 3)) (YX x)) [some w0] h) YW) YE)
 (aR h):=by kernel_rfl
def cK (d:Nat) (w0:W) (h:aA):aE T (d+1) "_law_plain_call" [w0] h =
 YP
 (YP (aS 1 (xb (Y2 (aB 0) (YJ 4)) (YF d "_law_digit")) [some w0,none,none] h) (YQ fun δ' p =>
 YP (aS 2 (xb (aJ (xPl (Y2 (xb (Y2 (aB 0) (YJ 2)) (YF d "_law_digit")) (xb (Y2 (aB 0) (YJ 8)) (YF d "_law_digit"))))) fun x=>xb (xb (xb (Y2 (aB 0) (YJ 4)) (YF d "_law_digit")) (YB .FloorDiv 3)) (YX x)) δ' p.2) (YQ fun δ' p =>
 YP
 (YP (xC1 CmpOp.Eq (aB 1) (YJ 0) δ' p.2) fun p =>
 if p.1=true then
 YP (YP (xb (xPl (Y2 (YS "read") (aB 2))) (YT) δ' p.2) YW) YE
 else some (Fl.nx δ',p.2))
 (YQ fun δ' p =>
 YP
 (YP (xC1 CmpOp.Eq (aB 1) (YJ 1) δ' p.2) fun p =>
 if p.1=true then
 YP (YP (xb (xPl (Y3 (YS "write") (aB 2) (xb (Y1 (aB 0)) (YF d "_law_value")))) (YT) δ' p.2) YW) YE
 else some (Fl.nx δ',p.2))
 (YQ fun δ' p =>
 YP
 (YP (xC1 CmpOp.Eq (aB 1) (YJ 2) δ' p.2) fun p =>
 if p.1=true then
 YP (YP (xb (xPl (Y3 (YS "add") (aB 2) (xb (Y1 (aB 0)) (YF d "_law_value")))) (YT) δ' p.2) YW) YE
 else some (Fl.nx δ',p.2))
 (YQ fun δ' p =>
 YP (YP (xb (xPl (Y4 (YS "swap") (aB 2) (xb (Y1 (aB 0)) (YF d "_law_value")) (xb (Y1 (aB 0)) (YF d "_law_value")))) (YT) δ' p.2) YW) YE))))))
 (aR h):=by kernel_rfl
def bT (d:Nat) (w0:W) (h:aA):aE T (d+1) "_law_step" [w0] h =
 YP
 (YP (aS 1 (xb (Y2 (aB 0) (YJ 9)) (YF d "_law_digit")) [some w0,none,none,none,none] h) (YQ fun δ' p =>
   YP
    (YP (xC1 CmpOp.Lt (aB 1) (YJ 5) δ' p.2) fun p =>
     if p.1=true then
      YP (YP (xb (Y1 (aB 0)) ((YF d "_law_plain_call")) δ' p.2) YW) YE
     else some (Fl.nx δ',p.2))
    (YQ fun δ' p =>
     YP
      (YP (xC1 CmpOp.Eq (aB 1) (YJ 5) δ' p.2) fun p =>
       if p.1=true then
        YP (aS 2 (xb (Y2 (aB 0) (YJ 8)) (YF d "_law_digit")) δ' p.2) (YQ fun δ' p =>
          YP (YP (xb (xPl (Y3 (YS "span") (aB 2) (xb (xb (aB 2) (YB .Add 1)) fun u=>xb (xb (Y2 (aB 0) (xb (YJ 8) fun u=>xb (aB 2) (YO .Sub u))) (YF d "_law_digit")) (YO .Add u)))) (YT) δ' p.2) YW) YE)
       else some (Fl.nx δ',p.2))
      (YQ fun δ' p =>
       YP
        (YP (xC1 CmpOp.Eq (aB 1) (YJ 6) δ' p.2) fun p =>
         if p.1=true then
          YP
           (YP
            (xb
             (xPl
              (Y2 (YS "deal") (xb
                  (Y1 (aJ
                    (xb
                     (xb (xb (YJ 1) fun u=>xb (xb (Y2 (aB 0) (YJ 4)) (YF d "_law_digit")) (YO .Add u)) YR)
                     fun p δ h=>aQ (YG 0) (aD true) (xb (Y1 (aB 1)) (YF d "_law_plain_call")) p.2 p.1 p.1 (aY [none,some 0] δ) h [])))
                  (YK bX))))
             (YT) δ' p.2)
            YW)
           YE
         else some (Fl.nx δ',p.2))
        (YQ fun δ' p =>
         YP
          (YP (xC1 CmpOp.Eq (aB 1) (YJ 7) δ' p.2) fun p =>
           if p.1=true then
            YP (aS 2 (xb (Y2 (aB 0) (YJ 8)) (YF d "_law_digit")) δ' p.2) (YQ fun δ' p =>
              YP (aS 3 (aJ (xPl (Y3 (xb (Y1 (aB 0)) (YF d "_law_plain_call")) (xb (xPl (Y3 (YS "span") (aB 2) (YJ 8))) YT) (xb (xPl (Y2 (YS "deal") (xb (xPl (Y2 (xb (Y1 (aB 0)) (YF d "_law_plain_call")) (xb (Y1 (aB 0)) (YF d "_law_plain_call")))) YT))) YT)))) δ' p.2) (YQ fun δ' p =>
                YP (YP (xb (xPl (Y2 (YS "look") (xb (aB 3) fun x=>xb (xb (Y2 (aB 0) (YJ 3)) (YF d "_law_digit")) (YX x)))) (YT) δ' p.2) YW) YE))
           else some (Fl.nx δ',p.2))
          (YQ fun δ' p =>
           YP
            (aS 4
             (aJ
              (xb
               (xb (YJ 8) YR)
               fun p δ h=>aQ (YG 0) (xC1 CmpOp.Eq (xb (Y2 (aB 1) (YJ 3)) (YF d "_law_digit")) (YJ 0)) (xb (xPl (Y2 (aB 0) (xb (Y1 (aB 1)) (YF d "_law_value")))) YT) p.2 p.1 p.1 (aY [none,some 0] δ) h []))
             δ' p.2)
            (YQ fun δ' p =>
             YP
              (YP
               (xb
                (xPl
                 (Y2 (YS "lay") (xb
                     (Y1 (xb (aB 4) fun (u:W) =>
                       xb
                        (xb (aJ (xPl (Y1 (xb (xPl (Y2 (YJ 7) (xb (Y1 (aB 0)) (YF d "_law_value")))) YT)))) fun (x:W) =>
                         xb
                          (xb
                           (xb
                            (Y1 (xb (cT (xC1 CmpOp.NotEq (aB 4) (aJ (xPl (aD []))))) fun (w:W) =>
                              match w with
                              | W.d (PyData.bool true) =>
                               cT
                                (xC1 CmpOp.Eq
                                 (xb
                                  (xb (aB 4) fun (x:W) =>
                                   xb
                                    (xb (YJ 1) YNg)
                                    (YX x))
                                  (YI 0))
                                 (YJ 7))
                              | W.d (PyData.bool false)=>aD (W.d (PyData.bool false))
                              | x=>xno))
                            fun (ws:List W) (x:DSt) (h:aA)=>aE0 ws h)
                           YU)
                          fun (l:Option Int)=>xb (aD none) (YS3 x l))
                        (YO .Add u)))
                     (YK bX))))
                (YT) δ' p.2)
               YW)
              YE)))))))
 (aR h):=by kernel_rfl
def fK (d:Nat) (w0:W) (h:aA):aE T (d+1) "_law_altered" [w0] h =
 YP
 (YP
 (YP (xC1 CmpOp.Eq (YV 0 0) (YS "got") [some w0] h) fun p =>
 if p.1=true then
 YP (YP (xb (xPl (Y2 (YS "got") (xb (YV 0 1) (YB .Add 1)))) (YT) [some w0] p.2) YW) YE
 else some (Fl.nx [some w0],p.2))
 (YQ fun δ' p =>
 YP
 (YP (xC1 CmpOp.Eq (YV 0 0) (YS "yes") δ' p.2) fun p =>
 if p.1=true then
 YP (YP (xb (xPl (Y1 (YS "no"))) (YT) δ' p.2) YW) YE
 else some (Fl.nx δ',p.2))
 (YQ fun δ' p =>
 YP
 (YP (xC1 CmpOp.Eq (YV 0 0) (YS "no") δ' p.2) fun p =>
 if p.1=true then
 YP (YP (xb (xPl (Y1 (YS "yes"))) (YT) δ' p.2) YW) YE
 else some (Fl.nx δ',p.2))
 (YQ fun δ' p =>
 YP
 (YP (xC1 CmpOp.Eq (YV 0 0) (YS "all") δ' p.2) fun p =>
 if p.1=true then
 YP
 (YP
 (xb
 (xPl
 (Y2 (YS "all") (xb (xb (xPl (Y1 (xb (xb (YV 0 1) (YI 0)) (YB .Sub 1)))) YT) fun (u:W) =>
 xb
 (xb (YV 0 1) fun (x:W) =>
 xb
 (xb (YJ 1) YU)
 fun (l:Option Int)=>xb (aD none) (YS3 x l))
 (YO .Add u))))
 (YT) δ' p.2)
 YW)
 YE
 else some (Fl.nx δ',p.2))
 (YQ fun δ' p =>
 YP
 (YP (xC1 CmpOp.Eq (YV 0 0) (YS "each") δ' p.2) fun p =>
 if p.1=true then
 YP (YP (xb (xPl (Y2 (YS "each") (xb (Y1 (aJ (xb (aZ (YV 0 1)) fun p δ h=>aQ (YG 0) (aD true) (xb (Y1 (aB 0)) (YF d "_law_altered")) p.2 p.1 p.1 (aY [none] δ) h []))) (YK bX)))) (YT) δ' p.2) YW) YE
 else some (Fl.nx δ',p.2))
 (YQ fun δ' p =>
 YP (YP (aB 0 δ' p.2) YW) YE))))))
 (aR h):=by kernel_rfl
@[simp] def kE (d:Nat) (x:DSt) (x_1:aA):Option (Fl×aA) :=
 YP (aS 7 (xb (Y1 (aB 0)) (YF d "_law_step")) x x_1) (YQ fun δ' p =>
 YP (YP (xb (Y2 (aB 3) (aB 7)) ((YF d "done")) δ' p.2) fun p=>YP (bK [YG 8,YG 3] p.1 δ' p.2) fun (q:DSt×aA)=>some (Fl.nx (q.1),q.2)) (YQ fun δ' p =>
 YP (aS 9 (xb (Y2 (aB 0) (YJ 7)) (YF d "_law_digit")) δ' p.2) (YQ fun δ' p =>
 YP
 (YP (xC1 CmpOp.Eq (aB 9) (YJ 0) δ' p.2) fun p =>
 if p.1=true then
 YP (aS 8 (YZ) δ' p.2) YE
 else some (Fl.nx δ',p.2))
 (YQ fun δ' p =>
 YP
 (YP (xC1 CmpOp.Eq (aB 9) (YJ 1) δ' p.2) fun p =>
 if p.1=true then
 YP (aS 8 (xb (Y1 (aB 8)) (YF d "_law_altered")) δ' p.2) YE
 else some (Fl.nx δ',p.2))
 (YQ fun δ' p =>
 YP
 (YP (xb (xC1 CmpOp.Eq (aB 9) (YJ 2)) (fun c=>if c=true then xb (xC1 CmpOp.NotEq (YV 7 0) (YS "look")) fun c=>if c=true then xb (xC1 CmpOp.NotEq (YV 7 0) (YS "lay")) fun c=>if c=true then xC1 CmpOp.Eq (xb (Y2 (aB 0) (YJ 4)) (YF d "_law_digit")) (YJ 0) else aD false else aD false else aD false) δ' p.2) fun p =>
 if p.1=true then
 YP (aS 8 (xb (xPl (Y1 (YS "refused"))) YT) δ' p.2) YE
 else some (Fl.nx δ',p.2))
 (YQ fun δ' p =>
 YP (aS 10 (xb (aJ (xPl (Y7 (YS "must") (YS "must") (YS "must") (YS "must") (YS "may") (YS "may") (YS "out")))) fun x=>xb (xb (Y2 (aB 0) (YJ 7)) (YF d "_law_digit")) (YX x)) δ' p.2) (YQ fun δ' p =>
 YP
 (YP (xb (xPl (Y3 (aB 7) (aB 8) (aB 10))) (YT) δ' p.2) fun p =>
 YP
 (YP (aB 5 δ' p.2) fun (p_1:W×aA) =>
 YP
 (xb (aB 4)
 (fun (w:W) (δ:DSt) (h:aA) =>
 match w with
                | W.c j =>
                 match h[j]? with
                 | some (Cell.l xs)=>YP (Y1 (xb (Y2 (aB 0) (xb (Y1 (aB 4)) (YK bJ))) (YF d "_law_digit")) δ h) fun (p:List W×aA)=>zH j p.1 p.2
                 | x=>none
                | x=>none)
 δ' (p_1.2))
 fun (q:W×aA) =>
 match p_1.1,q.1,p.1 with
               | W.c j,W.d y,W.d x=>uV j y x δ' (q.2)
               | x,x_2,x_3=>none)
 fun (q:DSt×aA)=>some (Fl.nx (q.1),q.2))
 YE)))))))
def rY (d:Nat) (w0 w1 w2:W) (h:aA):aE T (d+1) "_law_items" [w0,w1,w2] h =
 YP
 (YP (aS 3 (aB 1) [some w0,some w1,some w2,none,none,none,none,none,none,none,none] h) (YQ fun δ' p =>
 YP
 (aS 4
 (bB
 (xb (Y1 (aB 2)) fun (ws:List W) (x:DSt) (h:aA) =>
 match ws with
       | [W.d (PyData.int j)]=>if -2^62<=j/\j < 2^62/\j<=16000000 then some (rng 0 (Int.toNat j),h) else none
       | x=>none))
 δ' p.2)
 (YQ fun δ' p =>
 YP (aS 5 xA δ' p.2) (YQ fun δ' p =>
 YP
 (YP
 (xb (aB 2)
 (YR)
 δ' p.2)
 fun (p:(List PyData×Cw)×aA) =>
 aW (YG 6)
 (kE d)
 (Prod.snd p.1) (Prod.fst p.1) (Prod.fst p.1) δ' p.2)
 (YQ fun δ' p =>
 YP
 (YP
 (xb
 (Y1 (aJ
 (xb
 (xb (aB 2) YR)
 fun p δ h=>aQ (YG 0) (aD true) (xb (aB 1) fun x=>xb (aB 0) (YX x)) p.2 p.1 p.1 (aY [none,some 5] δ) h [])))
 (YK bX) δ' p.2)
 YW)
 YE)))))
 (aR h):=by kernel_rfl
@[simp] def kF (d:Nat) (x:DSt) (x_1:aA):Option (Fl×aA) :=
 YP
 (YP (xC1 CmpOp.Gt (aB 1) (YJ 1) x x_1) fun p =>
 if p.1=true then
 YP (aS 4 (xb (Y2 (aB 0) (aB 1)) (YF d "_law_digit")) x p.2) (YQ fun δ' p =>
 YP (YP (xb (aB 2) ((YA (Y1 (xb (xPl (Y2 (aB 4) (xb (xb (xb (aB 4) (YB .Add 1)) fun u=>xb (xb (Y2 (aB 0) (xb (aB 1) (YB .Sub 1))) (YF d "_law_digit")) (YO .Add u)) fun u=>xb (aB 1) (YO .Mod u)))) YT)))) δ' p.2) fun p=>some (Fl.nx δ',p.2)) YE)
 else some (Fl.nx x,p.2))
 YE
def rZ (d:Nat) (w0 w1:W) (h:aA):aE T (d+1) "_law_pairs" [w0,w1] h =
 YP
 (YP (aS 2 (bB (xPl (aD []))) [some w0,some w1,none,none,none] h) (YQ fun δ' p =>
 YP
 (YP
 (xb (xb (Y2 (aB 0) (YJ 5)) (YF d "_law_digit"))
 (YR)
 δ' p.2)
 fun (p:(List PyData×Cw)×aA) =>
 aW (YG 3)
 (kF d)
 (Prod.snd p.1) (Prod.fst p.1) (Prod.fst p.1) δ' p.2)
 (YQ fun δ' p =>
 YP (YP (xb (Y1 (aB 2)) (YK bX) δ' p.2) YW) YE)))
 (aR h):=by kernel_rfl
@[simp] def iR (d:Nat) (x:DSt) (x_1:aA):Option (Fl×aA) :=
 YP
 (YP (xb (xC1 CmpOp.Gt (xb (Y1 (aB 3)) (YK bJ)) (YJ 1)) (fun c=>if c=true then xC1 CmpOp.Gt (xb (Y1 (aB 1)) (YK bJ)) (YJ 2) else aD false) x x_1) fun p =>
 if p.1=true then
 YP (aS 2 (xb (Y2 (aB 0) (xb (Y1 (aB 3)) (YK bJ))) (YF d "_law_digit")) x p.2) (YQ fun δ' p =>
 YP (aS 6 (xb (xb (xb (aB 2) (YB .Add 1)) fun u=>xb (xb (Y2 (aB 0) (xb (xb (Y1 (aB 3)) (YK bJ)) (YB .Sub 1))) (YF d "_law_digit")) (YO .Add u)) fun u=>xb (xb (Y1 (aB 3)) (YK bJ)) (YO .Mod u)) δ' p.2) (YQ fun δ' p =>
 YP
 (aS 7
 (aJ
 (xb
 (xb (xb (Y1 (aB 1)) (YK bJ)) YR)
 fun p δ h=>aQ (YG 0) (xb (xC1 CmpOp.NotEq (aB 0) (xb (aB 1) fun x=>xb (aB 2) (YX x))) fun c=>if c=true then xC1 CmpOp.NotEq (aB 0) (xb (aB 1) fun x=>xb (aB 3) (YX x)) else aD false) (aB 0) p.2 p.1 p.1 (aY [none,some 3,some 2,some 6] δ) h []))
 δ' p.2)
 (YQ fun δ' p =>
 YP (YP (xb (aB 4) ((YA (Y1 (xb (xPl (Y3 (xb (aB 3) fun x=>xb (aB 2) (YX x)) (xb (aB 3) fun x=>xb (aB 6) (YX x)) (xb (aB 7) fun x=>xb (xb (Y2 (aB 0) (xb (Y1 (aB 7)) (YK bJ))) (YF d "_law_digit")) (YX x)))) YT)))) δ' p.2) fun p=>some (Fl.nx δ',p.2)) YE)))
 else some (Fl.nx x,p.2))
 YE
def oB (d:Nat) (w0 w1:W) (h:aA):aE T (d+1) "_law_triples" [w0,w1] h =
 YP
 (YP
 (aS 3
 (aJ
 (xb
 (xb (xb (Y1 (aB 1)) (YK bJ)) YR)
 fun p δ h=>aQ (YG 0) (xC1 CmpOp.Eq (xb (xb (aB 1) fun x=>xb (aB 0) (YX x)) (YI 2)) (YS "must")) (aB 0) p.2 p.1 p.1 (aY [none,some 1] δ) h []))
 [some w0,some w1,none,none,none,none,none,none] h)
 (YQ fun δ' p =>
 YP (aS 4 (bB (xPl (aD []))) δ' p.2) (YQ fun δ' p =>
 YP
 (YP
 (xb (xb (Y2 (aB 0) (YJ 4)) (YF d "_law_digit"))
 (YR)
 δ' p.2)
 fun (p:(List PyData×Cw)×aA) =>
 aW (YG 5)
 (iR d)
 (Prod.snd p.1) (Prod.fst p.1) (Prod.fst p.1) δ' p.2)
 (YQ fun δ' p =>
 YP (YP (xb (Y1 (aB 4)) (YK bX) δ' p.2) YW) YE))))
 (aR h):=by kernel_rfl
def oE (d:Nat) (w0 w1:W) (h:aA):aE T (d+1) "_law_problem" [w0,w1] h =
 YP
 (YP (aS 2 (bB (xPl (Y1 (aB 0)))) [some w0,some w1,none,none,none,none] h) (YQ fun δ' p =>
 YP (aS 3 (xb (Y2 (aB 2) (xb (aB 1) (YB .Add 1))) (YF d "_law_digit")) δ' p.2) (YQ fun δ' p =>
 YP (aS 4 (aD (W.d (PyData.tuple (List.reverse [PyData.int 0,PyData.int 0,PyData.int 0,PyData.int 0,PyData.int 0,PyData.int 0,PyData.int 0,PyData.int 0])))) δ' p.2) (YQ fun δ' p =>
 YP
 (YP (xC1 CmpOp.Eq (xb (Y2 (aB 2) (YJ 3)) (YF d "_law_digit")) (YJ 0) δ' p.2) fun p =>
 if p.1=true then
 YP
 (aS 4
 (xb
 (Y1 (aJ
 (xb
 (xb (YJ 8) YR)
 fun p δ h=>aQ (YG 0) (aD true) (xb (Y1 (aB 1)) (YF d "_law_value")) p.2 p.1 p.1 (aY [none,some 2] δ) h [])))
 (YK bX))
 δ' p.2)
 YE
 else some (Fl.nx δ',p.2))
 (YQ fun δ' p =>
 YP (aS 5 (xb (Y3 (aB 2) (aB 4) (aB 3)) (YF d "_law_items")) δ' p.2) (YQ fun δ' p =>
 YP (YP (xb (xPl (Y4 (aB 4) (aB 5) (xb (Y2 (aB 2) (aB 3)) (YF d "_law_pairs")) (xb (Y2 (aB 2) (aB 5)) (YF d "_law_triples")))) (YT) δ' p.2) YW) YE))))))
 (aR h):=by kernel_rfl
@[simp] def kG (d:Nat) (x:DSt) (x_1:aA):Option (Fl×aA) :=
 YP (aS 4 (xb (Y3 (aB 0) (YV 1 1) (aB 3)) (YF d "behind")) x x_1) (YQ fun δ' p =>
 YP
 (YP (xC1 CmpOp.IsNot (aB 4) (YZ) δ' p.2) fun p =>
 if p.1=true then
 YP (YP (xb (aB 2) ((YA (Y1 (xb (xPl (Y2 (aB 3) (xb (xPl (Y2 (xb (Y1 (aJ (xb (Y1 (xb (YV 1 0) fun u=>xb (xb (xPl (Y1 (aB 3))) YT) (YO .Add u))) fun (ws:List W) (x:DSt) (h:aA)=>qW ws h))) (YK bX)) (aB 4))) YT))) YT)))) δ' p.2) fun p=>some (Fl.nx δ',p.2)) YE
 else some (Fl.nx δ',p.2))
 YE)
def sA (d:Nat) (w0 w1:W) (h:aA):aE T (d+1) "_law_nexts" [w0,w1] h =
 YP
 (YP (aS 2 (bB (xPl (aD []))) [some w0,some w1,none,none,none] h) (YQ fun δ' p =>
 YP
 (YP (aZ (xb (Y2 (aB 0) (YV 1 0)) (YF d "may_come")) δ' p.2) fun (p:(List PyData×Cw)×aA) =>
 aW (YG 3)
 (kG d)
 (Prod.snd p.1) (Prod.fst p.1) (Prod.fst p.1) δ' p.2)
 (YQ fun δ' p =>
 YP (YP (aB 2 δ' p.2) YW) YE)))
 (aR h):=by kernel_rfl
def lJ (d:Nat) (w0 w1:W) (h:aA):aE T (d+1) "_law_whole_row" [w0,w1] h =
 YP
 (YP
 (YP
 (cT
 (xC1 CmpOp.Eq
 (aJ
 (xb
 (xb (xb (Y1 (YV 0 1)) (YK bJ)) YR)
 fun p δ h=>aQ (YG 0) (xb (xC1 CmpOp.Eq (xb (xb (YV 2 1) fun x=>xb (aB 0) (YX x)) (YI 2)) (YS "must")) fun c=>if c=true then xC1 CmpOp.NotIn (aB 0) (YV 1 0) else aD false) (aB 0) p.2 p.1 p.1 (aY [none,some 1,some 0] δ) h []))
 (aJ (xPl (aD []))))
 [some w0,some w1] h)
 YW)
 YE)
 (aR h):=by kernel_rfl
@[simp] def fX (d:Nat) (x:DSt) (x_1:aA):Option (Fl×aA) :=
 YP
 (YP
 (xb (xC1 CmpOp.Lt (aB 2) (xb (Y1 (aB 1)) (YK bJ)))
 (fun c =>
 if c=true then
 xb (xC1 CmpOp.Lt (xb (Y1 (aB 1)) (YK bJ)) (YJ 60)) fun c =>
 if c=true then
 xb
 (xb (xb (Y2 (aB 0) (xb (aB 1) fun x=>xb (aB 2) (YX x))) (YF d "_law_whole_row")) YD)
 fun (b:Bool)=>aD !b
 else aD false
 else aD false)
 x x_1)
 fun p =>
 if p.1=true then
 YP
 (YP (aZ (xb (Y2 (aB 0) (xb (aB 1) fun x=>xb (aB 2) (YX x))) (YF d "_law_nexts")) x p.2) fun (p:(List PyData×Cw)×aA) =>
 aW (bK [YG 3,YG 4])
 (fun (x:DSt) (x_2:aA) =>
 YP
 (YP (xC1 CmpOp.NotIn (aB 4) (aB 1) x x_2) fun p =>
 if p.1=true then
 YP (YP (xb (aB 1) ((YA (Y1 (aB 4)))) x p.2) fun p=>some (Fl.nx x,p.2)) YE
 else some (Fl.nx x,p.2))
 YE)
 (Prod.snd p.1) (Prod.fst p.1) (Prod.fst p.1) x p.2)
 YE
 else some (Fl.nx x,p.2))
 YE
def sB (d:Nat) (w0:W) (h:aA):aE T (d+1) "_law_nodes" [w0] h =
 YP
 (YP (aS 1 (bB (xPl (Y1 (xb (xPl (Y2 (xb (xPl (aD [])) YT) (YV 0 0))) YT)))) [some w0,none,none,none,none] h) (YQ fun δ' p =>
 YP
 (YP
 (xb (YJ 200)
 (YR)
 δ' p.2)
 fun (p:(List PyData×Cw)×aA) =>
 aW (YG 2)
 (fX d)
 (Prod.snd p.1) (Prod.fst p.1) (Prod.fst p.1) δ' p.2)
 (YQ fun δ' p =>
 YP (YP (aB 1 δ' p.2) YW) YE)))
 (aR h):=by kernel_rfl
@[simp] def gY (d:Nat) (x:DSt) (x_1:aA):Option (Fl×aA) :=
 YP
 (YP
 (xb (xb (Y2 (aB 0) (xb (aB 1) fun x=>xb (aB 2) (YX x))) (YF d "_law_whole_row"))
 (YD)
 x x_1)
 fun p =>
 if p.1=true then
 YP (YP (xb (xPl (Y2 (YS "last") (aB 2))) (YT) x p.2) YW) YE
 else some (Fl.nx x,p.2))
 (YQ fun δ' p =>
 YP
 (YP (aZ (xb (Y2 (aB 0) (xb (aB 1) fun x=>xb (aB 2) (YX x))) (YF d "_law_nexts")) δ' p.2) fun (p:(List PyData×Cw)×aA) =>
 aW (bK [YG 3,YG 4])
 (fun (x:DSt) (x_2:aA) =>
 YP
 (YP (xC1 CmpOp.NotIn (aB 4) (aB 1) x x_2) fun p =>
 if p.1=true then
 YP (YP (xb (xPl (Y3 (YS "next") (aB 2) (aB 3))) (YT) x p.2) YW) YE
 else some (Fl.nx x,p.2))
 YE)
 (Prod.snd p.1) (Prod.fst p.1) (Prod.fst p.1) δ' p.2)
 YE)
def vZ (d:Nat) (w0 w1:W) (h:aA):aE T (d+1) "_law_due" [w0,w1] h =
 YP
 (YP
 (YP (xC1 CmpOp.NotIn (xb (xPl (Y2 (xb (xPl (aD [])) YT) (YV 0 0))) YT) (aB 1) [some w0,some w1,none,none,none] h) fun p =>
 if p.1=true then
 YP (YP (xb (xPl (Y1 (YS "first"))) (YT) [some w0,some w1,none,none,none] p.2) YW) YE
 else some (Fl.nx [some w0,some w1,none,none,none],p.2))
 (YQ fun δ' p =>
 YP
 (YP
 (xb (xb (Y1 (aB 1)) (YK bJ))
 (YR)
 δ' p.2)
 fun (p:(List PyData×Cw)×aA) =>
 aW (YG 2)
 (gY d)
 (Prod.snd p.1) (Prod.fst p.1) (Prod.fst p.1) δ' p.2)
 (YQ fun δ' p =>
 YP (YP (YZ δ' p.2) YW) YE)))
 (aR h):=by kernel_rfl
def uE (d:Nat) (w0 w1 w2:W) (h:aA):aE T (d+1) "_law_bent" [w0,w1,w2] h =
 YP
 (YP (aS 3 (xb (Y2 (aB 1) (YJ 7)) (YF d "_law_digit")) [some w0,some w1,some w2,none,none,none] h) (YQ fun δ' p =>
 YP (aS 4 (xb (Y2 (aB 1) (xb (Y1 (aB 0)) (YK bJ))) (YF d "_law_digit")) δ' p.2) (YQ fun δ' p =>
 YP
 (YP (xC1 CmpOp.Eq (aB 3) (YJ 0) δ' p.2) fun p =>
 if p.1=true then
 YP
 (YP
 (xb
 (xb (aB 0) fun (x:W) =>
 xb (aD none) fun (l:Option Int) =>
 xb
 (xb (aB 4) YU)
 (YS3 x l))
 (fun (u:W) =>
 xb
 (xb (aB 0) fun (x:W) =>
 xb
 (xb (xb (aB 4) (YB .Add 1)) YU)
 fun (l:Option Int)=>xb (aD none) (YS3 x l))
 (YO .Add u))
 δ' p.2)
 YW)
 YE
 else some (Fl.nx δ',p.2))
 (YQ fun δ' p =>
 YP
 (YP (xC1 CmpOp.Eq (aB 3) (YJ 1) δ' p.2) fun p =>
 if p.1=true then
 YP (YP (xb (aB 0) (fun u=>xb (aJ (xPl (Y1 (xb (aB 0) fun x=>xb (aB 4) (YX x))))) (YO .Add u)) δ' p.2) YW) YE
 else some (Fl.nx δ',p.2))
 (YQ fun δ' p =>
 YP
 (YP (xC1 CmpOp.Eq (aB 3) (YJ 2) δ' p.2) fun p =>
 if p.1=true then
 YP
 (YP
 (aJ
 (xb (aB 0) fun (x:W) =>
 xb
 (xb
 (xb (YJ 1) YNg)
 YU)
 fun (o:Option Int) (x_1:DSt) (h:aA) =>
 match ref h x with
                 | some (PyData.list xs)=>if o=some (-1) then some (List.reverse xs,h) else none
                 | x=>none)
 δ' p.2)
 YW)
 YE
 else some (Fl.nx δ',p.2))
 (YQ fun δ' p =>
 YP
 (YP (xC1 CmpOp.Eq (aB 3) (YJ 3) δ' p.2) fun p =>
 if p.1=true then
 YP (aS 5 (xb (xb (aB 0) fun x=>xb (aB 4) (YX x)) (YI 1)) δ' p.2) (YQ fun δ' p =>
 YP
 (YP
 (xb
 (xb
 (xb (aB 0) fun (x:W) =>
 xb (aD none) fun (l:Option Int) =>
 xb
 (xb (aB 4) YU)
 (YS3 x l))
 fun (u:W) =>
 xb
 (aJ
 (xPl
 (Y1 (xb
 (xPl
 (Y2 (xb (xb (aB 0) fun x=>xb (aB 4) (YX x)) (YI 0)) (xb (xb (xPl (Y1 (xb (YV 5 0) (YB .Add 1)))) YT) fun (u:W) =>
 xb
 (xb (aB 5) fun (x:W) =>
 xb
 (xb (YJ 1) YU)
 fun (l:Option Int)=>xb (aD none) (YS3 x l))
 (YO .Add u))))
 YT))))
 (YO .Add u))
 (fun (u:W) =>
 xb
 (xb (aB 0) fun (x:W) =>
 xb
 (xb (xb (aB 4) (YB .Add 1)) YU)
 fun (l:Option Int)=>xb (aD none) (YS3 x l))
 (YO .Add u))
 δ' p.2)
 YW)
 YE)
 else some (Fl.nx δ',p.2))
 (YQ fun δ' p =>
 YP
 (YP (xC1 CmpOp.Eq (aB 3) (YJ 4) δ' p.2) fun p =>
 if p.1=true then
 YP
 (YP
 (xb (aB 0)
 (fun (u:W) =>
 xb
 (aJ
 (xPl
 (Y1 (xb
 (xPl
 (Y2 (xb (xb (aB 0) fun x=>xb (aB 4) (YX x)) (YI 0)) (xb
 (xb (aB 0) fun (x:W) =>
 xb
 (xb (YJ 1) YNg)
 (YX x))
 (YI 1))))
 YT))))
 (YO .Add u))
 δ' p.2)
 YW)
 YE
 else some (Fl.nx δ',p.2))
 (YQ fun δ' p =>
 YP
 (YP (xb (xC1 CmpOp.Eq (aB 3) (YJ 5)) (fun c=>if c=true then xC1 CmpOp.Gt (aB 2) (YJ 0) else aD false) δ' p.2) fun p =>
 if p.1=true then
 YP (YP (xb (aB 0) (fun u=>xb (aJ (xPl (Y1 (xb (xPl (Y2 (xb (xPl (Y1 (xb (Y2 (aB 1) (aB 2)) (YF d "_law_digit")))) YT) (xb (xb (aB 0) fun x=>xb (aB 4) (YX x)) (YI 1)))) YT)))) (YO .Add u)) δ' p.2) YW) YE
 else some (Fl.nx δ',p.2))
 (YQ fun δ' p =>
 YP (YP (aB 0 δ' p.2) YW) YE)))))))))
 (aR h):=by kernel_rfl
def lN (d:Nat) (w0 w1:W) (h:aA):aE T (d+1) "_law_bad_nodes" [w0,w1] h =
 YP
 (YP (aS 2 (xb (Y1 (YV 0 1)) (YK bJ)) [some w0,some w1,none,none] h) (YQ fun δ' p =>
 YP
 (aS 3
 (aJ
 (xPl
 (Y6 (xb (xPl (Y2 (xb (xPl (Y1 (aB 2))) YT) (aB 1))) YT) (xb (xPl (Y2 (xb (xPl (Y2 (YJ 0) (YJ 0))) YT) (aB 1))) YT) (xb
 (xPl
 (Y2 (xb
 (xPl
 (Y1 (xb (YJ 1) YNg)))
 YT) (aB 1)))
 YT) (xb (xPl (Y2 (aJ (xPl (aD []))) (aB 1))) YT) (xb
 (xPl
 (Y2 (xb (xPl (aD [])) YT) (xb (aB 1) fun (x:W) =>
 xb (aD none) fun (l:Option Int) =>
 xb
 (xb (YJ 7) YU)
 (YS3 x l))))
 YT) (xb
 (xPl
 (Y2 (xb (xPl (aD [])) YT) (aJ
 (xb (Y1 (aB 1)) fun (ws:List W) (x:DSt) (h:aA) =>
 match ws with
                         | [w] =>
                          match ref h w with
                          | some (PyData.list xs)=>some (xs,h)
                          | some (PyData.tuple xs)=>some (xs,h)
                          | x=>none
                         | x=>none))))
 YT))))
 δ' p.2)
 (YQ fun δ' p =>
 YP (aS 3 (xb (aB 3) fun u=>xb (aJ (xPl (Y3 (xb (xPl (Y2 (xb (xPl (Y2 (YJ 1) (YJ 0))) YT) (aB 1))) YT) (xb (xPl (Y2 (xb (xPl (Y2 (xb (aB 2) (YB .Sub 1)) (YJ 0))) YT) (aB 1))) YT) (xb (xPl (Y2 (xb (xPl (Y2 (YJ 0) (aB 2))) YT) (aB 1))) YT)))) (YO .Add u)) δ' p.2) (YQ fun δ' p =>
 YP
 (YP
 (xb (aB 3)
 (fun (u:W) =>
 xb
 (aJ
 (xPl
 (Y6 (xb (xPl (Y3 (xb (xPl (aD [])) YT) (aB 1) (YJ 0))) YT) (aJ (xPl (Y2 (xb (xPl (aD [])) YT) (aB 1)))) (YZ) (YJ 5) (xb (xPl (Y2 (xb (xPl (Y1 (aD (W.d (PyData.bool true))))) YT) (aB 1))) YT) (xb
 (xPl
 (Y2 (xb (xPl (aD [])) YT) (xb (xb (xPl (Y1 (aD (W.d (PyData.bool true))))) YT) fun (u:W) =>
 xb
 (xb (aB 1) fun (x:W) =>
 xb
 (xb (YJ 1) YU)
 fun (l:Option Int)=>xb (aD none) (YS3 x l))
 (YO .Add u))))
 YT))))
 (YO .Add u))
 δ' p.2)
 YW)
 YE))))
 (aR h):=by kernel_rfl
@[simp] def gZ (d:Nat) (x:DSt) (x_1:aA):Option (Fl×aA) :=
 YP (YP (xb (aB 8) ((YA (Y1 (xb (xPl (Y4 (aB 1) (xb (aB 2) fun u=>xb (xb (xPl (Y1 (aB 9))) YT) (YO .Add u)) (aB 3) (aB 4))) YT)))) x x_1) fun p=>some (Fl.nx x,p.2)) YE
def wA (d:Nat) (w0:W) (h:aA):aE T (d+1) "_law_bad" [w0] h =
 YP
 (YP (YP (aB 0 [some w0,none,none,none,none,none,none,none,none,none] h) fun p=>YP (bK [YG 1,YG 2,YG 3,YG 4] p.1 [some w0,none,none,none,none,none,none,none,none,none] p.2) fun (q:DSt×aA)=>some (Fl.nx (q.1),q.2)) (YQ fun δ' p =>
 YP (aS 5 (xb (xPl (Y3 (xb (xPl (Y2 (YS "read") (YJ 0))) YT) (YZ) (YS "must"))) YT) δ' p.2) (YQ fun δ' p =>
 YP (aS 6 (xb (aB 2) fun u=>xb (xb (xPl (Y3 (aB 5) (aB 5) (xb (xPl (Y3 (xb (xPl (Y2 (YS "read") (YJ 1))) YT) (YZ) (YS "may"))) YT))) YT) (YO .Add u)) δ' p.2) (YQ fun δ' p =>
 YP (aS 7 (xb (Y1 (aB 2)) (YK bJ)) δ' p.2) (YQ fun δ' p =>
 YP
 (aS 8
 (bB
 (xPl
 (Y5 (xb (aB 0) fun (x:W) =>
 xb (aD none) fun (l:Option Int) =>
 xb
 (xb (YJ 3) YU)
 (YS3 x l)) (aJ
 (xb (Y1 (aB 0)) fun (ws:List W) (x:DSt) (h:aA) =>
 match ws with
                  | [w] =>
                   match ref h w with
                   | some (PyData.list xs)=>some (xs,h)
                   | some (PyData.tuple xs)=>some (xs,h)
                   | x=>none
                  | x=>none)) (YZ) (xb
 (xPl
 (Y4 (xb (aB 1) fun (x:W) =>
 xb (aD none) fun (l:Option Int) =>
 xb
 (xb (YJ 7) YU)
 (YS3 x l)) (aB 2) (aB 3) (aB 4)))
 YT) (xb
 (xPl
 (Y4 (aB 1) (aJ
 (xb (Y1 (aB 2)) fun (ws:List W) (x:DSt) (h:aA) =>
 match ws with
                             | [w] =>
                              match ref h w with
                              | some (PyData.list xs)=>some (xs,h)
                              | some (PyData.tuple xs)=>some (xs,h)
                              | x=>none
                             | x=>none)) (aB 3) (aB 4)))
 YT))))
 δ' p.2)
 (YQ fun δ' p =>
 YP
 (YP (aZ (aJ (xPl (Y3 (xb (xPl (Y3 (xb (xPl (Y2 (YS "read") (YJ 0))) YT) (xb (xPl (Y1 (YS "done"))) YT) (YS "may"))) YT) (xb (xPl (Y3 (xb (xPl (Y2 (YS "read") (YJ 0))) YT) (YZ) (YS "Must"))) YT) (xb (xPl (Y3 (xb (xPl (Y2 (YS "read") (YJ 8))) YT) (YZ) (YS "out"))) YT)))) δ' p.2) fun (p:(List PyData×Cw)×aA) =>
 aW (YG 9)
 (gZ d)
 (Prod.snd p.1) (Prod.fst p.1) (Prod.fst p.1) δ' p.2)
 (YQ fun δ' p =>
 YP
 (aS 8
 (bB
 (xb (aB 8) fun (u:W) =>
 xb (aJ (xPl (Y2 (xb (xPl (Y4 (aB 1) (aB 6) (xb (aB 3) fun u=>xb (xb (xPl (Y1 (xb (xPl (Y2 (YJ 0) (xb (aB 7) (YB .Add 3)))) YT))) YT) (YO .Add u)) (aB 4))) YT) (xb (xPl (Y4 (aB 1) (aB 6) (xb (aB 3) fun u=>xb (xb (xPl (Y1 (xb (xPl (Y2 (YJ 0) (YJ 0))) YT))) YT) (YO .Add u)) (aB 4))) YT)))) fun (w:W) (x:DSt) (h:aA) =>
 match ref h u,ref h w with
                  | some (PyData.list xs),some (PyData.list ys)=>if List.length xs+List.length ys<=sizeLine then some (xs++ys,h) else none
                  | x,x_1=>none))
 δ' p.2)
 (YQ fun δ' p =>
 YP
 (YP
 (xb (aB 8)
 (fun (u:W) =>
 xb
 (aJ
 (xPl
 (Y2 (xb (xPl (Y4 (aB 1) (aB 6) (aB 3) (xb (aB 4) fun u=>xb (xb (xPl (Y1 (xb (xPl (Y3 (aB 7) (xb (aB 7) (YB .Add 2)) (xb (aB 7) (YB .Add 1)))) YT))) YT) (YO .Add u)))) YT) (xb
 (xPl
 (Y4 (aB 1) (aB 6) (aJ
 (xb (Y1 (aB 3)) fun (ws:List W) (x:DSt) (h:aA) =>
 match ws with
                                  | [w] =>
                                   match ref h w with
                                   | some (PyData.list xs)=>some (xs,h)
                                   | some (PyData.tuple xs)=>some (xs,h)
                                   | x=>none
                                  | x=>none)) (aB 4)))
 YT))))
 (YO .Add u))
 δ' p.2)
 YW)
 YE))))))))
 (aR h):=by kernel_rfl
@[simp] def jI (d:Nat) (x:DSt) (x_1:aA):Option (Fl×aA) :=
 YP (aS 4 (bB (xPl (Y1 (aB 3)))) x x_1) (YQ fun δ' p =>
 YP (aS 5 (xb (Y3 (aB 2) (aB 4) (xb (Y1 (YV 1 1)) (YK bJ))) (YF d "_law_bent")) δ' p.2) (YQ fun δ' p =>
 YP (aS 6 (xb (Y2 (aB 1) (aB 5)) (YF d "_law_due")) δ' p.2) (YQ fun δ' p =>
 YP
 (YP (xb (xC1 CmpOp.NotEq (xb (Y2 (aB 1) (aB 5)) (YF d "stands_fault")) (aB 6)) (fun c=>if c=true then aD true else xC1 CmpOp.NotEq (xb (Y2 (aB 1) (xb (Y1 (aB 5)) (YK bX))) (YF d "stands_fault")) (aB 6)) δ' p.2) (YT2 false δ'))
 (YQ fun δ' p =>
 YP (aS 7 (xb (Y2 (aB 1) (YV 1 0)) (YF d "_law_bad_nodes")) δ' p.2) (YQ fun δ' p =>
 YP (aS 8 (xb (Y2 (aB 4) (xb (xb (Y1 (aB 5)) (YK bJ)) (YB .Add 1))) (YF d "_law_digit")) δ' p.2) (YQ fun δ' p =>
 YP
 (aS 9
 (bB
 (xb
 (xb
 (xb (aB 5) fun (x:W) =>
 xb (aD none) fun (l:Option Int) =>
 xb
 (xb (aB 8) YU)
 (YS3 x l))
 fun u=>xb (aJ (xPl (Y1 (xb (aB 7) fun x=>xb (xb (Y2 (aB 4) (xb (Y1 (aB 7)) (YK bJ))) (YF d "_law_digit")) (YX x))))) (YO .Add u))
 fun (u:W) =>
 xb
 (xb (aB 5) fun (x:W) =>
 xb
 (xb (aB 8) YU)
 fun (l:Option Int)=>xb (aD none) (YS3 x l))
 fun (w:W) (x:DSt) (h:aA) =>
 match ref h u,ref h w with
             | some (PyData.list xs),some (PyData.list ys)=>if List.length xs+List.length ys<=sizeLine then some (xs++ys,h) else none
             | x,x_2=>none))
 δ' p.2)
 (YQ fun δ' p =>
 YP
 (YP (xC1 CmpOp.Eq (xb (Y2 (aB 4) (YJ 2)) (YF d "_law_digit")) (YJ 1) δ' p.2) fun p =>
 if p.1=true then
 YP (YP (xb (aB 9) ((YA (Y1 (xb (aB 7) fun x=>xb (xb (Y2 (aB 4) (xb (Y1 (aB 7)) (YK bJ))) (YF d "_law_digit")) (YX x))))) δ' p.2) fun p=>some (Fl.nx δ',p.2)) YE
 else some (Fl.nx δ',p.2))
 (YQ fun δ' p =>
 YP
 (YP (xC1 CmpOp.NotEq (xb (Y2 (aB 1) (aB 9)) (YF d "stands_fault")) (xb (xPl (Y2 (YS "form") (aB 8))) YT) δ' p.2) (YT2 false δ'))
 YE))))))))
def wB (d:Nat) (w0:W) (h:aA):callW T (d+1) "ways_of" [w0] h =
 YP
 (YP (YP (xb (Y1 (aB 0)) ((YF d "check_problem")) [some w0] h) fun p=>some (Fl.nx [some w0],p.2)) (YQ fun δ' p =>
 YP (YP (xb (Y1 (aB 0)) (fun (ws:List W) (x:DSt) (h:aA)=>xMk 280 (callI T d (Str.ofString "Ways")) ws h) δ' p.2) YW) YE))
 fR:=by kernel_rfl
def qE (d:Nat) (w0:W) (h:aA):callW T (d+1) "marked" [w0] h =
 YP
 (YP (YP (xb (Y1 (aJ (xb (aZ (aB 0)) fun p δ h=>aQ (YG 0) (aD true) (xb (xPl (Y2 (aB 0) (aD (W.d (PyData.bool true))))) YT) p.2 p.1 p.1 (aY [none] δ) h []))) (fun (ws:List W) (x:DSt) (h:aA)=>jN ws h) [some w0] h) YW) YE)
 fR:=by kernel_rfl
def aV5 (d:Nat) (w0 w1:W) (h:aA):callI T (d+2) "Ways" [w0,w1] h =
 YP
 (YP
 (YP (xb (aB 1) (YI 0) [some w0,some w1,none,none,none] h) fun p =>
 YP (aB 0 [some w0,some w1,none,none,none] p.2) (YM "first" [some w0,some w1,none,none,none] p.1))
 (YQ fun δ' p =>
 YP
 (YP (xb (aB 1) (YI 1) δ' p.2) fun p =>
 YP (aB 0 δ' p.2) (YM "listed" δ' p.1))
 (YQ fun δ' p =>
 YP
 (YP
 (aJ
 (xb
 (xb
 (xb (aB 0) (YL "listed"))
 fun (u:W) (x:DSt) (h:aA) =>
 jK u h)
 fun p δ h=>aQ (bK [YG 0,YG 1]) (xC1 CmpOp.Eq (YV 1 2) (YS "must")) (aB 0) p.2 p.1 p.1 (aY [none,none] δ) h [])
 δ' p.2)
 fun p =>
 YP (aB 0 δ' p.2) (YM "musts" δ' p.1))
 (YQ fun δ' p =>
 YP
 (YP
 (xb
 (aZ
 (xb (aB 0) (YL "listed")))
 (fun p δ h=>YP (dK (YG 0) (aD true) (bB (xPl (aD []))) p.2 p.1 p.1 (aY [none] δ) h []) fun (q:List Nat×aA)=>some (W.c (List.length (q.2)),q.2++[Cell.r (q.1)])) δ' p.2)
 fun p =>
 YP (aB 0 δ' p.2) (YM "ahead" δ' p.1))
 (YQ fun δ' p =>
 YP
 (YP
 (xb
 (aZ
 (xb (aB 0) (YL "listed")))
 (fun p δ h=>YP (dK (YG 0) (aD true) (bB (xPl (aD []))) p.2 p.1 p.1 (aY [none] δ) h []) fun (q:List Nat×aA)=>some (W.c (List.length (q.2)),q.2++[Cell.r (q.1)])) δ' p.2)
 fun p =>
 YP (aB 0 δ' p.2) (YM "later" δ' p.1))
 (YQ fun δ' p =>
 YP
 (YP
 (xb
 (aZ
 (xb (aB 0) (YL "listed")))
 (fun p δ h=>YP (dK (YG 0) (aD true) (bB (xPl (aD []))) p.2 p.1 p.1 (aY [none] δ) h []) fun (q:List Nat×aA)=>some (W.c (List.length (q.2)),q.2++[Cell.r (q.1)])) δ' p.2)
 fun p =>
 YP (aB 0 δ' p.2) (YM "gaps" δ' p.1))
 (YQ fun δ' p =>
 YP
 (YP (aZ (YV 1 2) δ' p.2) fun (p:(List PyData×Cw)×aA) =>
 aW (bK [YG 2,YG 3])
 (fun (x:DSt) (x_1:aA) =>
 YP
 (YP
 (xb
 (xb
 (xb (aB 0) (YL "later"))
 fun x=>xb (aB 2) (YX x))
 ((YA (Y1 (aB 3)))) x x_1)
 fun p=>some (Fl.nx x,p.2))
 (YQ fun δ' p =>
 YP
 (YP
 (xC1 CmpOp.Eq
 (xb
 (xb
 (xb (aB 0) (YL "listed"))
 fun x=>xb (aB 2) (YX x))
 (YI 2))
 (YS "must") δ' p.2)
 fun p =>
 if p.1=true then
 YP
 (YP
 (xb
 (xb
 (xb (aB 0) (YL "ahead"))
 fun x=>xb (aB 3) (YX x))
 ((YA (Y1 (aB 2)))) δ' p.2)
 fun p=>some (Fl.nx δ',p.2))
 YE
 else some (Fl.nx δ',p.2))
 YE))
 (Prod.snd p.1) (Prod.fst p.1) (Prod.fst p.1) δ' p.2)
 (YQ fun δ' p =>
 YP
 (YP (aZ (YV 1 3) δ' p.2) fun (p:(List PyData×Cw)×aA) =>
 aW (bK [YG 2,YG 3,YG 4])
 (fun (x:DSt) (x_1:aA) =>
 YP
 (YP
 (xb
 (xb
 (xb (aB 0) (YL "gaps"))
 fun x=>xb (aB 4) (YX x))
 ((YA (Y1 (xb (xPl (Y2 (aB 2) (aB 3))) YT)))) x x_1)
 fun p=>some (Fl.nx x,p.2))
 YE)
 (Prod.snd p.1) (Prod.fst p.1) (Prod.fst p.1) δ' p.2)
 YE))))))))
 fR:=by kernel_rfl
def hL (d:Nat) (w0 w1 w2:W) (h:aA):callM T (d+1) "stand_behind" [w0,w1,w2] h =
 YP
 (YP
 (aS 3
 (xb
 (Y2 (aB 1) (xb
 (xb
 (xb (aB 0) (YL "listed"))
 fun x=>xb (aB 2) (YX x))
 (YI 0)))
 (YF d "done"))
 [some w0,some w1,some w2,none,none] h)
 (YQ fun δ' p =>
 YP
 (aS 4
 (xb
 (xb
 (xb (aB 0) (YL "listed"))
 fun x=>xb (aB 2) (YX x))
 (YI 1))
 δ' p.2)
 (YQ fun δ' p =>
 YP (YP (xb (xb (xC1 CmpOp.Is (aB 4) (YZ)) fun c=>if c=true then aD true else xC1 CmpOp.Eq (aB 4) (YV 3 0)) (fun (t:Bool)=>if t=true then xb (aB 3) (YI 1) else YZ) δ' p.2) YW) YE)))
 fR:=by kernel_rfl
def oY (d:Nat) (w0 w1 w2:W) (h:aA):callM T (d+1) "may_follow" [w0,w1,w2] h =
 YP
 (YP
 (YP
 (xb (xC1 CmpOp.In (aB 2) (aB 1))
 (fun c =>
 if c=true then aD true
 else
 xC1 CmpOp.Eq
 (xb
 (xb
 (xb (aB 0) (YL "listed"))
 fun x=>xb (aB 2) (YX x))
 (YI 2))
 (YS "out"))
 [some w0,some w1,some w2,none,none,none,none] h)
 (YT2 false [some w0,some w1,some w2,none,none,none,none]))
 (YQ fun δ' p =>
 YP
 (YP
 (aZ
 (xb
 (xb (aB 0) (YL "ahead"))
 fun x=>xb (aB 2) (YX x))
 δ' p.2)
 fun (p:(List PyData×Cw)×aA) =>
 aW (YG 3)
 (fun (x:DSt) (x_1:aA) =>
 YP
 (YP (xC1 CmpOp.NotIn (aB 3) (aB 1) x x_1) (YT2 false x))
 YE)
 (Prod.snd p.1) (Prod.fst p.1) (Prod.fst p.1) δ' p.2)
 (YQ fun δ' p =>
 YP
 (YP
 (aZ
 (xb
 (xb (aB 0) (YL "later"))
 fun x=>xb (aB 2) (YX x))
 δ' p.2)
 fun (p:(List PyData×Cw)×aA) =>
 aW (YG 4)
 (fun (x:DSt) (x_1:aA) =>
 YP
 (YP (xC1 CmpOp.In (aB 4) (aB 1) x x_1) (YT2 false x))
 YE)
 (Prod.snd p.1) (Prod.fst p.1) (Prod.fst p.1) δ' p.2)
 (YQ fun δ' p =>
 YP
 (YP
 (aZ
 (xb
 (xb (aB 0) (YL "gaps"))
 fun x=>xb (aB 2) (YX x))
 δ' p.2)
 fun (p:(List PyData×Cw)×aA) =>
 aW (bK [YG 5,YG 6])
 (fun (x:DSt) (x_1:aA) =>
 YP
 (YP (xb (xC1 CmpOp.In (aB 5) (aB 1)) (fun c=>if c=true then xC1 CmpOp.NotIn (aB 6) (aB 1) else aD false) x x_1) (YT2 false x))
 YE)
 (Prod.snd p.1) (Prod.fst p.1) (Prod.fst p.1) δ' p.2)
 (YQ fun δ' p =>
 YP (YP (aD (W.d (PyData.bool true)) δ' p.2) YW) YE)))))
 fR:=by kernel_rfl
def sG (d:Nat) (w0 w1:W) (h:aA):callM T (d+1) "followers" [w0,w1] h =
 YP
 (YP
 (YP
 (aJ
 (xb
 (xb
 (xb
 (Y1 (xb (aB 0) (YL "listed")))
 (YK bJ))
 YR)
 fun p δ h =>
 aQ (YG 0)
 (xb
 (xb (aB 2) (YH d "may_follow" (Y2 (aB 1) (aB 0))))
 YD)
 (aB 0) p.2 p.1 p.1 (aY [none,some 1,some 0] δ) h [])
 [some w0,some w1] h)
 YW)
 YE)
 fR:=by kernel_rfl
def wC (d:Nat) (w0 w1:W) (h:aA):callM T (d+1) "missing" [w0,w1] h =
 YP
 (YP
 (YP
 (aJ
 (xb
 (aZ
 (xb (aB 0) (YL "musts")))
 fun p δ h=>aQ (YG 0) (xC1 CmpOp.NotIn (aB 0) (aB 1)) (aB 0) p.2 p.1 p.1 (aY [none,some 1] δ) h [])
 [some w0,some w1] h)
 YW)
 YE)
 fR:=by kernel_rfl
end K24

namespace K24
open PySem PySem.Spec PyProof.Rows L2 DL CI SJ
abbrev Ow {α β:Type} (_:α->Option β):=Option α
noncomputable def bd {α β:Type} (f:α->Option β) (x:Ow f):Option β:=Option.bind x f
@[simp ↓ high] theorem bdi {α β:Type} (x:Option α) (f:α->Option β):x.bind f=bd f x:=rfl
@[simp high] theorem bds {α β:Type} (a:α) (f:α->Option β):bd f (some a)=f a:=id rfl
@[simp ↓ high] theorem bdy {α β:Type} (x:Option α) (f:α->Option β):YP x f=bd f x:=rfl
@[simp ↓ high] theorem ynx (k:DSt->Fl×aA->Option (Fl×aA)) (δ:DSt) (h:aA):YQ k (.nx δ,h)=k δ (.nx δ,h):=id rfl
@[simp ↓ high] theorem yrt (k:DSt->Fl×aA->Option (Fl×aA)) (w:W) (h:aA):YQ k (.rt w,h)=some (.rt w,h):=id rfl
@[simp ↓ high] theorem yE (f:Fl) (h:aA):YE (f,h)=some (f,h):=by cases f<;>rfl
@[simp ↓ high] theorem xba {α β:Type} (x:XR α) (f:α->XR β) (δ:DSt) (h:aA):xb x f δ h=bd (fun p=>f p.1 δ p.2) (x δ h):=rfl
@[simp ↓ high] theorem xsa (i:Nat) (x:XR W) (δ:DSt) (h:aA):aS i x δ h=bd (fun p=>some (.nx (δ.set i (some p.1)),p.2)) (x δ h):=rfl
variable (d:Nat) (h:aA)
def bA8 (cs:List One):PyData:=.tuple [.str "deal",.tuple (cs.map One.dat)]
end K24

namespace K24
open PySem PySem.Spec PyProof.Rows L2 DL CI SJ
variable (d:Nat) (x:PyData) (h:aA)
@[simp] theorem gP:aE T (d+1) "is_whole" [.d x] h=some (.bool (fO x),h):=by
 cases x<;>simp [vX,isi,dU,fO]
@[simp] theorem sJ (lo hi:Int):aE T (d+2) "is_between" [.d x,.d (.int lo),.d (.int hi)] h=some (.bool (bR x lo hi),h):=by
 cases x<;>simp [rU,gP,bR,fO];split<;>simp_all;omega
@[simp] theorem bU (n:Int):aE T (d+1) "is_tuple_of" [.d x,.d (.int n)] h=some (.bool (bP x n),h):=by
 cases x<;>simp [oX,isi,dU,bP]
@[simp] theorem eI (xs:List PyData):aE T (d+2) "are_whole" [.d (.tuple xs)] h=some (.bool (xs.all fO),h):=by
 simp [uA];rw [bL (fun x=>.bool (fO x)) 0 (fun _ _ _=>rfl)]
 ·simp [bools_map]
 ·intro y _ u;simp [gP]
@[simp] theorem oF:aE T (d+3) "is_key" [.d x] h=some (.bool (jZ x),h):=by
 simp [aL5,sJ,jZ]
def tp (a:PyData):(∃ ps,a=.tuple ps)\/((∀ n,bP a n=false)/\isi a "tuple"=false/\gA a=.none/\bS a=false/\eR a=false/\(∀ s,eQ (.tuple [.str s,a])=false/\kA (.tuple [.str s,a])=false)/\∀ s,(∀ lo hi,bM (.span lo hi) (.tuple [.str s,a])=false)/\∀ cs,bM (.deal cs) (.tuple [.str s,a])=false):=by
 cases a<;>first | exact .inl ⟨_,rfl⟩ | exact .inr ⟨fun _=>rfl,rfl,rfl,rfl,rfl,fun _=>⟨rfl,rfl⟩,fun _=>⟨fun _ _=>rfl,fun _=>rfl⟩⟩
@[simp] theorem qF:aE T (d+1) "word_of" [.d x] h=some (gA x,h):=by
 rcases tp x with ⟨xs,rfl⟩ | hn
 ·cases xs with
  | nil=>simp [iN,isi,dU,gA]
  | cons y r =>
   cases hs:isi y "str"
   ·have:gA (.tuple (y::r))=.none:=by cases y<;>first | rfl | cases hs
    simp [iN,show ∀ xs,isi (.tuple xs) "tuple"=true from fun _=>rfl,hs,this]
   ·obtain ⟨s,rfl⟩:∃ s,y=.str s:=by cases y<;>first | exact ⟨_,rfl⟩ | cases hs
    simp [iN,isi,dU,gA]
 ·simp [iN,hn]
end K24

namespace K24
open PySem PySem.Spec PyProof.Rows L2 DL CI SJ
variable (d:Nat) (x:PyData) (h:aA)
@[simp] theorem iJ (s:Str) (n:Int):aE T (d+2) "is_worded" [.d x,.d (.str s),.d (.int n)] h=some (.bool (aK x s n),h):=by
 simp [uB,qF];cases x<;>simp [gA,aK];rename_i xs;cases xs with
 | nil=>simp [gA,aK]
 | cons y r=>cases y<;>simp [gA,aK];rename_i t;cases e:(t==s)<;>simp
def lk (s:Str):List.lookup s [(Str.ofString "read",(0:Int)),(Str.ofString "write",1),(Str.ofString "add",1),(Str.ofString "swap",2)]=nb s:=by
 unfold nb;simp only [List.lookup]
 repeat' split
 all_goals simp_all
def cO2 (a b:PyData) (r:List PyData):cut (a::b::r) (some 2) none=r:=by
 have e1:HT.sIx (a::b::r).length 0 (some 2)=2:=by simp [HT.sIx]
 have e2:HT.sIx (a::b::r).length (a::b::r).length none=r.length+2:=by simp [HT.sIx]
 rw [cut,e1,e2];simp
def aV6 (a:PyData) (r:List PyData):cut (a::r) (some 1) none=r:=by
 have e1:HT.sIx (a::r).length 0 (some 1)=1:=by simp [HT.sIx]
 have e2:HT.sIx (a::r).length (a::r).length none=r.length+1:=by simp [HT.sIx]
 rw [cut,e1,e2];simp
@[simp] theorem mF:aE T (d+4) "is_single" [.d x] h=some (.bool (bS x),h):=by
 simp [uC,qF,oF,eI,lk];rcases tp x with ⟨xs,rfl⟩ | hn
 rotate_left
 ·simp [hn]
 cases xs with
 | nil=>simp [gA,bS]
 | cons y r =>
  cases y<;>simp [gA,bS];rename_i t;cases e:nb t with
  | none=>simp
  | some n =>
   have hn:0<=n:=by
    unfold nb at e
    repeat' split at e
    all_goals simp at e
    all_goals omega
   by_cases hl:(r.length:Int)+1=2+n
   ·cases r with
    | nil=>simp at hl;omega
    | cons k vs =>
     cases ek:jZ k<;>simp_all [oF,cO2,eI,lk]
   ·simp [hl,e,lk]
def gQ {x:PyData} {s:Str} (e:aK x s 2=true):∃ a,x=.tuple [.str s,a]:=by
 unfold aK at e;split at e
 ·rename_i t r;simp at e;obtain ⟨rfl,e⟩:=e
  match r,e with
  | [a],_=>exact ⟨a,rfl⟩
  | [],e=>simp at e
  | _::_::_,e=>simp at e;omega
 ·cases e
def aV7 {x:PyData} {s:Str} (e:aK x s 3=true):∃ a b,x=.tuple [.str s,a,b]:=by
 unfold aK at e;split at e
 ·rename_i t r;simp at e;obtain ⟨rfl,e⟩:=e
  match r,e with
  | [a,b],_=>exact ⟨a,b,rfl⟩
  | [],e=>simp at e
  | [_],e=>simp at e
  | _::_::_::_,e=>simp at e;omega
 ·cases e
def aV8 {x:PyData} (e:aK x "span" 3=false):eP x=false:=by
 unfold eP;split
 ·simp [aK] at e;simp [e]
 ·rfl
def aV9 {x:PyData} (e:aK x "deal" 2=false):eQ x=false:=by
 unfold eQ;split
 ·simp [aK] at e;simp [e]
 ·rfl
def aW0 {x:PyData} (e:aK x "look" 2=false):jH x=false:=by
 unfold jH;split
 ·simp [aK] at e;simp [e]
 ·rfl
def bL1 {x:PyData} (e:aK x "lay" 2=false):kA x=false:=by
 unfold kA;split
 ·simp [aK] at e;simp [e]
 ·rfl
@[simp] theorem aB3:aE T (d+3) "is_span" [.d x] h=some (.bool (eP x),h):=by
 simp [aA7,iJ,eI];cases e:aK x (Str.ofString "span") 3
 ·simp [aV8 e]
 ·obtain ⟨a,b,rfl⟩:=aV7 e;simp [aV6,eI];have wn:∀ {x},fO x=true->∃ i,x=.int i:=fun {x} h=>by cases x<;>first | exact ⟨_,rfl⟩ | cases h
  cases ha:fO a
  ·have:eP (.tuple [.str (Str.ofString "span"),a,b])=false:=by cases a<;>first | rfl | cases ha
   simp [this]
  obtain ⟨i,rfl⟩:=wn ha;cases hb:fO b
  ·have:eP (.tuple [.str (Str.ofString "span"),.int i,b])=false:=by cases b<;>first | rfl | cases hb
   simp [fO,this]
  obtain ⟨j,rfl⟩:=wn hb;simp [fO,eP]
  by_cases h1:0<=i<;>by_cases h2:i < j<;>simp [h1,h2]
@[simp] theorem aB4:aE T (d+5) "is_deal" [.d x] h=some (.bool (eQ x),h):=by
 simp [aA8,iJ];cases e:aK x (Str.ofString "deal") 2
 ·simp [aV9 e]
 ·obtain ⟨a,rfl⟩:=gQ e;rcases tp a with ⟨ps,rfl⟩ | hn
  rotate_left
  ·simp [hn]
  simp [isi,dU,eQ]
  by_cases h1:(1:Int)<=ps.length
  ·by_cases h2:(ps.length:Int)<=4
   ·simp [h1,h2];rw [bL (fun x=>.bool (bS x)) 0 (fun _ _ _=>rfl)]
    ·have h3:1<=ps.length:=by omega
     have h4:ps.length<=4:=by omega
     simp [bools_map,h3,h4]
    ·intro y _ u;simp [mF]
   ·have h4:¬ ps.length<=4:=by omega
    simp [h1,h2,h4]
  ·have h4:¬ 1<=ps.length:=by omega
   simp [h1,h4]
@[simp] theorem aB5:aE T (d+6) "is_call" [.d x] h=some (.bool (cU x),h):=by
 simp [aA9,mF,aB3,aB4,cU];cases e1:bS x<;>cases e2:eP x<;>cases e3:eQ x<;>simp [e1,e2,e3]
@[simp] theorem bQ6:aE T (d+7) "is_look" [.d x] h=some (.bool (jH x),h):=by
 simp [aB0,iJ];cases e:aK x (Str.ofString "look") 2
 ·simp [aW0 e]
 ·obtain ⟨a,rfl⟩:=gQ e;simp [aB5,jH]
@[simp] theorem aD1:aE T (d+4) "is_value_pair" [.d x] h=some (.bool (eR x),h):=by
 simp [mP,bU];rcases tp x with ⟨xs,rfl⟩ | hn
 rotate_left
 ·simp [hn]
 simp [bP]
 match xs with
 | []=>simp [eR]
 | [a]=>simp [eR]
 | [a,b] =>
  simp [oF,gP,eR];cases jZ a<;>simp [gP]
 | a::b::c::r =>
  have:¬ ((r.length:Int)+1+1+1=2):=by omega
  simp [eR,this]
def bO {n:Int} (h0:-5<=n) (h1:n<=100000):fN 0 n=true:=by
 unfold fN;simp;omega
def sK {ns:List Int} {i:Nat} (hi:i < ns.length):atI (ns.map PyData.int) (i:Int)=some (.int (ns.getD i 0)):=by
 unfold atI;rw [ix_nat (by simpa using hi)];simp [List.getD,hi]
def bL2 (n:Nat):rng 0 n=(List.range n).map fun (i:Nat)=>PyData.int (i:Int):=by
 unfold rng;simp
def wD {w:W} {ns:List Int} (hl:ns.length<=1000) (l1:∀ h,bJ [w] h=some (.d (.int ns.length),h)) (ix:∀ (i:Int) h,xIx w (.d (.int i)) h=(atI (ns.map .int) i).map fun v=>(.d v,h)):aE T (d+1) "are_rising" [w] h=some (.bool (rT ns),h):=by
 simp [rV,l1];rw [if_pos (bO (by omega) (by omega))];simp only [bds];rw [bL (fun x=>.bool (decide (ns.getD (oW x).toNat 0 < ns.getD ((oW x).toNat+1) 0))) 0 (fun _ _ _=>rfl)]
 ·simp only [List.nil_append,bds,yE,all_map];rw [bL2,List.all_map,aU5];rfl
 ·intro y hy u;rw [bL2] at hy;obtain ⟨k,hk,rfl⟩:=List.mem_map.mp hy;have hk:=List.mem_range.mp hk;have e2:((k:Int)+1)=((k+1:Nat):Int):=rfl;simp [ix,sK (show k < ns.length by omega),oW];rw [e2,sK (by omega)];simp
noncomputable def eJ:PyData->Bool
 | .tuple [_,.tuple ps]=>decide (ps.length<=1000)
 | _=>true
def aL8 (hs:eJ x=true):aE T (d+5) "is_lay" [.d x] h=some (.bool (kA x),h):=by
 simp [aL6];cases e:aK x (Str.ofString "lay") 2
 ·simp [bL1 e]
 ·obtain ⟨a,rfl⟩:=gQ e;rcases tp a with ⟨ps,rfl⟩ | hn
  rotate_left
  ·simp [hn]
  simp [isi,dU,kA]
  replace hs:ps.length<=1000:=of_decide_eq_true hs
  by_cases hp:ps=[]
  ·subst hp;simp
  ·have hn:¬ ((ps.length:Int)=0):=by
    have:ps.length≠0:=fun z=>hp (List.length_eq_zero_iff.mp z);omega
   simp [hp];rw [bL (fun x=>.bool (eR x)) 0 (fun _ _ _=>rfl)]
   ·simp only [List.nil_append,bds,yE,all_map];generalize ea:ps.all eR=b;cases b
    ·simp
    ·simp;rw [bL (fun x=>.int (oW (nW x))) 0 (fun _ _ _=>rfl)]
     ·have e3:(ps.map fun x=>PyData.int (oW (nW x)))=(ps.map fun p=>oW (nW p)).map PyData.int:=by simp
      simp only [List.nil_append,bds,e3];rw [wD _ _ (ns:=ps.map fun p=>oW (nW p)) (by simpa using hs) (fun _=>by simp) fun _ _=>rfl];simp [hp]
     ·intro y hy u;have:=List.all_eq_true.mp ea y hy;unfold eR at this;split at this
      ·rename_i k v;simp [jZ,bR] at this;cases k<;>simp at this;simp [nW,oW]
      ·cases this
   ·intro y _ u;simp
@[simp] theorem dY (hs:eJ x=true):aE T (d+8) "is_step" [.d x] h=some (.bool (gB x),h):=by
 simp [aB1,gB];cases e1:cU x<;>cases e2:jH x<;>simp [e2,aL8 _ _ _ hs]
end K24

namespace K24
open PySem PySem.Spec PyProof.Rows L2 DL CI SJ
variable (d:Nat) (t:PyData) (h:aA)
def aL9 {t:PyData} (e:aK t "got" 2=false):dP (.read 0) t=false:=by
 unfold dP;split
 ·split
  ·rename_i s v;cases es:(s==Str.ofString "got")
   ·simp
   ·simp at es;subst es;simp [aK] at e
  ·rfl
 all_goals rename_i e';cases e'
def qG (o:One):aE T (d+3) "is_own_answer" [.d o.dat,.d t] h=some (.bool (dP o t),h):=by
 cases o
 ·simp [bG,One.dat,PyData.eqv,dP,szl];cases e:aK t (Str.ofString "got") 2
  ·simp;exact aL9 e
  ·obtain ⟨v,rfl⟩:=gQ e;simp
 ·simp [bG,One.dat,PyData.eqv,dP,szl]
 ·simp [bG,One.dat,PyData.eqv,dP,szl];cases e:aK t (Str.ofString "got") 2
  ·simp;exact aL9 e
  ·obtain ⟨v,rfl⟩:=gQ e;simp
 ·simp [bG,One.dat,PyData.eqv,dP,szl];cases e:aK t (Str.ofString "yes") 1<;>simp
end K24

namespace K24
open PySem PySem.Spec PyProof.Rows L2 DL CI SJ
variable (d:Nat) (t:PyData) (h:aA)
def bL3 {t:PyData} {lo hi:Nat} (e:aK t "all" 2=false):bM (.span lo hi) t=false:=by
 unfold bM;split
 ·rename_i e';cases e'
 ·split
  ·rename_i s xs;cases es:(s==Str.ofString "all")
   ·simp
   ·simp at es;subst es;simp [aK] at e
  ·rfl
 ·rename_i e';cases e'
def aW1 {t:PyData} {cs:List One} (e:aK t "each" 2=false):bM (.deal cs) t=false:=by
 unfold bM;split
 ·rename_i e';cases e'
 ·rename_i e';cases e'
 ·split
  ·rename_i s xs;cases es:(s==Str.ofString "each")
   ·simp
   ·simp at es;subst es;simp [aK] at e
  ·rfl
def zps (cs:List One) (xs:List PyData):List (PyData×PyData):=(cs.zip xs).map fun p=>(.tuple [p.1.dat,p.2],.bool (dP p.1 p.2))
theorem bA9:∀ (cs:List One) (xs:List PyData),kT (cs.map One.dat) xs=(zps cs xs).map (·.1)
 | [],_=>by simp [kT,zps]
 | _::_,[]=>by simp [kT,zps]
 | c::cs,x::xs=>by
  have:=bA9 cs xs;unfold kT zps at this ⊢;simp at this ⊢;exact this
def bY6:∀ (cs:List One) (xs:List PyData),(zps cs xs).map (·.2)=((cs.zip xs).map fun p=>dP p.1 p.2).map PyData.bool:=fun cs xs=>by simp [zps]
theorem xV:∀ (cs:List One) (xs:List PyData),((cs.zip xs).map fun p=>dP p.1 p.2).all id=fW cs xs
 | [],_=>by simp [fW]
 | _::_,[]=>by simp [fW]
 | c::cs,x::xs=>by
  have:=xV cs xs;simp [fW] at this ⊢;rw [this]
theorem xW:∀ bs:List Bool,eT (bs.map PyData.bool)=some bs
 | []=>rfl
 | b::r=>by simp [eT,xW r]
def wE (lo hi:Nat):aE T (d+4) "is_own_answer" [.d (Call.span lo hi).dat,.d t] h=some (.bool (bM (.span lo hi) t),h):=by
 simp [bG,Call.dat,PyData.eqv,szl];cases e:aK t (Str.ofString "all") 2
 ·simp;exact bL3 e
 ·obtain ⟨v,rfl⟩:=gQ e;rcases tp v with ⟨xs,rfl⟩ | hn
  rotate_left
  ·simp [hn]
  simp [bP,bM]
  by_cases hl:(xs.length:Int)=(hi:Int) - lo<;>simp [hl]
def wF (cs:List One):aE T (d+4) "is_own_answer" [.d (Call.deal cs).dat,.d t] h=some (.bool (bM (.deal cs) t),h):=by
 simp [bG,Call.dat,PyData.eqv,szl];cases e:aK t (Str.ofString "each") 2
 ·simp;exact aW1 e
 ·obtain ⟨v,rfl⟩:=gQ e;rcases tp v with ⟨xs,rfl⟩ | hn
  rotate_left
  ·simp [hn]
  simp [bP,bM]
  by_cases hl:(xs.length:Int)=cs.length
  ·have hl':xs.length=cs.length:=by omega
   simp [hl,hl'];rw [bA9,dX (fun δ=>∃ a b,δ=[a,b]) _ _ _ ⟨_,_,rfl⟩]
   ·have hz:=xV cs xs;rw [bY6];generalize ((cs.zip xs).map fun p=>dP p.1 p.2)=L at hz ⊢;simp [xW,hz]
   ·intro p hp δ ⟨a,b,e⟩;subst e;obtain ⟨⟨o,x⟩,_,rfl⟩:=List.mem_map.mp hp;refine ⟨[some (.d o.dat),some (.d x)],by simp [bK,kU],⟨_,_,rfl⟩,?_⟩;simp [qG]
  ·have hl':¬ xs.length=cs.length:=by omega
   simp [hl,hl']
def oG (c:SJ.Call):aE T (d+4) "is_own_answer" [.d c.dat,.d t] h=some (.bool (bM c t),h):=by
 cases c with
 | one o=>exact qG (d+1) t h o
 | span lo hi=>exact wE d t h lo hi
 | deal cs=>exact wF d t h cs
end K24

namespace K24
open PySem PySem.Spec PyProof.Rows L2 DL CI SJ
variable (d:Nat) (t:PyData) (h:aA)
def oH {c:SJ.Call} (hc:c.ok):eJ c.dat=true:=by
 cases c with
 | one o=>cases o<;>simp [Call.dat,One.dat,eJ]
 | span lo hi=>simp [Call.dat,eJ]
 | deal cs =>
  have:=hc.1;simp [Call.dat,eJ];omega
def oI {c:SJ.Call} (hc:c.ok):aE T (d+9) "is_answer" [.d c.dat,.d t] h=some (.bool (aK t "refused" 1||bM c t),h):=by
 simp [iG,dY (d) c.dat h (oH hc),(gF hc).2.1,(gF hc).1];cases e:aK t (Str.ofString "refused") 1
 ·simp [oG (d+4)]
 ·simp [(gF hc).1]
def wG {ps:List (Nat×Int)} (hn:ps≠[]) (hl:ps.length<=1000) (hk:∀ p∈ps,p.1 < 8) (hr:(ps.map (·.1)).Pairwise (· < ·)):aE T (d+8) "is_step" [.d (.tuple [.str "lay",.tuple (ps.map prP)])] h=some (.bool true,h):=by
 rw [dY _ _ _ (by simpa [eJ] using hl)];obtain ⟨q1,q2,q3⟩:=lF hk;have e:=xU hr;rw [List.map_map] at e;have e1:kA (.tuple [.str "lay",.tuple (ps.map prP)])=true:=by
  unfold kA;simp only [q1,q3,List.isEmpty_map];have:ps.isEmpty=false:=by simpa using hn
  rw [this]
  simpa [Function.comp_def] using e
 simp [gB,e1]
end K24

namespace K24
open PySem PySem.Spec PyProof.Rows L2 DL CI SJ
variable (d:Nat) (h:aA)
noncomputable def wv (st:List Int) (k:Nat) (v:Int):List Int:=st.take k++v::st.drop (k+1)
def lO {st:List Int} {k:Nat} (hk:k < st.length) (v:Int):(wv st k v).length=st.length:=by
 unfold wv;simp;omega
def sd (st:List Int):One->An1×List Int
 | .read k=>(.got (st.getD k 0),st)
 | .write k v=>(.dn,wv st k v)
 | .add k v=>(.got (st.getD k 0+v),wv st k (st.getD k 0+v))
 | .swap k x y=>if st.getD k 0=x then (.yes,wv st k y) else (.no,st)
def dr (st:List Int):List One->List An1×List Int
 | []=>([],st)
 | o::r=>((sd st o).1::(dr (sd st o).2 r).1,(dr (sd st o).2 r).2)
def wH {st:List Int} {o:One} (hk:o.key < st.length):(sd st o).2.length=st.length:=by
 cases o<;>simp only [One.key] at hk<;>simp only [sd]
 ·exact lO hk _
 ·exact lO hk _
 ·split
  ·exact lO hk _
  ·rfl
def xX (st:List Int) (o:One):An1.fits o (sd st o).1:=by
 cases o<;>simp only [sd]<;>first | trivial | (split<;>trivial)
def wI (xs:List PyData) {m:Nat} (hm:m<=xs.length):cut xs none (some (m:Int))=xs.take m:=by
 have e1:HT.sIx xs.length 0 none=0:=by simp [HT.sIx]
 have e2:HT.sIx xs.length xs.length (some (m:Int))=m:=by
  unfold HT.sIx;simp only [];rw [if_neg (by omega)];omega
 rw [cut,e1,e2];simp
def aM0 (xs:List PyData) {m:Nat} (hm:m<=xs.length):cut xs (some (m:Int)) none=xs.drop m:=by
 have e1:HT.sIx xs.length 0 (some (m:Int))=m:=by
  unfold HT.sIx;simp only [];rw [if_neg (by omega)];omega
 have e2:HT.sIx xs.length xs.length none=xs.length:=by simp [HT.sIx]
 rw [cut,e1,e2];rw [List.take_of_length_le];simp
def xY {st:List Int} {k:Nat} (hk:k < st.length):atI (st.map PyData.int) (k:Int)=some (.int (st.getD k 0)):=eW (by simp [hk])
def aM1 (st:List Int) (k:Nat) (v:Int) (hk:k < 8) (hl:st.length=8):aE T (d+1) "with_value" [.d (.tuple (st.map .int)),.d (.int k),.d (.int v)] h=some (.tuple ((wv st k v).map .int),h):=by
 have c1:=wI (st.map PyData.int) (m:=k) (by simp;omega);have c2:=aM0 (st.map PyData.int) (m:=k+1) (by simp;omega);have c2':cut (st.map PyData.int) (some ((k:Int)+1)) none=(st.map PyData.int).drop (k+1):=c2;have l1:min k st.length<=16777215:=by omega
 have l2:min k st.length+1+(st.length - (k+1))<=16777216:=by omega
 have l3:min k 8+1+(8 - (k+1))<=16777216:=by omega
 have l4:min k 8<=16777215:=by omega
 have l5:min k 8+1+(7 - k)<=16777216:=by omega
 simp [rW,c1,c2',szl,wv,l1,hl,l3,l4,l5]
def uF (st:List Int) (o:One) (hk:o.key < 8) (hl:st.length=8):aE T (d+2) "single_done" [.d (.tuple (st.map .int)),.d o.dat] h=some (.tuple [(sd st o).1.dat,.tuple ((sd st o).2.map .int)],h):=by
 cases o with
 | read k =>
  have:=xY (st:=st) (k:=k) (by simp [One.key] at hk;omega);simp [cZ,One.dat,An1.dat,this,szl,sd]
 | write k v =>
  simp only [One.key] at hk;have:=xY (st:=st) (k:=k) (by omega);simp [cZ,One.dat,An1.dat,this,szl,aM1,hk,hl,sd]
 | add k v =>
  simp only [One.key] at hk;have:=xY (st:=st) (k:=k) (by omega);generalize e:st.getD k 0=w at this;simp only [sd,e];simp [cZ,One.dat,An1.dat,this,szl,aM1,hk,hl]
 | swap k x y =>
  simp only [One.key] at hk;have:=xY (st:=st) (k:=k) (by omega);generalize e:st.getD k 0=v at this;simp only [sd,e]
  by_cases e:v=x
  ·subst e;simp [cZ,One.dat,An1.dat,this,szl,aM1,hk,hl]
  ·simp [cZ,One.dat,An1.dat,this,szl,aM1,hk,hl,e]
theorem xZ:∀ (cs:List One) (st:List Int) (o:One),dr st (cs++[o])=((dr st cs).1++[(sd (dr st cs).2 o).1],(sd (dr st cs).2 o).2)
 | [],st,o=>rfl
 | c::r,st,o=>by simp [dr,xZ r]
theorem wJ:∀ (cs:List One) (st:List Int),(∀ o∈cs,o.key < st.length)->(dr st cs).2.length=st.length
 | [],st,_=>rfl
 | o::r,st,hk=>by
  have h1:=hk o List.mem_cons_self;have:=wJ r (sd st o).2 fun o' ho=>by rw [wH h1];exact hk o' (List.mem_cons_of_mem _ ho)
  rw [wH h1] at this;exact this
theorem bB0:∀ (cs:List One) (st:List Int),(dr st cs).1.length=cs.length
 | [],st=>rfl
 | o::r,st=>by simp [dr,bB0 r]
theorem aM2:∀ (cs:List One) (st:List Int),Fit2 cs (dr st cs).1
 | [],st=>.nil
 | o::r,st=>.cons (xX st o) (aM2 r _)
def uG (cs:List One) (hk:∀ o∈cs,o.key < 8) (hc:cs.length<=100) (st:List Int) (hl:st.length=8):aE T (d+3) "deal_done" [.d (.tuple (st.map .int)),.d (.tuple (cs.map One.dat))] h=some (.tuple [.tuple [.str "each",.tuple ((dr st cs).1.map An1.dat)],.tuple ((dr st cs).2.map .int)],h):=by
 rw [show d+3=(d+2)+1 from rfl,uD];simp [szl];generalize hr:aW _ _ _ _ _ _ _=r;have kk:∃ δ' h',r=some (.nx δ',h')/\∃ (x1 x3 x4:Option W),δ'=[some (.d (.tuple ((dr st cs).2.map .int))),x1,some (.c h.length),x3,x4]/\h'=h++[.l ((dr st cs).1.map An1.dat)]:=by
  rw [<- hr];clear hr;refine cF (fun m δ' h'=>∃ (x1 x3 x4:Option W),δ'=[some (.d (.tuple ((dr st (cs.take m)).2.map .int))),x1,some (.c h.length),x3,x4]/\h'=h++[.l ((dr st (cs.take m)).1.map An1.dat)]) ⟨_,_,_,rfl,rfl⟩ (fun δ h'=>?_) ?_
  ·rw [List.length_map,List.take_length];exact id
  ·rintro m hm δ h' ⟨x1,x3,x4,rfl,rfl⟩;have hm':m < cs.length:=by simpa using hm
   have l2:(dr st (cs.take m)).2.length=8:=by rw [wJ _ _ fun o ho=>by rw [hl];exact hk o (List.mem_of_mem_take ho)];exact hl
   have hs':=fun h=>uF d h (dr st (cs.take m)).2 cs[m] (hk _ (List.getElem_mem _)) l2;have ll:(dr st (cs.take m)).1.length < 16777216:=by rw [bB0,List.length_take];omega
   have e:cs.take (m+1)=cs.take m++[cs[m]]:=by rw [List.take_add_one];simp [hm']
   rw [List.getElem_map,e,xZ];generalize dr st (cs.take m)=q at *;obtain ⟨as,st'⟩:=q;have gl:=CI.get_last h (.l (as.map An1.dat));have mp:=CI.mpre_last h (as.map An1.dat);dsimp only at *;generalize sd st' cs[m]=p at hs';refine ⟨_,_,rfl,[some (.d (.tuple (p.2.map .int))),x1,some (.c h.length),some (.d cs[m].dat),some (.d (.tuple [p.1.dat,.tuple (p.2.map .int)]))],h++[.l ((as++[p.1]).map An1.dat)],?_,_,_,_,rfl,rfl⟩;simp [hs',gl,mp,ll,szl]
 obtain ⟨δ',h',rfl,x1,x3,x4,rfl,rfl⟩:=kk;have tl:bX [.c h.length] (h++[.l ((dr st cs).1.map An1.dat)])=some (.d (.tuple ((dr st cs).1.map An1.dat)),h++[.l ((dr st cs).1.map An1.dat)]):=by
  simp [bX,ref]
 simp [tl,szl]
def ly (st:List Int) (ps:List (Nat×Int)):List Int:=ps.foldl (fun s p=>wv s p.1 p.2) st
theorem aM3:∀ (ps:List (Nat×Int)) (st:List Int),(∀ p∈ps,p.1 < st.length)->(ly st ps).length=st.length
 | [],st,_=>rfl
 | p::r,st,hk=>by
  have h1:=hk p List.mem_cons_self;have:=aM3 r (wv st p.1 p.2) fun q hq=>by rw [lO h1];exact hk q (List.mem_cons_of_mem _ hq)
  rw [lO h1] at this;exact this
def bL4 (ps:List (Nat×Int)) (hk:∀ p∈ps,p.1 < 8) (st:List Int) (hl:st.length=8):aE T (d+2) "laid" [.d (.tuple (st.map .int)),.d (.tuple (ps.map fun p=>.tuple [.int p.1,.int p.2]))] h=some (.tuple ((ly st ps).map .int),h):=by
 rw [show d+2=(d+1)+1 from rfl,bL0];simp;generalize hr:aW _ _ _ _ _ _ _=r;have kk:∃ δ' h',r=some (.nx δ',h')/\∃ x1 x2 x3,δ'=[some (.d (.tuple ((ly st ps).map .int))),x1,x2,x3]/\h'=h:=by
  rw [<- hr];clear hr;refine vW (fun p:Nat×Int=>.tuple [.int p.1,.int p.2]) (fun s p=>wv s p.1 p.2) (fun s δ' h'=>s.length=8/\∃ x1 x2 x3,δ'=[some (.d (.tuple (s.map .int))),x1,x2,x3]/\h'=h) st ps ⟨hl,_,_,_,rfl,rfl⟩ (fun _ _ z=>z.2) ?_;rintro p hp s δ h' ⟨hs,x1,x2,x3,rfl,rfl⟩;have hk':=hk p hp;have e:=fun h=>aM1 d h s p.1 p.2 hk' hs;refine ⟨[some (.d (.tuple (s.map .int))),x1,some (.d (.int p.1)),some (.d (.int p.2))],h',by simp [kU],[some (.d (.tuple ((wv s p.1 p.2).map .int))),x1,some (.d (.int p.1)),some (.d (.int p.2))],h',?_,by rw [lO (by omega)];exact hs,_,_,_,rfl,rfl⟩;simp [e]
 obtain ⟨δ',h',rfl,x1,x2,x3,rfl,rfl⟩:=kk;simp
def aM4 (o:One) (st:List Int) (hk:o.key < 8) (hl:st.length=8):aE T (d+3) "done" [.d (.tuple (st.map .int)),.d o.dat] h=some (.tuple [(sd st o).1.dat,.tuple ((sd st o).2.map .int)],h):=by
 have e:=fun h=>uF d h st o hk hl;rw [show d+3=(d+2)+1 from rfl,nY];generalize sd st o=p at e;cases o<;>simp [One.dat] at e ⊢<;>simp [e]
def aB6 (cs:List One) (hk:∀ o∈cs,o.key < 8) (hc:cs.length<=100) (st:List Int) (hl:st.length=8):aE T (d+4) "done" [.d (.tuple (st.map .int)),.d (bA8 cs)] h=some (.tuple [.tuple [.str "each",.tuple ((dr st cs).1.map An1.dat)],.tuple ((dr st cs).2.map .int)],h):=by
 have e:=fun h=>uG d h cs hk hc st hl;rw [show d+4=(d+3)+1 from rfl,nY];simp [bA8,e]
def aM5 (ps:List (Nat×Int)) (hk:∀ p∈ps,p.1 < 8) (st:List Int) (hl:st.length=8):aE T (d+3) "done" [.d (.tuple (st.map .int)),.d (.tuple [.str "lay",.tuple (ps.map fun p=>.tuple [.int p.1,.int p.2])])] h=some (.tuple [.tuple [.str "done"],.tuple ((ly st ps).map .int)],h):=by
 have e:=fun h=>bL4 d h ps hk st hl;rw [show d+3=(d+2)+1 from rfl,nY];simp [e,szl]
def aB7 {s A S:PyData} {st:List Int} (e:∀ h,aE T (d+4) "done" [.d (.tuple (st.map .int)),.d s] h=some (.tuple [A,S],h)):aE T (d+5) "done" [.d (.tuple (st.map .int)),.d (.tuple [.str "look",s])] h=some (.tuple [A,.tuple (st.map .int)],h):=by
 rw [show d+5=(d+4)+1 from rfl,nY];simp [e,szl]
def bL5 (xs:List PyData) {i j:Nat} (hi:i<=j) (hj:j<=xs.length):cut xs (some (i:Int)) (some (j:Int))=(xs.drop i).take (j - i):=by
 have e1:HT.sIx xs.length 0 (some (i:Int))=i:=by
  unfold HT.sIx;simp only [];rw [if_neg (by omega)];omega
 have e2:HT.sIx xs.length xs.length (some (j:Int))=j:=by
  unfold HT.sIx;simp only [];rw [if_neg (by omega)];omega
 rw [cut,e1,e2]
def aB8 (lo hi:Nat) (h1:lo<=hi) (h2:hi<=8) (st:List Int) (hl:st.length=8):aE T (d+1) "done" [.d (.tuple (st.map .int)),.d (.tuple [.str "span",.int lo,.int hi])] h=some (.tuple [.tuple [.str "all",.tuple (((st.drop lo).take (hi - lo)).map .int)],.tuple (st.map .int)],h):=by
 have c:=bL5 (st.map PyData.int) (i:=lo) (j:=hi) h1 (by simp;omega);rw [<- List.map_drop,<- List.map_take] at c;simp [nY,c,szl]
end K24

namespace K24
open PySem PySem.Spec PyProof.Rows L2 DL CI SJ
variable (d:Nat) (h:aA)
def aW2 (ns:List Int):aE T (d+1) "_law_cell_at" [.d (.list (ns.map .int)),.d (.int 0)] h=some (.int (ns.head?.getD 0),h):=by
 cases ns<;>simp [fJ]
@[simp] theorem cR2 {h:aA} {i:Nat} {xs:List PyData} (hi:i < h.length):bJ [.c i] (h.set i (.l xs))=some (.d (.int xs.length),h.set i (.l xs)):=by simp [bJ,xS hi]
noncomputable def m1 (a n:Int):Int:=(a+7919*n+1)*48271%2147483647
noncomputable def m2 (x:Int):Int:=x*(x / 1009+69621)%2147483647
noncomputable def m3 (x:Int):Int:=x*(x / 2003+40692)%2147483399
def aO (s:S3) (b:Int):Int:=if 0 < s.1 then s.1%b else m3 (m2 (m1 s.2.1 (s.2.2+1)))%b
noncomputable def digS (s:S3) (b:Int):S3:=if 0 < s.1 then (s.1 / b,s.2.1,s.2.2) else (s.1,s.2.1,s.2.2+1)
noncomputable def st0 (c:Int):S3:=(c,c%2147483647,0)
def dZ (s:S3) {b:Int} (hb:0 < b):0<=aO s b:=by
 unfold aO;split<;>exact Int.emod_nonneg _ (by omega)
def eE (s:S3) {b:Int} (hb:0 < b):aO s b < b:=by
 unfold aO;split<;>exact Int.emod_lt_of_pos _ hb
def bD (s:S3) {b:Int} (hb:0 < b):∃ n:Nat,aO s b=n/\(n:Int) < b:=⟨(aO s b).toNat,by have:=dZ s hb;omega,by have:=dZ s hb;have:=eE s hb;omega⟩
@[simp] theorem cL {i:Nat} (s:S3) (b:Int) (hi:i < h.length) (hb:0 < b) (hb2:bA b=true):aE T (d+1) "_law_digit" [.c i,.d (.int b)] (h.set i (stL s))=some (.int (aO s b),h.set i (stL (digS s b))):=by
 have e1:bA 1009=true:=by decide
 have e2:bA 2003=true:=by decide
 have h0:=iL (i:=7919) (by decide) (by decide) (s.2.2+1);have h1:=xR (j:=48271) (by decide) (by decide) (s.2.1+7919*(s.2.2+1)+1);have h2:gW (m1 s.2.1 (s.2.2+1)) (m1 s.2.1 (s.2.2+1) / 1009+69621)=true:=iL (by unfold m1;omega) (by unfold m1;omega) _;have h3:gW (m2 (m1 s.2.1 (s.2.2+1))) (m2 (m1 s.2.1 (s.2.2+1)) / 2003+40692)=true:=iL (by unfold m2;omega) (by unfold m2;omega) _;have z1:(s.2.1+7919*(s.2.2+1)+1)*48271%2147483647=m1 s.2.1 (s.2.2+1):=rfl;have z2:m1 s.2.1 (s.2.2+1)*(m1 s.2.1 (s.2.2+1) / 1009+69621)%2147483647=m2 (m1 s.2.1 (s.2.2+1)):=rfl;have z3:m2 (m1 s.2.1 (s.2.2+1))*(m2 (m1 s.2.1 (s.2.2+1)) / 2003+40692)%2147483399=m3 (m2 (m1 s.2.1 (s.2.2+1))):=rfl
 by_cases h4:0 < s.1<;>simp [kD,stL,hi,e1,e2,hb,hb2,h0,h1,h2,h3,h4,z1,z2,z3,aO,digS]
def uH {i:Nat} (c b:Int) (hi:i < h.length) (hb:0 < b) (hb2:bA b=true):aE T (d+1) "_law_digit" [.c i,.d (.int b)] (h.set i (.l [.int c]))=some (.int (aO (st0 c) b),h.set i (stL (digS (st0 c) b))):=by
 have e1:bA 1009=true:=by decide
 have e2:bA 2003=true:=by decide
 have h0:=iL (i:=7919) (by decide) (by decide) 1;have h1:=xR (j:=48271) (by decide) (by decide) (c%2147483647+7919+1);have h2:gW (m1 (c%2147483647) 1) (m1 (c%2147483647) 1 / 1009+69621)=true:=iL (by unfold m1;omega) (by unfold m1;omega) _;have h3:gW (m2 (m1 (c%2147483647) 1)) (m2 (m1 (c%2147483647) 1) / 2003+40692)=true:=iL (by unfold m2;omega) (by unfold m2;omega) _;have z1:(c%2147483647+7919+1)*48271%2147483647=m1 (c%2147483647) 1:=by simp [m1]
 have z2:m1 (c%2147483647) 1*(m1 (c%2147483647) 1 / 1009+69621)%2147483647=m2 (m1 (c%2147483647) 1):=rfl;have z3:m2 (m1 (c%2147483647) 1)*(m2 (m1 (c%2147483647) 1) / 2003+40692)%2147483399=m3 (m2 (m1 (c%2147483647) 1)):=rfl
 by_cases h4:0 < c<;>simp [kD,stL,hi,e1,e2,hb,hb2,h0,h1,h2,h3,h4,z1,z2,z3,aO,digS,st0,szl]
end K24

namespace K24
open PySem PySem.Spec PyProof.Rows L2 DL CI SJ
def Stf (c:Cell) (s:S3):Prop:=c=stL s\/∃ n:Int,c=.l [.int n]/\s=st0 n
def stf (s:S3):Stf (stL s) s:=.inl rfl
def cB (d:Nat) (h:aA) {i:Nat} {c:Cell} {s:S3} (hc:Stf c s) (b:Int) (hi:i < h.length) (hb:0 < b) (hb2:bA b=true):aE T (d+1) "_law_digit" [.c i,.d (.int b)] (h.set i c)=some (.int (aO s b),h.set i (stL (digS s b))):=by
 rcases hc with rfl | ⟨n,rfl,rfl⟩
 ·exact cL d h s b hi hb hb2
 ·exact uH d h n b hi hb hb2
def dig_cases (s:S3):aO s 8 / 3=0\/aO s 8 / 3=1\/aO s 8 / 3=2:=by
 have:=dZ s (b:=8) (by decide);have:=eE s (b:=8) (by decide);omega
def dig2 (s:S3):aO s 4 / 3=0\/aO s 4 / 3=1:=by
 have:=dZ s (b:=4) (by decide);have:=eE s (b:=4) (by decide);omega
def dig4 (s:S3):aO s 4=0\/aO s 4=1\/aO s 4=2\/aO s 4=3:=by
 have:=dZ s (b:=4) (by decide);have:=eE s (b:=4) (by decide);omega
abbrev vb (n:Int):Prop:=-1<=n/\n < 1000000000000
def aM6:One->Prop
 | .read _=>True | .write _ v=>vb v | .add _ n=>vb n | .swap _ _ n=>vb n
def aW3:SJ.Call->Prop
 | .one c=>aM6 c | .span _ _=>True | .deal cs=>∀ c∈cs,aM6 c
def bY7:Stp->Prop
 | .call c=>aW3 c | .look _=>True | .lay ps=>∀ p∈ps,vb p.2
def p12:bA 1000000000000=true:=by decide +kernel
def oJ (s:S3):∃ r:Int×S3,vb r.1/\∀ (d:Nat) (h:aA) (i:Nat) (c:Cell),Stf c s->i < h.length->aE T (d+2) "_law_value" [.c i] (h.set i c)=some (.int r.1,h.set i (stL r.2)):=by
 have e1:wX 10 12=true:=by decide
 have e3:bA 3=true:=by decide
 have e4:bA 2=true:=by decide
 have e5:bA 8=true:=by decide
 have p:=p12;rcases dig_cases (digS (digS (digS s 3) 2) 1000000000000) with e | e | e
 ·refine ⟨(aO s 3,digS (digS (digS (digS s 3) 2) 1000000000000) 8),by have:=dZ s (b:=3) (by decide);have:=eE s (b:=3) (by decide);show _/\_;dsimp only;omega,fun d h i c hc hi=>?_⟩;have g:=cB d h hc 3 hi (by decide) e3;simp [gO,hi,g,e,e1,e3,e4,e5,p,aJ,szl]
 ·refine ⟨(aO (digS s 3) 2 - 1,digS (digS (digS (digS s 3) 2) 1000000000000) 8),by have:=dZ (digS s 3) (b:=2) (by decide);have:=eE (digS s 3) (b:=2) (by decide);show _/\_;dsimp only;omega,fun d h i c hc hi=>?_⟩;have g:=cB d h hc 3 hi (by decide) e3;simp [gO,hi,g,e,e1,e3,e4,e5,p,aJ,szl]
 ·refine ⟨(aO (digS (digS s 3) 2) 1000000000000,digS (digS (digS (digS s 3) 2) 1000000000000) 8),by have:=dZ (digS (digS s 3) 2) (b:=1000000000000) (by decide);have:=eE (digS (digS s 3) 2) (b:=1000000000000) (by decide);show _/\_;dsimp only;omega,fun d h i c hc hi=>?_⟩;have g:=cB d h hc 3 hi (by decide) e3;simp [gO,hi,g,e,e1,e3,e4,e5,p,aJ,szl]
def vF (s:S3):Int×S3:=(oJ s).choose
def uI (d:Nat) (h:aA) {i:Nat} {c:Cell} {s:S3} (hc:Stf c s) (hi:i < h.length):aE T (d+2) "_law_value" [.c i] (h.set i c)=some (.int (vF s).1,h.set i (stL (vF s).2)):=(oJ s).choose_spec.2 d h i c hc hi
def v_b (s:S3):vb (vF s).1:=(oJ s).choose_spec.1
@[simp] theorem cJ9 (d:Nat) (h:aA) {i:Nat} (s:S3) (hi:i < h.length):aE T (d+2) "_law_value" [.c i] (h.set i (stL s))=some (.int (vF s).1,h.set i (stL (vF s).2)):=uI d h (stf s) hi
def kH (s:S3):∃ r:One×S3,(r.1.ok/\aM6 r.1)/\∀ (d:Nat) (h:aA) (i:Nat),i < h.length->aE T (d+3) "_law_plain_call" [.c i] (h.set i (stL s))=some (r.1.dat,h.set i (stL r.2)):=by
 have e3:bA 4=true:=by decide
 have e4:bA 2=true:=by decide
 have e5:bA 8=true:=by decide
 have e6:bA 3=true:=by decide
 obtain ⟨k,hk,ek⟩:∃ k:Nat,k < 8/\atI [PyData.int (aO (digS s 4) 2),.int (aO (digS (digS s 4) 2) 8)] (aO (digS (digS (digS s 4) 2) 8) 4 / 3)=some (.int k):=by
  obtain ⟨a,ea,ha⟩:=bD (digS s 4) (b:=2) (by decide);obtain ⟨b,eb,hb⟩:=bD (digS (digS s 4) 2) (b:=8) (by decide);rcases dig2 (digS (digS (digS s 4) 2) 8) with y | y
  ·exact ⟨a,by omega,by rw [y,ea];simp⟩
  ·exact ⟨b,by omega,by rw [y,eb];simp⟩
 rcases dig4 s with e | e | e | e
 ·refine ⟨(.read k,digS (digS (digS (digS s 4) 2) 8) 4),⟨hk,True.intro⟩,fun d h i hi=>?_⟩;simp [cK,hi,e,ek,e3,e4,e5,e6,One.dat,szl,aJ]
 ·refine ⟨(.write k (vF (digS (digS (digS (digS s 4) 2) 8) 4)).1,(vF (digS (digS (digS (digS s 4) 2) 8) 4)).2),⟨hk,v_b _⟩,fun d h i hi=>?_⟩;simp [cK,hi,e,ek,e3,e4,e5,e6,One.dat,szl,aJ]
 ·refine ⟨(.add k (vF (digS (digS (digS (digS s 4) 2) 8) 4)).1,(vF (digS (digS (digS (digS s 4) 2) 8) 4)).2),⟨hk,v_b _⟩,fun d h i hi=>?_⟩;simp [cK,hi,e,ek,e3,e4,e5,e6,One.dat,szl,aJ]
 ·refine ⟨(.swap k (vF (digS (digS (digS (digS s 4) 2) 8) 4)).1 (vF (vF (digS (digS (digS (digS s 4) 2) 8) 4)).2).1,(vF (vF (digS (digS (digS (digS s 4) 2) 8) 4)).2).2),⟨hk,v_b _⟩,fun d h i hi=>?_⟩;simp [cK,hi,e,ek,e3,e4,e5,e6,One.dat,szl,aJ]
def pF (s:S3):One×S3:=(kH s).choose
def aM7 (s:S3):(pF s).1.ok:=(kH s).choose_spec.1.1
def p_v (s:S3):aM6 (pF s).1:=(kH s).choose_spec.1.2
@[simp] theorem cK0 (d:Nat) (h:aA) {i:Nat} (s:S3) (hi:i < h.length):aE T (d+3) "_law_plain_call" [.c i] (h.set i (stL s))=some ((pF s).1.dat,h.set i (stL (pF s).2)):=(kH s).choose_spec.2 d h i hi
theorem uJ:∀ (xs:List PyData) (s:S3),∃ cs:List One,(thr (fun _ s=>(pF s).1.dat) (fun _ s=>(pF s).2) xs s).1=cs.map One.dat/\cs.length=xs.length/\∀ c∈cs,c.ok/\aM6 c
 | [],s=>⟨[],rfl,rfl,fun _ z=>nomatch z⟩
 | x::r,s=>by
  obtain ⟨cs,e,hl,hc⟩:=uJ r (pF s).2;refine ⟨(pF s).1::cs,by simp [thr,e],by simp [hl],fun c hm=>?_⟩;rcases List.mem_cons.mp hm with rfl | hm
  ·exact ⟨aM7 s,p_v s⟩
  ·exact hc c hm
end K24

namespace K24
open PySem PySem.Spec PyProof.Rows L2 DL CI SJ
noncomputable def kI (p:PyData->S3->Bool) (n:PyData->S3->S3) (f:PyData->S3->PyData) (n2:PyData->S3->S3):List PyData->S3->List PyData×S3
 | [],s=>([],s)
 | x::r,s=>if p x s=true then (f x (n x s)::(kI p n f n2 r (n2 x (n x s))).1,(kI p n f n2 r (n2 x (n x s))).2) else kI p n f n2 r (n x s)
theorem oK {g:XG} {tt:XR Bool} {te:XR W} {all:List PyData} {h:aA} {i:Nat} (p:PyData->S3->Bool) (n:PyData->S3->S3) (f:PyData->S3->PyData) (n2:PyData->S3->S3) (k:Nat) (hg:∀ w δ h,g w δ h=some (δ.set k (some w),h)) :
  ∀ (rest:List PyData) (δ:DSt) (ac:List PyData) (s:S3),(∀ x∈rest,∀ u s,tt ((δ.set k u).set k (some (.d x))) (h.set i (stL s))=some (p x s,h.set i (stL (n x s))))->(∀ x∈rest,∀ u s,te ((δ.set k u).set k (some (.d x))) (h.set i (stL s))=some (.d (f x s),h.set i (stL (n2 x s)))) ->
   aQ g tt te none all rest δ (h.set i (stL s)) ac=some (ac++(kI p n f n2 rest s).1,h.set i (stL (kI p n f n2 rest s).2))
 | [],δ,ac,s,_,_=>by simp [aQ,kI]
 | x::r,δ,ac,s,hf,ht=>by
  have e:=hf x List.mem_cons_self none s;rw [List.set_set] at e;have e2:=ht x List.mem_cons_self none;simp only [List.set_set] at e2;have more:∀ ac s',aQ g tt te none all r (δ.set k (some (.d x))) (h.set i (stL s')) ac=some (ac++(kI p n f n2 r s').1,h.set i (stL (kI p n f n2 r s').2)):=fun ac s' =>
   oK p n f n2 k hg r _ _ _ (fun y hy u s=>by
    have:=hf y (List.mem_cons_of_mem _ hy) u s;rw [List.set_set] at this ⊢;rw [List.set_set];exact this) fun y hy u s=>by
    have:=ht y (List.mem_cons_of_mem _ hy) u s;rw [List.set_set] at this ⊢;rw [List.set_set];exact this
  rw [aQ,cR,if_pos rfl,hg];simp only [Option.bind_some,e];cases hp:p x s
  ·simp [more,kI,hp]
  ·simp [e2,more,kI,hp]
theorem lP (p:PyData->S3->Bool) (n:PyData->S3->S3):∀ (m a:Nat) (s:S3),∃ ps:List (Nat×Int),(kI p n (fun x s=>.tuple [x,.int (vF s).1]) (fun _ s=>(vF s).2) (rng (a:Int) m) s).1=ps.map prP/\(ps.map (·.1)).Pairwise (· < ·)/\(∀ q∈ps,(a<=q.1/\q.1 < a+m)/\vb q.2)/\ps.length<=m
 | 0,a,s=>⟨[],rfl,.nil,(fun _ z=>nomatch z),Nat.le_refl 0⟩
 | m+1,a,s=>by
  have er:rng (a:Int) (m+1)=.int a::rng ((a+1:Nat):Int) m:=by
   unfold rng;rw [List.range_succ_eq_map];simp [Function.comp_def];intro b hb;omega
  rw [er,kI];split
  ·obtain ⟨ps,e,hp,hb,hl⟩:=lP p n m (a+1) ((vF (n (.int a) s)).2);refine ⟨(a,(vF (n (.int a) s)).1)::ps,by simp only [e];rfl,?_,fun q hq=>?_,by simp only [List.length_cons];omega⟩
   ·rw [List.map_cons];refine .cons (fun k hk=>?_) hp;obtain ⟨q,hq,rfl⟩:=List.mem_map.mp hk;have:=hb q hq;show a < q.1;omega
   ·rcases List.mem_cons.mp hq with rfl | hq
    ·exact ⟨⟨Nat.le_refl _,by show a < a+(m+1);omega⟩,v_b _⟩
    ·have:=hb q hq;exact ⟨by omega,this.2⟩
  ·obtain ⟨ps,e,hp,hb,hl⟩:=lP p n m (a+1) (n (.int a) s);exact ⟨ps,e,hp,fun q hq=>(by have:=hb q hq;exact ⟨by omega,this.2⟩),by omega⟩
def Sok:Stp->Prop
 | .call c=>c.ok
 | .look c=>c.ok
 | .lay ps=>ps≠[]/\ps.length<=9/\(∀ p∈ps,p.1 < 8)/\(ps.map (·.1)).Pairwise (· < ·)
def aM8 (xs:List PyData) (x:PyData):atI (xs++[x]) (-1)=some x:=by
 simp [atI,L2.ixN];rw [if_pos (by omega),show (-1+((xs.length:Int)+1)).toNat=xs.length by omega];simp
def aB9 (s:S3) (hk:aO s 9 < 5) (d:Nat) (h:aA) {i:Nat} {c:Cell} (hc:Stf c s) (hi:i < h.length):aE T (d+4) "_law_step" [.c i] (h.set i c)=some ((pF (digS s 9)).1.dat,h.set i (stL (pF (digS s 9)).2)):=by
 have e9:bA 9=true:=by decide
 have g:=cB (d+2) h hc 9 hi (by decide) e9;simp [bT,hi,hk,e9,g]
def aW4 (s:S3) (hk:aO s 9=5):∃ (r:SJ.Call×S3),(r.1.ok/\aW3 r.1)/\∀ (d:Nat) (h:aA) (i:Nat) (c:Cell),Stf c s->i < h.length->aE T (d+4) "_law_step" [.c i] (h.set i c)=some (r.1.dat,h.set i (stL r.2)):=by
 have e9:bA 9=true:=by decide
 have e8:bA 8=true:=by decide
 obtain ⟨k,ek,hk'⟩:=bD (digS s 9) (b:=8) (by decide);obtain ⟨m,em,hm⟩:=bD (digS (digS s 9) 8) (b:=8 - k) (by omega);refine ⟨(.span k (k+1+m),digS (digS (digS s 9) 8) (8 - k)),⟨⟨by omega,by omega⟩,True.intro⟩,fun d h i c hc hi=>?_⟩;have h1:(k:Int) < 8:=hk';have h2:bA (8 - (k:Int))=true:=cJ (by omega) (by omega);have g:=cB (d+2) h hc 9 hi (by decide) e9;simp [bT,hi,hk,g,ek,em,h1,h2,e9,e8,Call.dat,szl,aJ]
def aW5 (s:S3) (hk:aO s 9=6):∃ (r:SJ.Call×S3),(r.1.ok/\aW3 r.1)/\∀ (d:Nat) (h:aA) (i:Nat) (c:Cell),Stf c s->i < h.length->aE T (d+4) "_law_step" [.c i] (h.set i c)=some (r.1.dat,h.set i (stL r.2)):=by
 have e9:bA 9=true:=by decide
 have e4:bA 4=true:=by decide
 obtain ⟨m,em,hm⟩:=bD (digS s 9) (b:=4) (by decide);obtain ⟨cs,ec,hl,hc⟩:=uJ (rng 0 (m+1)) (digS (digS s 9) 4);have hl':cs.length=m+1:=by rw [hl];simp [rng]
 refine ⟨(.deal cs,(thr (fun _ s=>(pF s).1.dat) (fun _ s=>(pF s).2) (rng 0 (m+1)) (digS (digS s 9) 4)).2),⟨⟨by omega,by omega,fun c hm=>(hc c hm).1⟩,fun c hm=>(hc c hm).2⟩,fun d h i c hc hi=>?_⟩;have er:fN 0 (1+(m:Int))=true:=bO (by omega) (by omega);have et:(1+(m:Int)).toNat=m+1:=by omega
 have g:=cB (d+2) h hc 9 hi (by decide) e9;simp [bT,hi,hk,g,em,Call.dat,szl,er,et,e9,e4,aJ];rw [qA (fun _ s=>(pF s).1.dat) (fun _ s=>(pF s).2) 0 (fun _ _ _=>rfl)]
 ·simp [ec]
 ·intro x _ u s;simp [hi]
def aW6 (s:S3) (hk:aO s 9=7):∃ (r:SJ.Call×S3),(r.1.ok/\aW3 r.1)/\∀ (d:Nat) (h:aA) (i:Nat) (c:Cell),Stf c s->i < h.length->aE T (d+4) "_law_step" [.c i] (h.set i c)=some ((Stp.look r.1).dat,h.set i (stL r.2)):=by
 have e9:bA 9=true:=by decide
 have e8:bA 8=true:=by decide
 have e3:bA 3=true:=by decide
 obtain ⟨k,ek,hk'⟩:=bD (digS s 9) (b:=8) (by decide);have h3:aO (pF (pF (pF (digS (digS s 9) 8)).2).2).2 3=0\/aO (pF (pF (pF (digS (digS s 9) 8)).2).2).2 3=1\/aO (pF (pF (pF (digS (digS s 9) 8)).2).2).2 3=2:=by
  have:=dZ (pF (pF (pF (digS (digS s 9) 8)).2).2).2 (b:=3) (by decide);have:=eE (pF (pF (pF (digS (digS s 9) 8)).2).2).2 (b:=3) (by decide);omega
 rcases h3 with e | e | e
 ·refine ⟨(.one (pF (digS (digS s 9) 8)).1,digS (pF (pF (pF (digS (digS s 9) 8)).2).2).2 3),⟨aM7 _,p_v _⟩,fun d h i c hc hi=>?_⟩;have g:=cB (d+2) h hc 9 hi (by decide) e9;simp [bT,hi,hk,g,ek,e,e9,e8,e3,Stp.dat,Call.dat,szl,aJ]
 ·refine ⟨(.span k 8,digS (pF (pF (pF (digS (digS s 9) 8)).2).2).2 3),⟨⟨by omega,by omega⟩,True.intro⟩,fun d h i c hc hi=>?_⟩;have g:=cB (d+2) h hc 9 hi (by decide) e9;simp [bT,hi,hk,g,ek,e,e9,e8,e3,Stp.dat,Call.dat,szl,aJ]
 ·refine ⟨(.deal [(pF (pF (digS (digS s 9) 8)).2).1,(pF (pF (pF (digS (digS s 9) 8)).2).2).1],digS (pF (pF (pF (digS (digS s 9) 8)).2).2).2 3),⟨⟨by simp,by simp,fun c hm=>?_⟩,fun c hm=>?_⟩,fun d h i c hc hi=>?_⟩
  ·simp at hm;rcases hm with rfl | rfl
   ·exact aM7 _
   ·exact aM7 _
  ·simp at hm;rcases hm with rfl | rfl
   ·exact p_v _
   ·exact p_v _
  have g:=cB (d+2) h hc 9 hi (by decide) e9;simp [bT,hi,hk,g,ek,e,e9,e8,e3,Stp.dat,Call.dat,szl,aJ]
end K24

namespace K24
open PySem PySem.Spec PyProof.Rows L2 DL CI SJ
theorem plP:∀ (ps:List (Nat×Int)) (m:Nat),plainsB (m+1) (ps.map prP)=true
 | [],m=>by simp
 | a::r,m=>by simp [prP,plP r]
def bL6 (h:aA):xEq (.d (.list [])) (.d (.list [])) h=some true:=by simp [xEq,ref,PyData.eqv,PyData.eqvAll]
def aW7 (ps:List (Nat×Int)) (hn:ps≠[]) (h:aA):xEq (.d (.list (ps.map prP))) (.d (.list [])) h=some false:=by
 cases ps with
 | nil=>exact absurd rfl hn
 | cons a r =>
  have:=plP (a::r);simp [xEq,ref,PyData.eqv,PyData.eqvAll,prP,plP]
@[simp] theorem cR3 (b:Bool) (h:aA):aE0 [.d (.bool b)] h=some (.d (.int (if b then 1 else 0)),h):=rfl
@[simp] theorem cR4 (x:PyData):cut [x] (some 0) none=[x]:=rfl
@[simp] theorem cR5 (x:PyData):cut [x] (some 1) none=[]:=aV6 x []
def aW8 (s:S3) (hk:aO s 9=8):∃ (ps:List (Nat×Int)) (s':S3),(Sok (.lay ps)/\bY7 (.lay ps))/\∀ (d:Nat) (h:aA) (i:Nat) (c:Cell),Stf c s->i < h.length->aE T (d+4) "_law_step" [.c i] (h.set i c)=some ((Stp.lay ps).dat,h.set i (stL s')):=by
 have e9:bA 9=true:=by decide
 have e3:bA 3=true:=by decide
 have er:fN 0 8=true:=bO (by omega) (by omega);obtain ⟨ps,ep,hp,hb,hl⟩:=lP (fun _ s=>decide (aO s 3=0)) (fun _ s=>digS s 3) 8 0 (digS s 9);obtain ⟨s1,es⟩:∃ s1,s1=(kI (fun _ s=>decide (aO s 3=0)) (fun _ s=>digS s 3) (fun x s=>.tuple [x,.int (vF s).1]) (fun _ s=>(vF s).2) (rng 0 8) (digS s 9)).2:=⟨_,rfl⟩;have ec:∀ (d:Nat) (h:aA) (i:Nat),i < h.length->∀ (g:XG) (tt:XR Bool) (te:XR W) (all:List PyData) (δ:DSt),(∀ w δ h,g w δ h=some (δ.set 0 (some w),h)) ->
   (∀ x∈rng 0 8,∀ u s,tt ((δ.set 0 u).set 0 (some (.d x))) (h.set i (stL s))=some (decide (aO s 3=0),h.set i (stL (digS s 3)))) ->
   (∀ x∈rng 0 8,∀ u s,te ((δ.set 0 u).set 0 (some (.d x))) (h.set i (stL s))=some (.d (.tuple [x,.int (vF s).1]),h.set i (stL (vF s).2))) ->
   aQ g tt te none all (rng 0 8) δ (h.set i (stL (digS s 9))) []=some (ps.map prP,h.set i (stL s1)):=fun d h i hi g tt te all δ hg h1 h2=>by
  rw [oK (fun _ s=>decide (aO s 3=0)) (fun _ s=>digS s 3) (fun x s=>.tuple [x,.int (vF s).1]) (fun _ s=>(vF s).2) 0 hg _ _ _ _ h1 h2,es];have ep':(kI (fun _ s=>decide (aO s 3=0)) (fun _ s=>digS s 3) (fun x s=>.tuple [x,.int (vF s).1]) (fun _ s=>(vF s).2) (rng 0 8) (digS s 9)).1=ps.map prP:=ep;rw [ep'];rfl
 rcases List.eq_nil_or_concat ps with rfl | ⟨qs,q,eq⟩
 ·refine ⟨[(7,(vF s1).1)],(vF s1).2,⟨⟨by simp,by simp,by simp,by simp⟩,fun p hp=>by rw [List.mem_singleton.mp hp];exact v_b s1⟩,fun d h i c hc hi=>?_⟩;have g:=cB (d+2) h hc 9 hi (by decide) e9;simp [bT,hi,hk,g,er,e9,e3,Stp.dat,szl,aJ];rw [ec d h i hi]
  ·simp [prP,hi,aJ,szl,bL6]
  ·exact fun _ _ _=>rfl
  ·intro x _ u s;simp [hi,e3]
  ·intro x _ u s;simp [hi,szl]
 ·rw [List.concat_eq_append] at eq;subst eq;have hz:qs.length+1<=16777216:=by simp at hl;omega
  have hz2:qs.length+1+1<=16777216:=by simp at hl;omega
  have hpr:prP=fun p=>PyData.tuple [.int p.1,.int p.2]:=rfl;have hne:=aW7 (qs++[q]) (by simp);have hat:atI ((qs++[q]).map prP) (-1)=some (prP q):=by rw [List.map_append];exact aM8 _ _
  by_cases h7:q.1=7
  ·refine ⟨qs++[q],(vF s1).2,⟨⟨by simp,by omega,(fun p hp=>by have:=hb p hp;omega),hp⟩,fun p hp=>(hb p hp).2⟩,fun d h i c hc hi=>?_⟩;have h7':(q.1:Int)=7:=by omega
   have g:=cB (d+2) h hc 9 hi (by decide) e9;simp [bT,hi,hk,g,er,e9,e3,Stp.dat,szl,aJ];rw [ec d h i hi]
   ·simp [-List.map_append,hne,hat,prP,hi,aJ,szl,h7',hz];simp [hpr,h7']
   ·exact fun _ _ _=>rfl
   ·intro x _ u s;simp [hi,e3]
   ·intro x _ u s;simp [hi,szl]
  ·refine ⟨qs++[q]++[(7,(vF s1).1)],(vF s1).2,⟨⟨by simp,by simp at hl ⊢;omega,fun p hp=>?_,?_⟩,fun p hp=>(List.mem_append.mp hp).elim (fun z=>(hb p z).2) fun z=>by rw [List.mem_singleton.mp z];exact v_b s1⟩,fun d h i c hc hi=>?_⟩
   ·rcases List.mem_append.mp hp with hp | hp
    ·have:=hb p hp;omega
    ·simp at hp;rw [hp];show 7 < 8;omega
   ·rw [List.map_append];refine List.pairwise_append.mpr ⟨hp,by simp,fun a ha b hb'=>?_⟩;simp at hb';subst hb';rw [List.map_append] at hp ha;have hlt:=(List.pairwise_append.mp hp).2.2;have hq:=hb q (by simp);rcases List.mem_append.mp ha with ha | ha
    ·have:=hlt a ha q.1 (by simp);omega
    ·simp at ha;omega
   have h7':¬ (q.1:Int)=7:=by omega
   have g:=cB (d+2) h hc 9 hi (by decide) e9;simp [bT,hi,hk,g,er,e9,e3,Stp.dat,szl,aJ];rw [ec d h i hi]
   ·simp [-List.map_append,hne,hat,prP,hi,aJ,szl,h7',hz2];simp [hpr]
   ·exact fun _ _ _=>rfl
   ·intro x _ u s;simp [hi,e3]
   ·intro x _ u s;simp [hi,szl]
def sL (s:S3):∃ r:Stp×S3,(Sok r.1/\bY7 r.1)/\∀ (d:Nat) (h:aA) (i:Nat) (c:Cell),Stf c s->i < h.length->aE T (d+4) "_law_step" [.c i] (h.set i c)=some (r.1.dat,h.set i (stL r.2)):=by
 have h0:=dZ s (b:=9) (by decide);have h9:=eE s (b:=9) (by decide)
 by_cases k5:aO s 9 < 5
 ·exact ⟨(.call (.one (pF (digS s 9)).1),(pF (digS s 9)).2),⟨aM7 _,p_v _⟩,fun d h i c hc hi=>aB9 s k5 d h hc hi⟩
 have:aO s 9=5\/aO s 9=6\/aO s 9=7\/aO s 9=8:=by omega
 rcases this with k | k | k | k
 ·obtain ⟨r,hr,e⟩:=aW4 s k;exact ⟨(.call r.1,r.2),hr,e⟩
 ·obtain ⟨r,hr,e⟩:=aW5 s k;exact ⟨(.call r.1,r.2),hr,e⟩
 ·obtain ⟨r,hr,e⟩:=aW6 s k;exact ⟨(.look r.1,r.2),⟨hr.1,True.intro⟩,e⟩
 ·obtain ⟨ps,s',hr,e⟩:=aW8 s k;exact ⟨(.lay ps,s'),hr,e⟩
def sF (s:S3):Stp×S3:=(sL s).choose
def aW9 (s:S3):Sok (sF s).1:=(sL s).choose_spec.1.1
def aX0 (d:Nat) (h:aA) {i:Nat} {c:Cell} {s:S3} (hc:Stf c s) (hi:i < h.length):aE T (d+4) "_law_step" [.c i] (h.set i c)=some ((sF s).1.dat,h.set i (stL (sF s).2)):=(sL s).choose_spec.2 d h i c hc hi
@[simp] theorem bL7 (d:Nat) (h:aA) {i:Nat} (s:S3) (hi:i < h.length):aE T (d+4) "_law_step" [.c i] (h.set i (stL s))=some ((sF s).1.dat,h.set i (stL (sF s).2)):=aX0 d h (stf s) hi
end K24

namespace K24
open PySem PySem.Spec PyProof.Rows L2 DL CI SJ
theorem uK {n:Nat}:∀ (l:List Nat) (a:Nat),l.Pairwise (· < ·)->(∀ x∈l,a<=x/\x < n)->a<=n->l.length+a<=n
 | [],a,_,_,h=>by simpa using h
 | x::r,a,hp,hb,h=>by
  have hp':=List.pairwise_cons.mp hp;have hx:=hb x List.mem_cons_self;have:=uK r (x+1) hp'.2 (fun y hy=>⟨hp'.1 y hy,(hb y (List.mem_cons_of_mem _ hy)).2⟩) hx.2;rw [List.length_cons];omega
def yA {ps:List (Nat×Int)} (h:Sok (.lay ps)):ps.length<=8:=by
 have:=uK (n:=8) (ps.map (·.1)) 0 h.2.2.2 (fun x hx=>by
  obtain ⟨p,hp,rfl⟩:=List.mem_map.mp hx;exact ⟨Nat.zero_le _,h.2.2.1 p hp⟩) (by decide)
 simpa using this
variable (d:Nat) (h:aA)
def dnC (st:List Int):SJ.Call->SJ.Ans×List Int
 | .one o=>(.one (sd st o).1,(sd st o).2)
 | .span lo hi=>(.all ((st.drop lo).take (hi - lo)),st)
 | .deal cs=>(.each (dr st cs).1,(dr st cs).2)
def aX1 {c:SJ.Call} (hc:c.ok) {st:List Int} (hl:st.length=8):(dnC st c).2.length=8:=by
 cases c with
 | one o=>rw [<- hl];exact wH (by rw [hl];exact hc)
 | span lo hi=>exact hl
 | deal cs=>rw [<- hl];exact wJ cs st fun o ho=>by rw [hl];exact hc.2.2 o ho
def kJ {c:SJ.Call} (hc:c.ok) {st:List Int} (hl:st.length=8):Ans.fits c (dnC st c).1:=by
 cases c with
 | one o=>exact xX st o
 | span lo hi =>
  have h1:=hc.1;have h2:=hc.2;show ((st.drop lo).take (hi - lo)).length=hi - lo;simp;omega
 | deal cs=>exact aM2 cs st
def qH {c:SJ.Call} (hc:c.ok) (st:List Int) (hl:st.length=8):aE T (d+4) "done" [.d (.tuple (st.map .int)),.d c.dat] h=some (.tuple [(dnC st c).1.dat,.tuple ((dnC st c).2.map .int)],h):=by
 cases c with
 | one o=>exact aM4 (d+1) h o st hc hl
 | span lo hi=>exact aB8 (d+3) h lo hi (Nat.le_of_lt hc.1) hc.2 st hl
 | deal cs=>exact aB6 d h cs hc.2.2 (by have:=hc.1;omega) st hl
def dnS (st:List Int):Stp->PyData×List Int
 | .call c=>((dnC st c).1.dat,(dnC st c).2)
 | .look c=>((dnC st c).1.dat,st)
 | .lay ps=>(.tuple [.str "done"],ly st ps)
def yB {p:Stp} (hp:Sok p) {st:List Int} (hl:st.length=8):(dnS st p).2.length=8:=by
 cases p with
 | call c=>exact aX1 hp hl
 | look c=>exact hl
 | lay ps=>rw [<- hl];exact aM3 ps st fun p hp'=>by rw [hl];exact hp.2.2.1 p hp'
def aM9 {p:Stp} (hp:Sok p) {st:List Int} (hl:st.length=8):aE T (d+5) "done" [.d (.tuple (st.map .int)),.d p.dat] h=some (.tuple [(dnS st p).1,.tuple ((dnS st p).2.map .int)],h):=by
 cases p with
 | call c=>exact qH (d+1) h hp st hl
 | look c=>exact aB7 d h fun h=>qH d h hp st hl
 | lay ps=>exact aM5 (d+2) h ps hp.2.2.1 st hl
def mR:Stp->PyData->Bool
 | .call c,t=>aK t "refused" 1||bM c t
 | .look c,t=>!aK t "refused" 1&&bM c t
 | .lay _,t=>!aK t "refused" 1&&aK t "done" 1
def bL8 (a:SJ.Ans):aK a.dat "refused" 1=false:=by
 cases a with
 | one a=>cases a<;>simp [Ans.dat,An1.dat,aK]
 | all ns=>simp [Ans.dat,aK]
 | each as=>simp [Ans.dat,aK]
def kK {c:SJ.Call} (hc:c.ok) {a:SJ.Ans} (hf:Ans.fits c a):mR (.call c) a.dat=true/\mR (.look c) a.dat=true:=by
 simp [mR,aA6 hf hc,bL8]
end K24

namespace K24
open PySem PySem.Spec PyProof.Rows L2 DL CI SJ
variable (d:Nat) (h:aA) (t:PyData)
def aN0 (c:SJ.Call):aE T (d+5) "is_own_answer" [.d (.tuple [.str "look",c.dat]),.d t] h=some (.bool (bM c t),h):=by
 rw [show d+5=(d+4)+1 from rfl,bG];simp [PyData.eqv,szl,oG]
def aX2 (ps:PyData):aE T (d+5) "is_own_answer" [.d (.tuple [.str "lay",ps]),.d t] h=some (.bool (aK t "done" 1),h):=by
 simp [bG,PyData.eqv,szl]
def aN1 {c:SJ.Call} (hc:c.ok):aE T (d+9) "is_answer" [.d (.tuple [.str "look",c.dat]),.d t] h=some (.bool (!aK t "refused" 1&&bM c t),h):=by
 have hs:eJ (.tuple [.str "look",c.dat])=true:=by
  cases c with
  | one o=>cases o<;>simp [Call.dat,One.dat,eJ]
  | span lo hi=>simp [Call.dat,eJ]
  | deal cs=>simp [Call.dat,eJ]
 simp [iG,dY (d) _ h hs,(iM hc).2.1,(iM hc).1];cases e:aK t (Str.ofString "refused") 1
 ·simp [aN0 (d+3)]
 ·simp [(iM hc).1]
def aX3 {ps:List (Nat×Int)} (hp:Sok (.lay ps)):aE T (d+9) "is_answer" [.d (.tuple [.str "lay",.tuple (ps.map prP)]),.d t] h=some (.bool (!aK t "refused" 1&&aK t "done" 1),h):=by
 have hl:=yA hp;have hs:eJ (.tuple [.str "lay",.tuple (ps.map prP)])=true:=by simp [eJ];omega
 have hg:=aL4 hp.1 hp.2.2.2 hp.2.2.1 hl;simp [iG,dY (d) _ h hs,hg];cases e:aK t (Str.ofString "refused") 1
 ·simp [aX2 (d+3)]
 ·simp [hg]
def aN2 {p:Stp} (hp:Sok p):aE T (d+9) "is_answer" [.d p.dat,.d t] h=some (.bool (mR p t),h):=by
 cases p with
 | call c=>exact oI d t h hp
 | look c=>exact aN1 d h t hp
 | lay ps=>exact aX3 d h t hp
def oM {p:Stp} (hp:Sok p):aE T (d+8) "is_step" [.d p.dat] h=some (.bool true,h):=by
 cases p with
 | call c =>
  rw [show (Stp.call c).dat=c.dat from rfl,dY _ _ _ (oH hp),(gF hp).2.1]
 | look c =>
  have hs:eJ (.tuple [.str "look",c.dat])=true:=by
   cases c with
   | one o=>cases o<;>simp [Call.dat,One.dat,eJ]
   | span lo hi=>simp [Call.dat,eJ]
   | deal cs=>simp [Call.dat,eJ]
  rw [show (Stp.look c).dat=.tuple [.str "look",c.dat] from rfl,dY _ _ _ hs,(iM hp).2.1]
 | lay ps=>exact wG d h hp.1 (by have:=yA hp;omega) hp.2.2.1 hp.2.2.2
def oZ:An1->An1
 | .got v=>.got (v+1)
 | .yes=>.no
 | .no=>.yes
 | .dn=>.dn
def aC0:SJ.Ans->SJ.Ans
 | .one a=>.one (oZ a)
 | .all ns=>.all ((ns.headD 0 - 1)::ns.tail)
 | .each as=>.each (as.map oZ)
def qI {o:One} {a:An1} (hf:An1.fits o a):An1.fits o (oZ a):=by
 cases o<;>cases a<;>simp [An1.fits] at hf<;>simp [An1.fits,oZ]
theorem qJ:∀ {os:List One} {as:List An1},Fit2 os as->Fit2 os (as.map oZ)
 | _,_,.nil=>.nil
 | _,_,.cons h t=>.cons (qI h) (qJ t)
def uL {c:SJ.Call} (hc:c.ok) {a:SJ.Ans} (hf:Ans.fits c a):Ans.fits c (aC0 a):=by
 cases c<;>cases a<;>simp only [Ans.fits] at hf<;>first | exact hf.elim | skip
 ·exact qI hf
 ·rename_i lo hi ns;have:=hc.1;show ((ns.headD 0 - 1)::ns.tail).length=hi - lo;simp;omega
 ·exact qJ hf
def wK (a:An1):aE T (d+1) "_law_altered" [.d a.dat] h=some ((oZ a).dat,h):=by
 cases a<;>simp [fK,An1.dat,oZ,szl]
def aN3 (a:SJ.Ans) (ha:∀ ns,a=.all ns->ns≠[]/\ns.length<=8):aE T (d+2) "_law_altered" [.d a.dat] h=some ((aC0 a).dat,h):=by
 cases a with
 | one a=>exact wK (d+1) h a
 | all ns =>
  cases ns with
  | nil=>exact absurd rfl (ha [] rfl).1
  | cons n r =>
   have:=aV6 (.int n) (r.map .int);have hr:1+r.length<=16777216:=by have:=(ha _ rfl).2;simp at this;omega
   simp [fK,Ans.dat,aC0,szl,this,hr]
 | each as =>
  rw [show d+2=(d+1)+1 from rfl,fK];simp [Ans.dat,aC0,szl];have e1:as.map An1.dat=(as.map fun a=>(a.dat,(oZ a).dat)).map (·.1):=by simp
  have e2:as.map (fun a=>(oZ a).dat)=(as.map fun a=>(a.dat,(oZ a).dat)).map (·.2):=by simp
  rw [e1,dX (fun δ=>∃ x,δ=[x])]
  ·simp [Function.comp_def]
  ·exact ⟨_,rfl⟩
  ·rintro q hq δ ⟨x,rfl⟩;obtain ⟨a,ha,rfl⟩:=List.mem_map.mp hq;exact ⟨_,rfl,⟨_,rfl⟩,by simp [wK d]⟩
end K24

namespace K24
open PySem PySem.Spec PyProof.Rows L2 DL CI SJ
structure It where
 p:Stp
 t:PyData
 w:String
def It.dat (x:It):PyData:=.tuple [x.p.dat,x.t,.str (Str.ofString x.w)]
noncomputable def aC1:PyData:=.tuple [.str "refused"]
def tOk (t:PyData):Prop:=t=.none\/t=aC1\/∃ a:SJ.Ans,t=a.dat
structure It.ok (x:It):Prop where
 s:Sok x.p
 a:x.t=.none\/mR x.p x.t=true
 t:tOk x.t
 w:x.w="must"\/x.w="may"\/x.w="out"
variable (d:Nat) (h:aA)
theorem t_cases {t:PyData} (ht:tOk t):t=.none\/∃ xs,t=.tuple xs:=by
 rcases ht with rfl | rfl | ⟨a,rfl⟩
 ·exact .inl rfl
 ·exact .inr ⟨_,rfl⟩
 ·right;cases a with
  | one a=>cases a<;>exact ⟨_,rfl⟩
  | all ns=>exact ⟨_,rfl⟩
  | each as=>exact ⟨_,rfl⟩
def uM {w:String} (hw:w="must"\/w="may"\/w="out"):xIn (.d (.str (Str.ofString w))) (.d (.tuple [.str (Str.ofString "must"),.str (Str.ofString "may"),.str (Str.ofString "out")])) h=some true:=by
 rcases hw with rfl | rfl | rfl<;>simp [xIn,ref,PyData.eqv]
theorem gR {α:Type} (f:α->PyData):∀ xs:List α,eT (xs.map ((fun _=>PyData.bool true) ∘ f))=some (xs.map fun _=>true)
 | []=>rfl
 | x::r=>by
  show eT (.bool true::r.map ((fun _=>PyData.bool true) ∘ f))=_;rw [eT,gR f r];rfl
def qK {x:It} (hx:x.ok):aE T (d+10) "is_item" [.d x.dat] h=some (.bool true,h):=by
 obtain ⟨p,t,w⟩:=x;obtain ⟨hs,ha,ht,hw⟩:=hx;dsimp only at hs ha ht hw;have e1:=oM (d+1) h hs;have e2:=aN2 d h t hs;rcases t_cases ht with rfl | ⟨xs,rfl⟩
 ·simp [gG,It.dat,bP,e1,isi,dU,uM h hw]
 ·have ha':mR p (.tuple xs)=true:=by
   rcases ha with ha | ha
   ·cases ha
   ·exact ha
  rw [ha'] at e2;simp [gG,It.dat,bP,e1,e2,isi,dU,uM h hw]
def mG {xs:List It} (hx:∀ x∈xs,x.ok) (hl:xs.length<=120):aE T (d+11) "are_items" [.d (.tuple (xs.map It.dat))] h=some (.bool true,h):=by
 have hl':(xs.length:Int)<=120:=by omega
 simp [iH,isi,dU,hl',aJ];rw [bL (fun x=>.bool true) 0 (fun _ _ _=>rfl)]
 ·simp [gR]
 ·intro y hy u;obtain ⟨x,hx',rfl⟩:=List.mem_map.mp hy;simp [qK d h (hx x hx')]
def qL {ns:List Int} {n:Int} (hb:∀ x∈ns,0<=x/\x < n):aE T (d+3) "are_numbers" [.d (.tuple (ns.map .int)),.d (.int n)] h=some (.bool true,h):=by
 simp [iU,aJ];rw [bL (fun x=>.bool true) 0 (fun _ _ _=>rfl)]
 ·simp [gR]
 ·intro y hy u;obtain ⟨x,hx',rfl⟩:=List.mem_map.mp hy;have:=hb x hx';simp [bR,fO];omega
theorem qM:∀ ns:List Int,dQ (ns.map .int)=some ns
 | []=>rfl
 | a::r=>by simp [dQ,qM r]
def aN4 {ns:List Int} (h:ns.Nodup):ST.dd ns=ns:=by
 unfold ST.dd
 suffices H:∀ (l ac:List Int),(ac++l).Nodup->l.foldl step_dedup ac=ac++l by simpa using H ns [] (by simpa using h)
 intro l;induction l with
 | nil=>simp
 | cons a r ih =>
  intro ac hn;rw [List.foldl_cons];have hna:a∉ac:=fun hm=>by
   have:=(List.nodup_append.mp hn).2.2 a hm a List.mem_cons_self;exact this rfl
  have e:step_dedup ac a=ac++[a]:=by
   unfold step_dedup;simp [hna]
  rw [e,ih (ac++[a]) (by simpa using hn)];simp
def lsT (xs:List PyData) (h:aA):xLS [.d (.tuple xs)] h=(match dQ xs with | some ns=>if ns.length<=62 then some (.d (.int (ST.dd ns).length),h) else none | none=>none):=rfl
def kM {ns:List Int} {n:Int} (hb:∀ x∈ns,0<=x/\x < n) (hd:ns.Nodup) (hl:ns.length<=62):aE T (d+4) "are_unlike" [.d (.tuple (ns.map .int)),.d (.int ns.length),.d (.int n)] h=some (.bool true,h):=by
 have e:=qL d h hb;simp [gN,bP,e,lsT,qM,aN4 hd,hl]
end K24

namespace K24
open PySem PySem.Spec PyProof.Rows L2 DL CI SJ
variable (d:Nat) (h:aA)
noncomputable def p2 (p:Nat×Nat):PyData:=.tuple [.int p.1,.int p.2]
noncomputable def p3 (p:Nat×Nat×Nat):PyData:=.tuple [.int p.1,.int p.2.1,.int p.2.2]
structure Pb where
 st:List Int
 its:List It
 ps:List (Nat×Nat)
 ts:List (Nat×Nat×Nat)
def Pb.dat (b:Pb):PyData:=.tuple [.tuple (b.st.map .int),.tuple (b.its.map It.dat),.tuple (b.ps.map p2),.tuple (b.ts.map p3)]
def must (its:List It) (x:Nat):Prop:=∃ y,its[x]?=some y/\y.w="must"
structure Pb.ok (b:Pb):Prop where
 st:b.st.length=8
 il:b.its.length<=120
 its:∀ x∈b.its,x.ok
 pl:b.ps.length<=100
 ps:∀ p∈b.ps,p.1 < b.its.length/\p.2 < b.its.length/\p.1≠p.2
 tl:b.ts.length<=100
 ts:∀ p∈b.ts,p.1 < b.its.length/\p.2.1 < b.its.length/\p.2.2 < b.its.length/\p.1≠p.2.1/\p.1≠p.2.2/\p.2.1≠p.2.2/\must b.its p.1/\must b.its p.2.1
def mH {ps:List (Nat×Nat)} {n:Nat} (hl:ps.length<=100) (hp:∀ p∈ps,p.1 < n/\p.2 < n/\p.1≠p.2):aE T (d+5) "are_pairs" [.d (.tuple (ps.map p2)),.d (.int n)] h=some (.bool true,h):=by
 have hl':¬ (4000:Int) < ps.length:=by omega
 simp [iI,isi,dU,hl',aJ];rw [bL (fun x=>.bool true) 0 (fun _ _ _=>rfl)]
 ·simp [gR]
 ·intro y hy u;obtain ⟨p,hm,rfl⟩:=List.mem_map.mp hy;obtain ⟨h1,h2,h3⟩:=hp p hm;have e:=kM d h (ns:=[(p.1:Int),(p.2:Int)]) (n:=n) (by simp;omega) (by simp;omega) (by simp);have e':aE T (d+4) "are_unlike" [.d (p2 p),.d (.int 2),.d (.int n)] h=some (.bool true,h):=e;simp [e']
def kN {its:List It} {x:Nat} {y:It} (e:its[x]?=some y):atI (its.map It.dat) (x:Int)=some y.dat:=by
 have hx:x < its.length:=(List.getElem?_eq_some_iff.mp e).1;exact eW (by simp [e])
def pA {its:List It} {ts:List (Nat×Nat×Nat)} (hl:ts.length<=100) (hp:∀ p∈ts,p.1 < its.length/\p.2.1 < its.length/\p.2.2 < its.length/\p.1≠p.2.1/\p.1≠p.2.2/\p.2.1≠p.2.2/\must its p.1/\must its p.2.1):aE T (d+5) "are_triples" [.d (.tuple (ts.map p3)),.d (.tuple (its.map It.dat))] h=some (.bool true,h):=by
 have hl':¬ (4000:Int) < ts.length:=by omega
 simp [iV,isi,dU,hl',aJ];rw [bL (fun x=>.bool true) 0 (fun _ _ _=>rfl)]
 ·simp [gR];rw [qB (fun _=>.bool true) (fun δ=>∃ a b c,δ=[a,b,c,some (.d (.tuple (its.map It.dat)))])]
  ·simp [gR]
  ·exact ⟨_,_,_,rfl⟩
  ·rintro y hy δ ⟨a,b,c,rfl⟩;obtain ⟨p,hm,rfl⟩:=List.mem_map.mp hy;obtain ⟨h1,h2,h3,h4,h5,h6,⟨x1,e1,w1⟩,⟨x2,e2,w2⟩⟩:=hp p hm;refine ⟨[some (.d (.int p.1)),some (.d (.int p.2.1)),some (.d (.int p.2.2)),_],by simp [p3],⟨_,_,_,rfl⟩,?_⟩;simp [kN e1,kN e2,It.dat,w1,w2,PyData.eqv]
 ·intro y hy u;obtain ⟨p,hm,rfl⟩:=List.mem_map.mp hy;obtain ⟨h1,h2,h3,h4,h5,h6,_⟩:=hp p hm;have e:=kM d h (ns:=[(p.1:Int),(p.2.1:Int),(p.2.2:Int)]) (n:=its.length) (by simp;omega) (by simp;omega) (by simp);have e':aE T (d+4) "are_unlike" [.d (p3 p),.d (.int 3),.d (.int its.length)] h=some (.bool true,h):=e;simp [e']
def cO {st:List Int} (hl:st.length=8):aE T (d+3) "is_stand" [.d (.tuple (st.map .int))] h=some (.bool true,h):=by
 have:=eI d h (st.map .int);simp [fH,bP,hl];simp [fO]
def sM {b:Pb} (hb:b.ok):aE T (d+12) "is_problem" [.d b.dat] h=some (.bool true,h):=by
 have e1:=cO (d+8) h hb.st;have e2:=mG d h hb.its (by have:=hb.il;omega);have e3:=mH (d+6) h hb.pl hb.ps;have e4:=pA (d+6) h hb.tl hb.ts;simp [cS,Pb.dat,bP,e1,e2,e3,e4]
def aX4 {b:Pb} (hb:b.ok):aE T (d+13) "check_problem" [.d b.dat] h=some (.none,h):=by
 simp [mQ,sM d h hb]
end K24

namespace K24
open PySem PySem.Spec PyProof.Rows L2 DL CI SJ
variable (d:Nat) (h:aA)
def aN5 (a:An1) (n:Nat):aN (n+1) a.dat=true:=by cases a<;>simp [An1.dat]
theorem iO:∀ (ns:List Int) (n:Nat),plainsB n (ns.map .int)=true
 | [],n=>by simp
 | a::r,n=>by simp [iO r]
theorem yC:∀ (as:List An1) (n:Nat),plainsB (n+1) (as.map An1.dat)=true
 | [],n=>by simp
 | a::r,n=>by simp [aN5,yC r]
def bL9 (a:SJ.Ans):aN 64 a.dat=true:=by
 cases a with
 | one a=>exact aN5 a 63
 | all ns=>simp [Ans.dat,iO]
 | each as=>simp [Ans.dat,yC]
def bY8 {t:PyData} (ht:tOk t):aN 64 t=true:=by
 rcases ht with rfl | rfl | ⟨a,rfl⟩
 ·simp
 ·simp [aC1]
 ·exact bL9 a
def bM0 (st:List Int) (p:Stp):tOk (dnS st p).1/\(dnS st p).1≠.none:=by
 have na:∀ a:SJ.Ans,a.dat≠.none:=fun a=>by
  cases a with
  | one a=>cases a<;>simp [Ans.dat,An1.dat]
  | all ns=>simp [Ans.dat]
  | each as=>simp [Ans.dat]
 cases p with
 | call c=>exact ⟨.inr (.inr ⟨_,rfl⟩),na _⟩
 | look c=>exact ⟨.inr (.inr ⟨_,rfl⟩),na _⟩
 | lay ps=>exact ⟨.inr (.inr ⟨.one .dn,rfl⟩),by simp [dnS]⟩
open Classical in
def bh (st:List Int) (y:It):PyData:=if y.t=.none\/PyData.eqv y.t (dnS st y.p).1=true then .tuple ((dnS st y.p).2.map .int) else .none
def cO3 {a b:PyData} (ha:tOk a) (hb:tOk b):xEq (.d a) (.d b) h=some (PyData.eqv a b):=by
 simp [xEq,ref,bY8 ha,bY8 hb]
def bY9 {its:List It} {st:List Int} {j x:Nat} {y:It} {fs:List (Str×W)} (ey:its[x]?=some y) (hy:y.ok) (hl:st.length=8) (ho:h[j]?=some (.o 280 fs)) (hf:fs.lookup (Str.ofString "listed")=some (.d (.tuple (its.map It.dat)))) :
  callM T (d+6) "stand_behind" [.c j,.d (.tuple (st.map .int)),.d (.int x)] h=some (.d (bh st y),h):=by
 have e1:=aM9 d h hy.s hl;have e2:=kN ey;have e3:T.fo 280 (Str.ofString "listed")=true:=by decide +kernel
 have e4:=cO3 h hy.t (bM0 st y.p).1;obtain ⟨p,t,w⟩:=y;dsimp only at e1 e4;rcases t_cases hy.t with rfl | ⟨xs,rfl⟩
 ·simp [hL,ho,hf,e3,e1,e2,It.dat,bh]
 ·cases hq:PyData.eqv (.tuple xs) (dnS st p).1<;>simp [hL,ho,hf,e3,e1,e2,e4,It.dat,bh,hq]
end K24

namespace K24
open PySem PySem.Spec PyProof.Rows L2 DL CI SJ
noncomputable def nI (k:Nat):PyData:=.int k
noncomputable def gD (its:List It) (k:Nat):Bool:=match its[k]? with
 | some y=>decide (y.w="must")
 | none=>false
def mus (its:List It):List Nat:=(List.range its.length).filter (gD its)
def ahL (its:List It) (ps:List (Nat×Nat)) (x:Nat):List Nat:=(ps.filter fun p=>decide (p.2=x)&&gD its p.1).map (·.1)
noncomputable def laL (ps:List (Nat×Nat)) (x:Nat):List Nat:=(ps.filter fun p=>decide (p.1=x)).map (·.2)
noncomputable def gaL (ts:List (Nat×Nat×Nat)) (x:Nat):List (Nat×Nat):=(ts.filter fun t=>decide (t.2.2=x)).map fun t=>(t.1,t.2.1)
def Gf (its:List It) (ps:List (Nat×Nat)) (ts:List (Nat×Nat×Nat)) (k x:Nat):List PyData:=if k=0 then (ahL its ps x).map nI else if k=1 then (laL ps x).map nI else (gaL ts x).map p2
def wL (its:List It) (ps:List (Nat×Nat)) (ts:List (Nat×Nat×Nat)) (k x:Nat):(Gf its ps ts k x).length<=ps.length+ts.length:=by
 unfold Gf ahL laL gaL;have h1:=List.length_filter_le (fun p=>decide (p.2=x)&&gD its p.1) ps;have h2:=List.length_filter_le (fun p=>decide (p.1=x)) ps;have h3:=List.length_filter_le (fun t=>decide (t.2.2=x)) ts;split
 ·simp;omega
 split
 ·simp;omega
 ·simp;omega
theorem bB1 {n k k' y y':Nat} (hy:y<=n) (h:k < k'):k*(n+1)+y < k'*(n+1)+y':=by
 have:(k+1)*(n+1)<=k'*(n+1):=Nat.mul_le_mul_right _ h;rw [Nat.succ_mul] at this;omega
def aN6 {n k k' y y':Nat} (hy:y<=n) (hy':y'<=n) (e:k*(n+1)+y=k'*(n+1)+y'):k=k'/\y=y':=by
 rcases Nat.lt_trichotomy k k' with h | h | h
 ·have:=bB1 (y':=y') hy h;omega
 ·subst h;omega
 ·have:=bB1 (y':=y) hy' h;omega
structure Wz (h0:aA) (n:Nat) (fs:List (Str×W)) (t:Nat) (G:Nat->Nat->List PyData) (H:aA):Prop where
 ln:H.length=h0.length+1+t*(n+1)
 sm:∀ i,i < h0.length->H[i]?=h0[i]?
 ob:H[h0.length]?=some (.o 280 fs)
 el:∀ k,k < t->∀ y,y < n->H[h0.length+1+(k*(n+1)+y)]?=some (.l (G k y))
 rl:∀ k,k < t->H[h0.length+1+(k*(n+1)+n)]?=some (.r (List.range' (h0.length+1+k*(n+1)) n))
variable {h0 H:aA} {n t:Nat} {fs:List (Str×W)} {G:Nat->Nat->List PyData}
theorem Wz.put (w:Wz h0 n fs t G H) (fs':List (Str×W)):Wz h0 n fs' t G (H.set h0.length (.o 280 fs')) where
 ln:=by rw [List.length_set];exact w.ln
 sm i hi:=by rw [List.getElem?_set_ne (by omega)];exact w.sm i hi
 ob:=by rw [List.getElem?_set_self (List.getElem?_eq_some_iff.mp w.ob).1]
 el k hk y hy:=by rw [List.getElem?_set_ne (by omega)];exact w.el k hk y hy
 rl k hk:=by rw [List.getElem?_set_ne (by omega)];exact w.rl k hk
def Wz.app (w:Wz h0 n fs t G H) {k y:Nat} (hk:k < t) (hy:y < n) {G':Nat->Nat->List PyData} {x:PyData} (h1:G' k y=G k y++[x]) (h2:∀ k' y',¬ (k'=k/\y'=y)->G' k' y'=G k' y'):Wz h0 n fs t G' (H.set (h0.length+1+(k*(n+1)+y)) (.l (G k y++[x]))) where
 ln:=by rw [List.length_set];exact w.ln
 sm i hi:=by rw [List.getElem?_set_ne (by omega)];exact w.sm i hi
 ob:=by rw [List.getElem?_set_ne (by omega)];exact w.ob
 el k' hk' y' hy':=by
  by_cases q:k'=k/\y'=y
  ·obtain ⟨rfl,rfl⟩:=q;rw [List.getElem?_set_self (List.getElem?_eq_some_iff.mp (w.el k' hk' y' hy')).1,h1]
  ·rw [List.getElem?_set_ne (fun z=>q ?_),w.el k' hk' y' hy',h2 k' y' q];have:=aN6 (n:=n) (k:=k) (k':=k') (y:=y) (y':=y') (by omega) (by omega) (by omega);omega
 rl k' hk':=by
  rw [List.getElem?_set_ne (fun z=>?_)]
  ·exact w.rl k' hk'
  ·have:=aN6 (n:=n) (k:=k) (k':=k') (y:=y) (y':=n) (by omega) (by omega) (by omega);omega
theorem bZ0 {all:List PyData} {tt:XR W} (ht:∀ δ h,tt δ h=some (.c h.length,h++[.l []])) {g:XG} (hg:∀ w δ h,∃ δ1,g w δ h=some (δ1,h)):∀ (rest:List PyData) (δ:DSt) (H:aA) (ac:List Nat),
  dK g (aD true) tt none all rest δ H ac=some (ac++List.range' H.length rest.length,H++List.replicate rest.length (.l []))
 | [],δ,H,ac=>by simp [dK]
 | x::r,δ,H,ac=>by
  obtain ⟨δ1,e1⟩:=hg (.d x) δ H;have e:=bZ0 (all:=all) ht hg r δ1 (H++[.l []]) (ac++[H.length]);rw [dK,cR,if_pos rfl,e1];simp [ht,e,List.range'_succ,List.replicate_succ]
theorem Wz.new (w:Wz h0 n fs t G H) (hG:∀ y,G t y=[]):Wz h0 n fs (t+1) G (H++List.replicate n (.l [])++[.r (List.range' H.length n)]) where
 ln:=by have:=w.ln;simp [Nat.succ_mul];omega
 sm i hi:=by
  have:=w.ln;rw [List.append_assoc,List.getElem?_append_left (by omega)];exact w.sm i hi
 ob:=by
  have:=w.ln;rw [List.append_assoc,List.getElem?_append_left (by omega)];exact w.ob
 el k hk y hy:=by
  have hl:=w.ln
  by_cases q:k=t
  ·subst q;rw [List.append_assoc,List.getElem?_append_right (by omega),List.getElem?_append_left (by simp;omega),hG,List.getElem?_replicate,if_pos (by omega)]
  ·have:=w.el k (by omega) y hy;rw [List.append_assoc,List.getElem?_append_left (List.getElem?_eq_some_iff.mp this).1];exact this
 rl k hk:=by
  have hl:=w.ln
  by_cases q:k=t
  ·subst q;rw [List.getElem?_append_right (by simp;omega)];have:h0.length+1+(k*(n+1)+n) - (H++List.replicate n (Cell.l [])).length=0:=by simp;omega
   rw [this,hl];rfl
  ·have:=w.rl k (by omega);rw [List.append_assoc,List.getElem?_append_left (List.getElem?_eq_some_iff.mp this).1];exact this
end K24

namespace K24
open PySem PySem.Spec PyProof.Rows L2 DL CI SJ
section
variable {x:Option (Fl×aA)} {k:DSt->Fl×aA->Option (Fl×aA)} (δ:DSt) (h:aA) (e:x=some (.nx δ,h))
include e
def sy {R:Option (Fl×aA)} (kk:k δ (.nx δ,h)=R):YP x (YQ k)=R:=by
 rw [e];exact kk
def sys {P:DSt->aA->Prop} (kk:∃ δ2 h2,k δ (.nx δ,h)=some (.nx δ2,h2)/\P δ2 h2):∃ δ2 h2,YP x (YQ k)=some (.nx δ2,h2)/\P δ2 h2:=by
 rw [e];exact kk
end
def fin {x:Option (Fl×aA)} {P:DSt->aA->Prop} {Q:aA->Prop} (hq:∀ δ H,P δ H->Q H) (e:∃ δ H,x=some (.nx δ,H)/\P δ H):∃ H,x.bind fR=some (.d .none,H)/\Q H:=by
 obtain ⟨δ,H,rfl,p⟩:=e;exact ⟨H,rfl,hq δ H p⟩
def uN:T.fo 280 (Str.ofString "first")=true/\T.fo 280 (Str.ofString "listed")=true/\T.fo 280 (Str.ofString "musts")=true/\T.fo 280 (Str.ofString "ahead")=true/\T.fo 280 (Str.ofString "later")=true/\T.fo 280 (Str.ofString "gaps")=true:=by decide +kernel
def F6 (b:Pb) (x y z:Nat):List (Str×W):=[("first",.d (.tuple (b.st.map .int))),("listed",.d (.tuple (b.its.map It.dat))),("musts",.d (.list ((mus b.its).map nI))),("ahead",.c x),("later",.c y),("gaps",.c z)]
noncomputable def isM:PyData->Bool
 | .tuple [_,.tuple [_,_,.str w]]=>w==Str.ofString "must"
 | _=>false
def aN7 (a b c:PyData) (w:Str):isM (.tuple [a,.tuple [b,c,.str w]])=(w==Str.ofString "must"):=rfl
noncomputable def aN8:PyData->PyData
 | .tuple [k,_]=>k
 | _=>.none
def bZ1 (a b:PyData):aN8 (.tuple [a,b])=a:=rfl
theorem kO:∀ (xs:List PyData) (k:Nat),enumF k xs=(List.range xs.length).map fun i=>.tuple [.int (k+i:Nat),xs.getD i .none]
 | [],k=>rfl
 | x::r,k=>by
  rw [enumF,kO r (k+1),List.length_cons,List.range_succ_eq_map,List.map_cons,List.map_map]
  congr 1
  refine List.map_congr_left fun i _=>?_;simp;omega
def aN9 (its:List It):((bF (its.map It.dat)).filter isM).map aN8=(mus its).map nI:=by
 unfold bF;rw [kO,List.filter_map,List.map_map,List.length_map];unfold mus;rw [List.filter_congr (q:=gD its) fun k hk=>?_]
 ·refine List.map_congr_left fun k _=>?_;simp [bZ1,nI]
 ·have hk:=List.mem_range.mp hk;rw [Bool.eq_iff_iff];simp [aN7,gD,hk,It.dat]
def bM1 {h0 H:aA} {n t:Nat} {fs:List (Str×W)} {G:Nat->Nat->List PyData} (w:Wz h0 n fs t G H) {k y:Nat} (hk:k < t) (hy:y < n):xIx (.c (h0.length+1+(k*(n+1)+n))) (.d (.int y)) H=some (.c (h0.length+1+(k*(n+1)+y)),H):=by
 have e:=w.rl k hk;have:atI (List.range' (h0.length+1+k*(n+1)) n) (y:Int)=some (h0.length+1+(k*(n+1)+y)):=by
  apply eW;rw [List.getElem?_range' (by omega)];simp;omega
 unfold xIx ref xIr;simp [e,this]
def JZ (h0:aA) (n:Nat) (δ0:DSt) (fs:List (Str×W)) (t:Nat) (δ:DSt) (H:aA):Prop:=δ=δ0/\Wz h0 n fs t (fun _ _=>[]) H
def wM {its:List It} {x:Nat} (hx:x < its.length):atI (its.map It.dat) (x:Int)=some its[x].dat:=kN (List.getElem?_eq_getElem hx)
def RL (h0:aA) (b:Pb) (fs:List (Str×W)) (ps:List (Nat×Nat)) (ts:List (Nat×Nat×Nat)) (δ:DSt) (H:aA):Prop:=(∃ u v w,δ=[some (.c h0.length),some (.d b.dat),u,v,w])/\Wz h0 b.its.length fs 3 (Gf b.its ps ts) H
def bM2 (its:List It) (ps:List (Nat×Nat)) (p:Nat×Nat) (k y:Nat):Gf its (ps++[p]) [] k y=if k=0/\y=p.2/\gD its p.1=true then Gf its ps [] k y++[nI p.1] else if k=1/\y=p.1 then Gf its ps [] k y++[nI p.2] else Gf its ps [] k y:=by
 unfold Gf ahL laL gaL
 by_cases k0:k=0
 ·subst k0
  by_cases hy:p.2=y
  ·cases hm:gD its p.1<;>simp [hy,hm,List.filter_append]
  ·have:¬ y=p.2:=fun z=>hy z.symm;simp [hy,this,List.filter_append]
 by_cases k1:k=1
 ·subst k1
  by_cases hy:p.1=y
  ·simp [hy,List.filter_append]
  ·have:¬ y=p.1:=fun z=>hy z.symm;simp [hy,this,List.filter_append]
 ·simp [k0,k1]
def cO4 (its:List It) (ps:List (Nat×Nat)) (ts:List (Nat×Nat×Nat)) (q:Nat×Nat×Nat) {k:Nat} (hk:k < 3) (y:Nat):Gf its ps (ts++[q]) k y=if k=2/\y=q.2.2 then Gf its ps ts k y++[p2 (q.1,q.2.1)] else Gf its ps ts k y:=by
 unfold Gf gaL
 by_cases k0:k=0
 ·subst k0;simp
 by_cases k1:k=1
 ·subst k1;simp
 have:k=2:=by omega
 subst this
 by_cases hy:q.2.2=y
 ·simp [hy,List.filter_append]
 ·have:¬ y=q.2.2:=fun z=>hy z.symm;simp [hy,this,List.filter_append]
def bM3 (d:Nat) {b:Pb} (hb:b.ok) (h0:aA):∃ H,callI T (d+2) "Ways" [.c h0.length,.d b.dat] (h0++[.o 280 []])=some (.d .none,H)/\Wz h0 b.its.length (F6 b (h0.length+1+(0*(b.its.length+1)+b.its.length)) (h0.length+1+(1*(b.its.length+1)+b.its.length)) (h0.length+1+(2*(b.its.length+1)+b.its.length))) 3 (Gf b.its b.ps b.ts) H:=by
 obtain ⟨f1,f2,f3,f4,f5,f6⟩:=uN;rw [aV5];obtain ⟨n,en⟩:∃ n,n=b.its.length:=⟨_,rfl⟩;obtain ⟨x0,e0⟩:∃ x0,x0=h0.length+1+(0*(n+1)+n):=⟨_,rfl⟩;obtain ⟨x1,e1⟩:∃ x1,x1=h0.length+1+(1*(n+1)+n):=⟨_,rfl⟩;obtain ⟨x2,e2⟩:∃ x2,x2=h0.length+1+(2*(n+1)+n):=⟨_,rfl⟩;rw [<- en,<- e0,<- e1,<- e2];have w0:Wz h0 n [] 0 (fun _ _=>[]) (h0++[.o 280 []]):=⟨by simp,fun i hi=>by rw [List.getElem?_append_left hi],by simp,fun k hk=>absurd hk (by omega),fun k hk=>absurd hk (by omega)⟩;generalize h0++[Cell.o 280 []]=H0 at w0;refine fin (P:=RL h0 b (F6 b x0 x1 x2) b.ps b.ts) (fun _ _ p=>by rw [en];exact p.2) ?_;have w1:=w0.put [(Str.ofString "first",.d (.tuple (b.st.map .int)))];refine sys [some (.c h0.length),some (.d b.dat),none,none,none] (H0.set h0.length (.o 280 [(Str.ofString "first",.d (.tuple (b.st.map .int)))])) (by simp [w0.ob,f1,Pb.dat,fF]) ?_;generalize H0.set h0.length (.o 280 [(Str.ofString "first",.d (.tuple (b.st.map .int)))])=H1 at w1;have w2:=w1.put [(Str.ofString "first",.d (.tuple (b.st.map .int))),(Str.ofString "listed",.d (.tuple (b.its.map It.dat)))];refine sys [some (.c h0.length),some (.d b.dat),none,none,none] (H1.set h0.length (.o 280 [(Str.ofString "first",.d (.tuple (b.st.map .int))),(Str.ofString "listed",.d (.tuple (b.its.map It.dat)))])) (by simp [w1.ob,f2,Pb.dat,fF]) ?_;generalize H1.set h0.length (.o 280 [(Str.ofString "first",.d (.tuple (b.st.map .int))),(Str.ofString "listed",.d (.tuple (b.its.map It.dat)))])=H2 at w2;refine fE (JZ h0 n [some (.c h0.length),some (.d b.dat),none,none,none] [(Str.ofString "first",.d (.tuple (b.st.map .int))),(Str.ofString "listed",.d (.tuple (b.its.map It.dat))),(Str.ofString "musts",.d (.list ((mus b.its).map nI)))] 0) ?_ ?_
 ·simp [w2.ob,f2,f3,jJ,aJ,List.lookup];rw [eX isM aN8 (fun δ=>∃ a b,δ=[a,b])]
  ·rw [List.nil_append,aN9];simp [w2.ob,f3,fF];exact ⟨_,_,⟨rfl,rfl⟩,rfl,w2.put _⟩
  ·exact ⟨_,_,rfl⟩
  ·rintro z hz δ ⟨a,b',rfl⟩;unfold bF at hz;rw [kO] at hz;obtain ⟨k,hk,rfl⟩:=List.mem_map.mp hz;have hk:k < b.its.length:=by simpa using hk
   exact ⟨[some (.d (.int (0+k:Nat))),some (.d b.its[k].dat)],by simp [hk],⟨_,_,rfl⟩,by simp [It.dat,aN7,PyData.eqv,hk],by simp [bZ1]⟩
 rintro δ H3 ⟨rfl,w3⟩;have ht:∀ (δ:DSt) (h:aA),bB (xPl (aD [])) δ h=some (.c h.length,h++[.l []]):=fun δ h=>by simp [bB,szl]
 have nw:∀ (H:aA),dK (YG 0) (aD true) (bB (xPl (aD []))) none (b.its.map It.dat) (b.its.map It.dat) [none] H []=some (List.range' H.length n,H++List.replicate n (.l [])):=fun H=>by
  have:=bZ0 (all:=b.its.map It.dat) ht (g:=YG 0) (fun w δ h=>⟨_,rfl⟩) (b.its.map It.dat) [none] H []
  simpa [en] using this
 simp only [cO1] at nw;have lk:∀ {t:Nat} {H:aA} {fs:List (Str×W)},Wz h0 n fs t (fun _ _=>[]) H->H.length+n=h0.length+1+(t*(n+1)+n):=fun w=>by
  rw [w.ln];omega
 refine fE (JZ h0 n [some (.c h0.length),some (.d b.dat),none,none,none] [(Str.ofString "first",.d (.tuple (b.st.map .int))),(Str.ofString "listed",.d (.tuple (b.its.map It.dat))),(Str.ofString "musts",.d (.list ((mus b.its).map nI))),(Str.ofString "ahead",.c x0)] 1) ?_ ?_
 ·have w4:=w3.new (fun _=>rfl);have l4:=lk w3;rw [<- e0] at l4;simp [w3.ob,f2,f4,List.lookup,nw,-List.append_assoc];rw [l4,w4.ob];simp [f4,fF,-List.append_assoc];exact ⟨_,_,⟨rfl,rfl⟩,rfl,w4.put _⟩
 rintro δ H4 ⟨rfl,w4⟩;refine fE (JZ h0 n [some (.c h0.length),some (.d b.dat),none,none,none] [(Str.ofString "first",.d (.tuple (b.st.map .int))),(Str.ofString "listed",.d (.tuple (b.its.map It.dat))),(Str.ofString "musts",.d (.list ((mus b.its).map nI))),(Str.ofString "ahead",.c x0),(Str.ofString "later",.c x1)] 2) ?_ ?_
 ·have w5:=w4.new (fun _=>rfl);have l5:=lk w4;rw [<- e1] at l5;simp [w4.ob,f2,f5,List.lookup,nw,-List.append_assoc];rw [l5,w5.ob];simp [f5,fF,-List.append_assoc];exact ⟨_,_,⟨rfl,rfl⟩,rfl,w5.put _⟩
 rintro δ H5 ⟨rfl,w5⟩;refine fE (JZ h0 n [some (.c h0.length),some (.d b.dat),none,none,none] (F6 b x0 x1 x2) 3) ?_ ?_
 ·have w6:=w5.new (fun _=>rfl);have l6:=lk w5;rw [<- e2] at l6;simp [w5.ob,f2,f6,List.lookup,nw,-List.append_assoc];rw [l6,w6.ob];simp [f6,fF,-List.append_assoc];exact ⟨_,_,⟨rfl,rfl⟩,rfl,w6.put _⟩
 rintro δ H6 ⟨rfl,w6⟩;obtain ⟨F,eF⟩:∃ F,F=F6 b x0 x1 x2:=⟨_,rfl⟩;have lA:F.lookup (Str.ofString "ahead")=some (.c x0):=by rw [eF];simp [F6,List.lookup]
 have lL:F.lookup (Str.ofString "later")=some (.c x1):=by rw [eF];simp [F6,List.lookup]
 have lG:F.lookup (Str.ofString "gaps")=some (.c x2):=by rw [eF];simp [F6,List.lookup]
 have lI:F.lookup (Str.ofString "listed")=some (.d (.tuple (b.its.map It.dat))):=by rw [eF];simp [F6,List.lookup]
 rw [<- eF] at w6 ⊢;have w6':Wz h0 b.its.length F 3 (Gf b.its [] []) H6:=by
  rw [<- en];have:Gf b.its [] []=fun _ _=>[]:=by funext k y;simp [Gf,ahL,laL,gaL]
  rw [this];exact w6
 subst en;refine fE (RL h0 b F b.ps []) ?_ ?_
 ·simp [Pb.dat];refine cF (fun k=>RL h0 b F (b.ps.take k) []) ⟨⟨_,_,_,rfl⟩,by rw [List.take_zero];exact w6'⟩ (fun δ H r=>by rw [List.length_map,List.take_length] at r;exact r) fun k hk δ H r=>?_;obtain ⟨⟨u,v,w,rfl⟩,wz⟩:=r;have hk':k < b.ps.length:=by simpa using hk
  have h100:=hb.pl;obtain ⟨q1,q2,q3⟩:=hb.ps b.ps[k] (List.getElem_mem hk');have et:b.ps.take (k+1)=b.ps.take k++[b.ps[k]]:=by rw [List.take_add_one,List.getElem?_eq_getElem hk'];rfl
  have egp:(b.ps.map p2)[k]=p2 b.ps[k]:=by simp
  rw [egp,et];have lt:(b.ps.take k).length<=100:=by rw [List.length_take];omega
  generalize b.ps.take k=ps at wz lt;generalize b.ps[k]=p at q1 q2 q3;obtain ⟨pa,pb⟩:=p;dsimp only at q1 q2 q3;refine ⟨[some (.c h0.length),some (.d b.dat),some (.d (.int pa)),some (.d (.int pb)),w],H,by simp [p2],?_⟩;have s1:(Gf b.its ps [] 1 pa).length < 16777216:=by have:=wL b.its ps [] 1 pa;simp at this;omega
  have s2:(Gf b.its ps [] 0 pb).length < 16777216:=by have:=wL b.its ps [] 0 pb;simp at this;omega
  have i1:=bM1 wz (k:=1) (by omega) q1;rw [<- e1] at i1;have g1:=wz.el 1 (by omega) pa q1;have w7:=wz.app (k:=1) (y:=pa) (by omega) q1 (x:=nI pb) (G':=fun k y=>if k=1/\y=pa then Gf b.its ps [] k y++[nI pb] else Gf b.its ps [] k y) (by simp) (fun k' y' z=>by simp [z]);generalize h0.length+1+(1*(b.its.length+1)+pa)=z1 at i1 g1 w7;have p1:gJ (Str.ofString "append") (.c z1) H=true:=by simp [gJ,g1]
  refine sys [some (.c h0.length),some (.d b.dat),some (.d (.int pa)),some (.d (.int pb)),w] (H.set z1 (.l (Gf b.its ps [] 1 pa++[nI pb]))) (by simp [wz.ob,f5,lL,i1,g1,p1,s1,szl,nI]) ?_;generalize H.set z1 (.l (Gf b.its ps [] 1 pa++[nI pb]))=H8 at w7;have e6:=wM q1;have mu:gD b.its pa=decide (b.its[pa].w="must"):=by simp [gD,q1]
  by_cases hw:b.its[pa].w="must"
  ·have i2:=bM1 w7 (k:=0) (by omega) q2;rw [<- e0] at i2;have g2:=w7.el 0 (by omega) pb q2;simp only [show ¬ (0=1/\pb=pa) by omega,if_false] at g2;have w8:=w7.app (k:=0) (y:=pb) (by omega) q2 (x:=nI pa) (G':=Gf b.its (ps++[(pa,pb)]) []) (by rw [bM2];simp [mu,hw]) (fun k' y' z=>by
    rw [bM2];have z':¬ (k'=0/\y'=pb/\gD b.its pa=true):=fun q=>z ⟨q.1,q.2.1⟩;rw [if_neg z'])
   simp only [show ¬ (0=1/\pb=pa) by omega,if_false] at w8;generalize h0.length+1+(0*(b.its.length+1)+pb)=z2 at i2 g2 w8;have p2':gJ (Str.ofString "append") (.c z2) H8=true:=by simp [gJ,g2]
   refine ⟨[some (.c h0.length),some (.d b.dat),some (.d (.int pa)),some (.d (.int pb)),w],_,?_,⟨_,_,_,rfl⟩,w8⟩;simp [w7.ob,f2,lI,e6,It.dat,hw,PyData.eqv,f4,lA,i2,g2,p2',s2,szl,nI]
  ·refine ⟨[some (.c h0.length),some (.d b.dat),some (.d (.int pa)),some (.d (.int pb)),w],H8,?_,⟨_,_,_,rfl⟩,?_⟩
   ·simp [w7.ob,f2,lI,e6,It.dat,hw,PyData.eqv,szl]
   ·have eg:Gf b.its (ps++[(pa,pb)]) []=fun k y=>if k=1/\y=pa then Gf b.its ps [] k y++[nI pb] else Gf b.its ps [] k y:=by
     funext k y
     rw [bM2];simp [mu,hw]
    rw [eg];exact w7
 rintro δ H7 ⟨⟨u,v,w,rfl⟩,w7⟩;refine fE (RL h0 b F b.ps b.ts) ?_ (fun δ H r=>⟨δ,H,rfl,r⟩);simp [Pb.dat];refine cF (fun k=>RL h0 b F b.ps (b.ts.take k)) ⟨⟨_,_,_,rfl⟩,by rw [List.take_zero];exact w7⟩ (fun δ H r=>by rw [List.length_map,List.take_length] at r;exact r) fun k hk δ H r=>?_;obtain ⟨⟨u,v,w,rfl⟩,wz⟩:=r;have hk':k < b.ts.length:=by simpa using hk
 have h100:=hb.tl;have h101:=hb.pl;obtain ⟨q1,q2,q3,_⟩:=hb.ts b.ts[k] (List.getElem_mem hk');have et:b.ts.take (k+1)=b.ts.take k++[b.ts[k]]:=by rw [List.take_add_one,List.getElem?_eq_getElem hk'];rfl
 have egp:(b.ts.map p3)[k]=p3 b.ts[k]:=by simp
 rw [egp,et];have lt:(b.ts.take k).length<=100:=by rw [List.length_take];omega
 generalize b.ts.take k=ts at wz lt;generalize b.ts[k]=p at q1 q2 q3;obtain ⟨pa,pb,pc⟩:=p;dsimp only at q1 q2 q3;refine ⟨[some (.c h0.length),some (.d b.dat),some (.d (.int pa)),some (.d (.int pb)),some (.d (.int pc))],H,by simp [p3],?_⟩;have s1:(Gf b.its b.ps ts 2 pc).length < 16777216:=by have:=wL b.its b.ps ts 2 pc;omega
 have i1:=bM1 wz (k:=2) (by omega) q3;rw [<- e2] at i1;have g1:=wz.el 2 (by omega) pc q3;have w8:Wz h0 b.its.length F 3 (Gf b.its b.ps (ts++[(pa,pb,pc)])) (H.set (h0.length+1+(2*(b.its.length+1)+pc)) (.l (Gf b.its b.ps ts 2 pc++[p2 (pa,pb)]))):=by
  have:=wz.app (k:=2) (y:=pc) (by omega) q3 (x:=p2 (pa,pb)) (G':=fun k y=>if k=2/\y=pc then Gf b.its b.ps ts k y++[p2 (pa,pb)] else Gf b.its b.ps ts k y) (by simp) (fun k' y' z=>by simp [z]);exact ⟨this.ln,this.sm,this.ob,fun k hk y hy=>by rw [this.el k hk y hy,cO4 _ _ _ _ hk],this.rl⟩
 generalize h0.length+1+(2*(b.its.length+1)+pc)=z1 at i1 g1 w8;have p1:gJ (Str.ofString "append") (.c z1) H=true:=by simp [gJ,g1]
 refine ⟨[some (.c h0.length),some (.d b.dat),some (.d (.int pa)),some (.d (.int pb)),some (.d (.int pc))],_,?_,⟨_,_,_,rfl⟩,w8⟩;simp [wz.ob,f6,lG,i1,g1,p1,s1,szl,p2]
end K24

namespace K24
open PySem PySem.Spec PyProof.Rows L2 DL CI SJ
theorem sq {α β:Type} {x:Option α} {f:α->Option β} {R:Option β} (a:α) (e:x=some a) (k:f a=R):x.bind f=R:=by
 rw [e];exact k
def lpB {x:Option (Fl×aA)} {f:DSt->Fl×aA->Option (Fl×aA)} {R:Option (Fl×aA)} (bd:Bool) (w:W) (h:aA) (I:DSt->Prop) (e:∃ δ',x=some (if bd=true then .rt w else .nx δ',h)/\I δ') (k1:bd=true->some (.rt w,h)=R) (k2:bd=false->∀ δ',I δ'->f δ' (.nx δ',h)=R):YP x (YQ f)=R:=by
 obtain ⟨δ',e,i⟩:=e;rw [e];cases bd with
 | true=>exact k1 rfl
 | false=>exact k2 rfl δ' i
def bI {α:Type} {x:Option α} {f:α->Option (Fl×aA)} {bd:Bool} {w:W} {h:aA} {I:DSt->Prop} (a:α) (e:x=some a) (k:∃ δ',f a=some (if bd=true then .rt w else .nx δ',h)/\I δ'):∃ δ',x.bind f=some (if bd=true then .rt w else .nx δ',h)/\I δ':=by
 rw [e];exact k
theorem kP {α:Type} {g:XG} {tb:XS} {c:Cw} {all:List PyData} {h:aA} (hc:CI.condB c all h=true) (F:α->PyData) (bad:α->Bool) (w:W) (I:DSt->Prop):∀ (qs:List α) {δ:DSt},I δ ->
  (∀ q∈qs,∀ δ,I δ->∃ δ1,g (.d (F q)) δ h=some (δ1,h)/\∃ δ2,tb δ1 h=some (if bad q=true then .rt w else .nx δ2,h)/\I δ2)->∃ δ',aW g tb c all (qs.map F) δ h=some (if qs.any bad=true then .rt w else .nx δ',h)/\I δ'
 | [],δ,hi,_=>⟨δ,by simp [aW,hc],hi⟩
 | q::r,δ,hi,ht=>by
  obtain ⟨δ1,e1,δ2,e2,i2⟩:=ht q List.mem_cons_self δ hi;obtain ⟨δ3,e3,i3⟩:=kP hc F bad w I r i2 fun y hy=>ht y (List.mem_cons_of_mem _ hy);refine ⟨δ3,?_,i3⟩;rw [List.map_cons,aW,if_pos hc,e1];simp only [bs,e2];cases hb:bad q with
  | true=>simp [hb]
  | false=>simp [hb,e3]
def Inn (H:aA) (w:W) (pl:List Nat):Prop:=∀ y:Nat,xIn (.d (.int y)) w H=some (decide (y∈pl))
def bM4 (pl:List Nat) (y:Nat):((pl.map nI).any fun z=>PyData.eqv z (.int y))=decide (y∈pl):=by
 rw [Bool.eq_iff_iff];simp [nI,PyData.eqv];constructor
 ·rintro ⟨x,hx,e⟩;rw [<- show x=y by omega];exact hx
 ·exact fun h=>⟨y,h,rfl⟩
theorem yD:∀ (pl:List Nat) (m:Nat),plainsB m (pl.map nI)=true
 | [],m=>by simp
 | a::r,m=>by simp [nI,yD r]
noncomputable def wdI (its:List It) (x:Nat):String:=(its[x]?.map It.w).getD ""
def lQ (b:Pb) (pl:List Nat) (x:Nat):Bool:=!(decide (x∈pl)||decide (wdI b.its x="out"))&&(!((ahL b.its b.ps x).any fun y=>!decide (y∈pl))&&(!((laL b.ps x).any fun y=>decide (y∈pl))&&!((gaL b.ts x).any fun q=>decide (q.1∈pl)&&!decide (q.2∈pl))))
def pqI (i:Int):peq (.int i) (.int i)=true:=by show (i==i)=true;simp
theorem sO:∀ l:List Nat,peqs (l.map nI) (l.map nI)=true
 | []=>rfl
 | a::r=>by show (peq (.int a) (.int a)&&peqs (r.map nI) (r.map nI))=true;rw [pqI,sO r];rfl
theorem aO0:∀ l:List (Nat×Nat),peqs (l.map p2) (l.map p2)=true
 | []=>rfl
 | a::r=>by show ((peq (.int a.1) (.int a.1)&&(peq (.int a.2) (.int a.2)&&true))&&peqs (r.map p2) (r.map p2))=true;rw [pqI,pqI,aO0 r];rfl
def wN {H:aA} {k:Nat} {xs:List PyData} (e:H[k]?=some (.l xs)) (hp:peqs xs xs=true):CI.condB (some (k,false)) xs H=true:=by
 unfold CI.condB;dsimp only;rw [e];exact hp
structure Wd (b:Pb) (j:Nat) (H:aA):Prop where
 ob:H[j]?=some (.o 280 (F6 b (j+1+(0*(b.its.length+1)+b.its.length)) (j+1+(1*(b.its.length+1)+b.its.length)) (j+1+(2*(b.its.length+1)+b.its.length))))
 el:∀ k,k < 3->∀ y,y < b.its.length->H[j+1+(k*(b.its.length+1)+y)]?=some (.l (Gf b.its b.ps b.ts k y))
 rl:∀ k,k < 3->H[j+1+(k*(b.its.length+1)+b.its.length)]?=some (.r (List.range' (j+1+k*(b.its.length+1)) b.its.length))
def bZ2 {h0 H:aA} {b:Pb} (w:Wz h0 b.its.length (F6 b (h0.length+1+(0*(b.its.length+1)+b.its.length)) (h0.length+1+(1*(b.its.length+1)+b.its.length)) (h0.length+1+(2*(b.its.length+1)+b.its.length))) 3 (Gf b.its b.ps b.ts) H):Wd b h0.length H:=⟨w.ob,w.el,w.rl⟩
def bM5 {b:Pb} {j:Nat} {H:aA} (w:Wd b j H) {k y:Nat} (hk:k < 3) (hy:y < b.its.length):xIx (.c (j+1+(k*(b.its.length+1)+b.its.length))) (.d (.int y)) H=some (.c (j+1+(k*(b.its.length+1)+y)),H):=by
 have e:=w.rl k hk;have:atI (List.range' (j+1+k*(b.its.length+1)) b.its.length) (y:Int)=some (j+1+(k*(b.its.length+1)+y)):=by
  apply eW;rw [List.getElem?_range' (by omega)];simp;omega
 unfold xIx ref xIr;simp [e,this]
def Wd.ex {b:Pb} {j:Nat} {H:aA} (w:Wd b j H):∃ a0 a1 a2,H[j]?=some (.o 280 (F6 b a0 a1 a2))/\(∀ x,x < b.its.length->∃ k,xIx (.c a0) (.d (.int x)) H=some (.c k,H)/\H[k]?=some (.l ((ahL b.its b.ps x).map nI))) /\
  (∀ x,x < b.its.length->∃ k,xIx (.c a1) (.d (.int x)) H=some (.c k,H)/\H[k]?=some (.l ((laL b.ps x).map nI)))/\(∀ x,x < b.its.length->∃ k,xIx (.c a2) (.d (.int x)) H=some (.c k,H)/\H[k]?=some (.l ((gaL b.ts x).map p2))) :=
 ⟨_,_,_,w.ob,fun x hx=>⟨_,bM5 w (by omega) hx,w.el 0 (by omega) x hx⟩,fun x hx=>⟨_,bM5 w (by omega) hx,w.el 1 (by omega) x hx⟩,fun x hx=>⟨_,bM5 w (by omega) hx,w.el 2 (by omega) x hx⟩⟩
noncomputable def wdZ (b:Pb):Nat:=1+3*(b.its.length+1)
def Wd.grow {b:Pb} {j:Nat} {H H':aA} (w:Wd b j H) (hs:∀ (i:Nat) (c:Cell),j<=i->i < j+wdZ b->H[i]?=some c->H'[i]?=some c):Wd b j H':=by
 have z:∀ k,k < 3->∀ y,y<=b.its.length->j+1+(k*(b.its.length+1)+y) < j+wdZ b:=fun k hk y hy=>by
  unfold wdZ;have:k*(b.its.length+1)<=2*(b.its.length+1):=Nat.mul_le_mul_right _ (by omega);omega
 exact ⟨hs _ _ (Nat.le_refl _) (by unfold wdZ;omega) w.ob,fun k hk y hy=>hs _ _ (by omega) (z k hk y (by omega)) (w.el k hk y hy),fun k hk=>hs _ _ (by omega) (z k hk _ (Nat.le_refl _)) (w.rl k hk)⟩
def cO5 (d:Nat) {b:Pb} {j x:Nat} {H:aA} {w1:W} {pl:List Nat} (w:Wd b j H) (hx:x < b.its.length) (hin:Inn H w1 pl):callM T (d+1) "may_follow" [.c j,w1,.d (.int x)] H=some (.d (.bool (lQ b pl x)),H):=by
 obtain ⟨f1,f2,f3,f4,f5,f6⟩:=uN;obtain ⟨a0,a1,a2,ho,h2,h3,h4⟩:=w.ex;obtain ⟨F,eF⟩:∃ F,F=F6 b a0 a1 a2:=⟨_,rfl⟩;have lA:F.lookup (Str.ofString "ahead")=some (.c a0):=by rw [eF];simp [F6,List.lookup]
 have lL:F.lookup (Str.ofString "later")=some (.c a1):=by rw [eF];simp [F6,List.lookup]
 have lG:F.lookup (Str.ofString "gaps")=some (.c a2):=by rw [eF];simp [F6,List.lookup]
 have lI:F.lookup (Str.ofString "listed")=some (.d (.tuple (b.its.map It.dat))):=by rw [eF];simp [F6,List.lookup]
 rw [<- eF] at ho;have e6:=wM hx;have ew:wdI b.its x=b.its[x].w:=by simp [wdI,hx]
 rw [oY];refine sq (.rt (.d (.bool (lQ b pl x))),H) ?_ (by simp)
 by_cases c1:x∈pl\/b.its[x].w="out"
 ·have em:lQ b pl x=false:=by
   unfold lQ;rw [ew];rcases c1 with c1 | c1<;>simp [c1]
  rw [em];refine sq (.rt (.d (.bool false)),H) ?_ rfl
  by_cases c2:x∈pl
  ·simp [hin x,c2]
  ·have c3:b.its[x].w="out":=c1.resolve_left c2;simp [hin x,c2,ho,f2,lI,e6,It.dat,c3,PyData.eqv]
 have c2:¬ x∈pl:=fun z=>c1 (.inl z);have c3:¬ b.its[x].w="out":=fun z=>c1 (.inr z);refine sy [some (.c j),some w1,some (.d (.int x)),none,none,none,none] H (by simp [hin x,c2,ho,f2,lI,e6,It.dat,c3,PyData.eqv]) ?_;obtain ⟨k0,i0,g0⟩:=h2 x hx;obtain ⟨k1,i1,g1⟩:=h3 x hx;obtain ⟨k2,i2,g2⟩:=h4 x hx;refine lpB ((ahL b.its b.ps x).any fun y=>!decide (y∈pl)) (.d (.bool false)) H (fun δ=>∃ u,δ=[some (.c j),some w1,some (.d (.int x)),u,none,none,none]) ?_ (fun z=>?_) (fun z1 δ i=>?_)
 ·refine bI (((ahL b.its b.ps x).map nI,some (k0,false)),H) (by simp [ho,f4,lA,i0,g0]) ?_;refine kP (wN g0 (sO _)) nI _ _ _ _ ⟨_,rfl⟩ fun q _ δ i=>?_;obtain ⟨u,rfl⟩:=i;refine ⟨[some (.c j),some w1,some (.d (.int x)),some (.d (nI q)),none,none,none],rfl,[some (.c j),some w1,some (.d (.int x)),some (.d (nI q)),none,none,none],?_,_,rfl⟩
  by_cases c:q∈pl<;>simp [nI,hin q,c]
 ·simp [lQ,z]
 obtain ⟨u,rfl⟩:=i;refine lpB ((laL b.ps x).any fun y=>decide (y∈pl)) (.d (.bool false)) H (fun δ=>∃ u v,δ=[some (.c j),some w1,some (.d (.int x)),u,v,none,none]) ?_ (fun z=>?_) (fun z2 δ i=>?_)
 ·refine bI (((laL b.ps x).map nI,some (k1,false)),H) (by simp [ho,f5,lL,i1,g1]) ?_;refine kP (wN g1 (sO _)) nI _ _ _ _ ⟨_,_,rfl⟩ fun q _ δ i=>?_;obtain ⟨u,v,rfl⟩:=i;refine ⟨[some (.c j),some w1,some (.d (.int x)),u,some (.d (nI q)),none,none],rfl,[some (.c j),some w1,some (.d (.int x)),u,some (.d (nI q)),none,none],?_,_,_,rfl⟩
  by_cases c:q∈pl<;>simp [nI,hin q,c]
 ·simp [lQ,z]
 obtain ⟨u,v,rfl⟩:=i;refine lpB ((gaL b.ts x).any fun q=>decide (q.1∈pl)&&!decide (q.2∈pl)) (.d (.bool false)) H (fun δ=>∃ u v s t,δ=[some (.c j),some w1,some (.d (.int x)),u,v,s,t]) ?_ (fun z=>?_) (fun z3 δ i=>?_)
 ·refine bI (((gaL b.ts x).map p2,some (k2,false)),H) (by simp [ho,f6,lG,i2,g2]) ?_;refine kP (wN g2 (aO0 _)) p2 _ _ _ _ ⟨_,_,_,_,rfl⟩ fun q _ δ i=>?_;obtain ⟨u,v,s,t,rfl⟩:=i;refine ⟨[some (.c j),some w1,some (.d (.int x)),u,v,some (.d (.int q.1)),some (.d (.int q.2))],by simp [p2],[some (.c j),some w1,some (.d (.int x)),u,v,some (.d (.int q.1)),some (.d (.int q.2))],?_,_,_,_,_,rfl⟩
  by_cases c:q.1∈pl
  ·by_cases c':q.2∈pl<;>simp [hin q.1,hin q.2,c,c']
  ·simp [hin q.1,c]
 ·simp [lQ,z]
 ·have em:lQ b pl x=true:=by
   unfold lQ;rw [ew,z1,z2,z3];simp [c2,c3]
  rw [em];rfl
end K24

namespace K24
open PySem PySem.Spec PyProof.Rows L2 DL CI SJ
def pst (n:Nat) (a:List (Nat×Nat)×S3):List (Nat×Nat)×S3 :=
 if 1 < n then (a.1++[((aO a.2 n).toNat,((aO a.2 n).toNat+1+(aO (digS a.2 n) (n - 1)).toNat)%n)],digS (digS a.2 n) (n - 1)) else a
def itP (n:Nat) (s:S3):Nat->List (Nat×Nat)×S3
 | 0=>([],s)
 | k+1=>pst n (itP n s k)
theorem sP (n:Nat) (s:S3):∀ k,(itP n s k).1.length<=k
 | 0=>Nat.le_refl 0
 | k+1=>by
  have:=sP n s k;unfold itP pst;split
  ·simp;omega
  ·omega
theorem aO1 {n x y:Nat} (hx:x < n) (hy:y+1 < n):x≠(x+1+y)%n:=by
 by_cases h:x+1+y < n
 ·rw [Nat.mod_eq_of_lt h];omega
 ·rw [Nat.mod_eq_sub_mod (by omega),Nat.mod_eq_of_lt (by omega)];omega
theorem wO (n:Nat) (s:S3):∀ k,∀ p∈(itP n s k).1,p.1 < n/\p.2 < n/\p.1≠p.2
 | 0,p,hp=>nomatch hp
 | k+1,p,hp=>by
  unfold itP pst at hp;split at hp
  ·rename_i hn;rcases List.mem_append.mp hp with hp | hp
   ·exact wO n s k p hp
   ·simp at hp;subst hp;obtain ⟨x,ex,hx⟩:=bD (itP n s k).2 (b:=n) (by omega);obtain ⟨y,ey,hy⟩:=bD (digS (itP n s k).2 n) (b:=n - 1) (by omega);rw [ex,ey];simp only [Int.toNat_natCast];exact ⟨by omega,Nat.mod_lt _ (by omega),aO1 (by omega) (by omega)⟩
  ·exact wO n s k p hp
section
variable {h:aA} {i:Nat} (hi:i < h.length)
include hi
def gl (xs:List PyData) (s:S3):((h++[Cell.l xs]).set i (stL s))[h.length]?=some (Cell.l xs):=by
 rw [List.getElem?_set_ne (by omega)];simp
def gl2 (xs:List PyData) (s:S3) (pf:h.length < ((h++[Cell.l xs]).set i (stL s)).length):((h++[Cell.l xs]).set i (stL s))[h.length]'pf=.l xs:=by
 have:=gl hi xs s;rw [List.getElem?_eq_getElem pf] at this;exact Option.some.inj this
def gm (xs:List PyData) (s:S3):gJ (Str.ofString "append") (.c h.length) ((h++[Cell.l xs]).set i (stL s))=true:=by
 unfold gJ;rw [if_pos rfl];dsimp only;rw [gl hi]
def gs (xs ys:List PyData) (s:S3):((h++[Cell.l xs]).set i (stL s)).set h.length (Cell.l ys)=(h++[Cell.l ys]).set i (stL s):=by
 rw [List.set_comm _ _ (by omega)];simp
def g_t (xs:List PyData) (s:S3):bX [.c h.length] ((h++[Cell.l xs]).set i (stL s))=some (.d (.tuple xs),(h++[Cell.l xs]).set i (stL s)):=by
 unfold bX ref;dsimp only;rw [gl hi]
theorem gi (c:Cell):i < (h++[c]).length:=by simp;omega
end
def aX5 (d:Nat) (h:aA) {i n:Nat} (s:S3) (hi:i < h.length) (hn:n<=120):aE T (d+2) "_law_pairs" [.c i,.d (.int n)] (h.set i (stL s))=some (.tuple ((itP n (digS s 5) (aO s 5).toNat).1.map p2),h.set i (stL (itP n (digS s 5) (aO s 5).toNat).2)):=by
 have e5:bA 5=true:=by decide
 obtain ⟨k,ek,hk⟩:=bD s (b:=5) (by decide);have er:fN 0 (k:Int)=true:=bO (by omega) (by omega);have sa:∀ (s:S3) (L:aA),h.set i (stL s)++L=(h++L).set i (stL s):=fun s L=>fD hi;have g1:=gi hi (Cell.l []);have dg:=cL d (h++[Cell.l []]) s 5 g1 (by decide) e5;rw [show d+2=(d+1)+1 from rfl,rZ];simp [bB,szl,sa,dg,ek,er];generalize hr:aW _ _ _ _ _ _ _=r;have kk:∃ δ' h',r=some (.nx δ',h')/\∃ (x3 x4:Option W),δ'=[some (.c i),some (.d (.int n)),some (.c h.length),x3,x4]/\h'=(h++[Cell.l ((itP n (digS s 5) k).1.map p2)]).set i (stL (itP n (digS s 5) k).2):=by
  rw [<- hr];clear hr;refine cF (fun m δ' h'=>∃ (x3 x4:Option W),δ'=[some (.c i),some (.d (.int n)),some (.c h.length),x3,x4]/\h'=(h++[Cell.l ((itP n (digS s 5) m).1.map p2)]).set i (stL (itP n (digS s 5) m).2)) ⟨_,_,rfl,rfl⟩ (fun δ h'=>?_) ?_
  ·rw [CI.rng_len];exact id
  ·rintro m hm δ h' ⟨x3,x4,rfl,rfl⟩;have ll:=sP n (digS s 5) m;have hm':m < k:=by simpa [rng] using hm
   refine ⟨[some (.c i),some (.d (.int n)),some (.c h.length),some (.d (rng 0 k)[m]),x4],_,rfl,?_⟩;rw [itP];generalize itP n (digS s 5) m=q at *;obtain ⟨L,t⟩:=q;dsimp only at *;have l1:L.length < 16777216:=by omega
   by_cases h1:1 < n
   ·have h1':(1:Int) < n:=by omega
    obtain ⟨x,ex,hx⟩:=bD t (b:=n) (by omega);obtain ⟨y,ey,hy⟩:=bD (digS t n) (b:=n - 1) (by omega);have d1:=cL d (h++[Cell.l (L.map p2)]) t n (gi hi _) (by omega) (cJ (by omega) (by omega));have d2:=cL d (h++[Cell.l (L.map p2)]) (digS t n) (n - 1) (gi hi _) (by omega) (cJ (by omega) (by omega));have h0n:0 < n:=by omega
    have dn:bA (n:Int)=true:=cJ (by omega) (by omega);refine ⟨[some (.c i),some (.d (.int n)),some (.c h.length),some (.d (rng 0 k)[m]),some (.d (.int x))],(h++[Cell.l ((L++[(x,(x+1+y)%n)]).map p2)]).set i (stL (digS (digS t n) (n - 1))),?_,_,_,rfl,?_⟩
    ·have em:((x:Int)+1+y)%n=(((x+1+y)%n:Nat):Int):=by simp
     simp [h1',d1,d2,ex,ey,gl hi,gl2 hi,gm hi,gs hi,l1,szl,dn,p2,h0n]
    ·simp [pst,h1,ex,ey]
   ·have h1':¬ (1:Int) < n:=by omega
    refine ⟨[some (.c i),some (.d (.int n)),some (.c h.length),some (.d (rng 0 k)[m]),x4],(h++[Cell.l (L.map p2)]).set i (stL t),by simp [h1'],_,_,rfl,?_⟩;simp [pst,h1]
 obtain ⟨δ',h',rfl,x3,x4,rfl,rfl⟩:=kk;have o1:∀ L s',okP (h.set i (stL s)) ((h++L).set i (stL s'))=True:=fun L s'=>aK9 s' hi;have o2:∀ (L:aA) (s':S3),((h++L).set i (stL s')).take h.length=h.set i (stL s'):=fun L s'=>aL0 hi;simp [g_t hi,szl,o1,o2]
end K24

namespace K24
open PySem PySem.Spec PyProof.Rows L2 DL CI SJ
noncomputable def rst (n a b:Nat):List Nat:=(List.range n).filter fun z=>decide (z≠a)&&decide (z≠b)
def gT (n:Nat):rng 0 n=(List.range n).map nI:=bL2 n
def sQ (p:PyData->Bool) (q:Nat->Bool) (n:Nat) (h:∀ k,k < n->p (nI k)=q k):((rng 0 n).filter p).map id=((List.range n).filter q).map nI:=by
 rw [gT,List.map_id,List.filter_map]
 congr 1
 exact List.filter_congr fun k hk=>h k (List.mem_range.mp hk)
def mT {its:List It} {x:Nat} (h:x∈mus its):x < its.length/\must its x:=by
 obtain ⟨h1,h2⟩:=List.mem_filter.mp h;have hx:=List.mem_range.mp h1;refine ⟨hx,its[x],by simp [hx],?_⟩
 simpa [gD,hx] using h2
def aC2 (its:List It):(mus its).Nodup:=List.Pairwise.filter _ List.nodup_range
def yF {n a b:Nat} (hn:2 < n):0 < (rst n a b).length:=by
 apply List.length_pos_iff.mpr;intro e;have hz:∀ z,z < 3->z=a\/z=b:=fun z hz=>by
  by_cases h:z≠a/\z≠b
  ·have:z∈rst n a b:=List.mem_filter.mpr ⟨List.mem_range.mpr (by omega),by simp [h.1,h.2]⟩;rw [e] at this;cases this
  ·omega
 have h0:=hz 0 (by omega);have h1:=hz 1 (by omega);have h2:=hz 2 (by omega);omega
def tst (its:List It) (a:List (Nat×Nat×Nat)×S3):List (Nat×Nat×Nat)×S3 :=
 if 1 < (mus its).length/\2 < its.length then
  let l:=(mus its).length
  let x:=(aO a.2 l).toNat
  let s1:=digS a.2 l
  let y:=(x+1+(aO s1 (l - 1)).toNat)%l
  let s2:=digS s1 (l - 1)
  let r:=rst its.length ((mus its).getD x 0) ((mus its).getD y 0)
  (a.1++[((mus its).getD x 0,(mus its).getD y 0,r.getD (aO s2 r.length).toNat 0)],digS s2 r.length)
 else a
def itT (its:List It) (s:S3):Nat->List (Nat×Nat×Nat)×S3
 | 0=>([],s)
 | k+1=>tst its (itT its s k)
theorem sS (its:List It) (s:S3):∀ k,(itT its s k).1.length<=k
 | 0=>Nat.le_refl 0
 | k+1=>by
  have:=sS its s k;unfold itT tst;split
  ·simp;omega
  ·omega
theorem oN {l:List Nat} {x:Nat} (h:x < l.length):l.getD x 0∈l:=by
 rw [List.getD_eq_getElem?_getD,List.getElem?_eq_getElem h];exact List.getElem_mem h
theorem wP (its:List It) (s:S3):∀ k,∀ p∈(itT its s k).1,p.1 < its.length/\p.2.1 < its.length/\p.2.2 < its.length/\p.1≠p.2.1/\p.1≠p.2.2/\p.2.1≠p.2.2/\must its p.1/\must its p.2.1
 | 0,p,hp=>nomatch hp
 | k+1,p,hp=>by
  unfold itT tst at hp;split at hp
  ·rename_i hn;rcases List.mem_append.mp hp with hp | hp
   ·exact wP its s k p hp
   ·simp only [List.mem_singleton] at hp;obtain ⟨x,ex,hx⟩:=bD (itT its s k).2 (b:=(mus its).length) (by omega);obtain ⟨y,ey,hy⟩:=bD (digS (itT its s k).2 (mus its).length) (b:=(mus its).length - 1) (by omega);rw [ex,ey] at hp;simp only [Int.toNat_natCast] at hp;have hm:(x+1+y)%(mus its).length < (mus its).length:=Nat.mod_lt _ (by omega);have hne:=aO1 (n:=(mus its).length) (x:=x) (y:=y) (by omega) (by omega);generalize (x+1+y)%(mus its).length=y2 at *;have m1:=oN (l:=mus its) (x:=x) (by omega);have m2:=oN (l:=mus its) hm;have hab:(mus its).getD x 0≠(mus its).getD y2 0:=fun e=>hne ((List.getD_inj (by omega) hm (aC2 its)).mp e);generalize hA:(mus its).getD x 0=A at *;generalize hB:(mus its).getD y2 0=B at *;have hr:=yF (n:=its.length) (a:=A) (b:=B) hn.2;obtain ⟨z,ez,hz⟩:=bD (digS (digS (itT its s k).2 (mus its).length) ((mus its).length - 1)) (b:=(rst its.length A B).length) (by omega);rw [ez] at hp;simp only [Int.toNat_natCast] at hp;have m3:=oN (l:=rst its.length A B) (x:=z) (by omega);obtain ⟨r1,r2⟩:=List.mem_filter.mp m3;have r3:=List.mem_range.mp r1;simp at r2;subst hp;exact ⟨(mT m1).1,(mT m2).1,r3,hab,fun e=>r2.1 e.symm,fun e=>r2.2 e.symm,(mT m1).2,(mT m2).2⟩
  ·exact wP its s k p hp
end K24

namespace K24
open PySem PySem.Spec PyProof.Rows L2 DL CI SJ
def pM (its:List It):PyData->Bool
 | .int k=>gD its k.toNat
 | _=>false
noncomputable def pR (a b:Nat):PyData->Bool
 | .int k=>decide (k≠a)&&decide (k≠b)
 | _=>false
def aO2 {l:List Nat} {x:Nat} (h:x < l.length):atI (l.map nI) (x:Int)=some (.int (l.getD x 0)):=by
 apply eW;rw [List.getElem?_map,List.getElem?_eq_getElem h,List.getD_eq_getElem?_getD,List.getElem?_eq_getElem h];rfl
def aC3 (d:Nat) (h:aA) {i:Nat} (s:S3) (hi:i < h.length) {its:List It} (hn:its.length<=120):aE T (d+2) "_law_triples" [.c i,.d (.tuple (its.map It.dat))] (h.set i (stL s))=some (.tuple ((itT its (digS s 4) (aO s 4).toNat).1.map p3),h.set i (stL (itT its (digS s 4) (aO s 4).toNat).2)):=by
 have e4:bA 4=true:=by decide
 obtain ⟨k,ek,hk⟩:=bD s (b:=4) (by decide);have er:fN 0 (k:Int)=true:=bO (by omega) (by omega);have en:fN 0 (its.length:Int)=true:=bO (by omega) (by omega);have sa:∀ (s:S3) (L:aA),h.set i (stL s)++L=(h++L).set i (stL s):=fun s L=>fD hi;have dg:=cL d (h++[Cell.l []]) s 4 (gi hi (.l [])) (by decide) e4;rw [show d+2=(d+1)+1 from rfl,oB];simp [szl,en,aJ];rw [eX (pM its) id (fun δ=>∃ a,δ=[a,some (.d (.tuple (its.map It.dat)))]) _ _ _ ⟨_,rfl⟩ (fun z hz δ ⟨a,e⟩=>by
  subst e;rw [gT] at hz;obtain ⟨q,hq,rfl⟩:=List.mem_map.mp hz;have hq:=List.mem_range.mp hq;have e6:=kN (List.getElem?_eq_getElem hq);refine ⟨[some (.d (nI q)),_],rfl,⟨_,rfl⟩,?_,fun _=>by simp⟩;simp [nI,e6,It.dat,PyData.eqv,pM,gD,hq];try rfl)]
 rw [List.nil_append,sQ (pM its) (gD its) its.length (fun k _=>by simp [pM,nI])];rw [show (List.range its.length).filter (gD its)=mus its from rfl];simp [bB,szl,sa,dg,ek,er];generalize hr:aW _ _ _ _ _ _ _=r;have kk:∃ δ' h',r=some (.nx δ',h')/\∃ (x2 x5 x6 x7:Option W),δ'=[some (.c i),some (.d (.tuple (its.map It.dat))),x2,some (.d (.list ((mus its).map nI))),some (.c h.length),x5,x6,x7]/\h'=(h++[Cell.l ((itT its (digS s 4) k).1.map p3)]).set i (stL (itT its (digS s 4) k).2):=by
  rw [<- hr];clear hr;refine cF (fun m δ' h'=>∃ (x2 x5 x6 x7:Option W),δ'=[some (.c i),some (.d (.tuple (its.map It.dat))),x2,some (.d (.list ((mus its).map nI))),some (.c h.length),x5,x6,x7]/\h'=(h++[Cell.l ((itT its (digS s 4) m).1.map p3)]).set i (stL (itT its (digS s 4) m).2)) ⟨_,_,_,_,rfl,rfl⟩ (fun δ h'=>?_) ?_
  ·rw [CI.rng_len];exact id
  ·rintro m hm δ h' ⟨x2,x5,x6,x7,rfl,rfl⟩;have ll:=sS its (digS s 4) m;have hm':m < k:=by simpa [rng] using hm
   refine ⟨[some (.c i),some (.d (.tuple (its.map It.dat))),x2,some (.d (.list ((mus its).map nI))),some (.c h.length),some (.d (rng 0 k)[m]),x6,x7],_,rfl,?_⟩;rw [itT];generalize itT its (digS s 4) m=q at *;obtain ⟨L,t⟩:=q;dsimp only at *;have l1:L.length < 16777216:=by omega
   by_cases h1:1 < (mus its).length/\2 < its.length
   ·have ml:(mus its).length<=its.length:=by
     have:=List.length_filter_le (gD its) (List.range its.length)
     simpa [mus] using this
    obtain ⟨l,el⟩:∃ l,l=(mus its).length:=⟨_,rfl⟩;have h1a:(1:Int) < (mus its).length:=by omega
    have h1b:(2:Int) < its.length:=by omega
    obtain ⟨x,ex,hx⟩:=bD t (b:=(mus its).length) (by omega);obtain ⟨y,ey,hy⟩:=bD (digS t (mus its).length) (b:=(mus its).length - 1) (by omega);have d1:=cL d (h++[Cell.l (L.map p3)]) t (mus its).length (gi hi _) (by omega) (cJ (by omega) (by omega));have d2:=cL d (h++[Cell.l (L.map p3)]) (digS t (mus its).length) ((mus its).length - 1) (gi hi _) (by omega) (cJ (by omega) (by omega));have dn:bA ((mus its).length:Int)=true:=cJ (by omega) (by omega);have h0n:0 < (mus its).length:=by omega
    have hmod:(x+1+y)%(mus its).length < (mus its).length:=Nat.mod_lt _ (by omega);have em:((x:Int)+1+y)%((mus its).length:Int)=(((x+1+y)%(mus its).length:Nat):Int):=by simp
    obtain ⟨y2,ey2⟩:∃ y2,y2=(x+1+y)%(mus its).length:=⟨_,rfl⟩;rw [<- ey2] at em hmod;have a1:=aO2 (l:=mus its) (x:=x) (by omega);have a2:=aO2 (l:=mus its) hmod;obtain ⟨A,eA⟩:∃ A,A=(mus its).getD x 0:=⟨_,rfl⟩;obtain ⟨B,eB⟩:∃ B,B=(mus its).getD y2 0:=⟨_,rfl⟩;rw [<- eA] at a1;rw [<- eB] at a2;have hrp:=yF (n:=its.length) (a:=A) (b:=B) h1.2;have rl:(rst its.length A B).length<=its.length:=by
     have:=List.length_filter_le (fun z=>decide (z≠A)&&decide (z≠B)) (List.range its.length)
     simpa [rst] using this
    obtain ⟨z,ez,hz⟩:=bD (digS (digS t (mus its).length) ((mus its).length - 1)) (b:=(rst its.length A B).length) (by omega);have d3:=cL d (h++[Cell.l (L.map p3)]) (digS (digS t (mus its).length) ((mus its).length - 1)) (rst its.length A B).length (gi hi _) (by omega) (cJ (by omega) (by omega));have a3:=aO2 (l:=rst its.length A B) (x:=z) (by omega);obtain ⟨Z,eZ⟩:∃ Z,Z=(rst its.length A B).getD z 0:=⟨_,rfl⟩;rw [<- eZ] at a3;refine ⟨[some (.c i),some (.d (.tuple (its.map It.dat))),some (.d (.int x)),some (.d (.list ((mus its).map nI))),some (.c h.length),some (.d (rng 0 k)[m]),some (.d (.int y2)),some (.d (.list ((rst its.length A B).map nI)))],(h++[Cell.l ((L++[(A,B,Z)]).map p3)]).set i (stL (digS (digS (digS t (mus its).length) ((mus its).length - 1)) (rst its.length A B).length)),?_,_,_,_,_,rfl,?_⟩
    ·simp [h1a,h1b,h1.1,h1.2,d1,d2,ex,ey,em,dn,h0n,szl,aJ,en];rw [eX (pR A B) id (fun δ=>∃ a,δ=[a,some (.d (.list ((mus its).map nI))),some (.d (.int x)),some (.d (.int y2))]) _ _ _ ⟨_,rfl⟩ (fun w hw δ ⟨a,e⟩=>by
      subst e;rw [gT] at hw;obtain ⟨q,hq,rfl⟩:=List.mem_map.mp hw;refine ⟨[some (.d (nI q)),_,_,_],rfl,⟨_,rfl⟩,?_,fun _=>by simp⟩
      by_cases hqA:(q:Int)=A<;>simp [nI,a1,a2,PyData.eqv,pR,hqA])]
     rw [List.nil_append,sQ (pR A B) (fun z=>decide (z≠A)&&decide (z≠B)) its.length (fun k _=>by
      have e1:((k:Int)=A)=(k=A):=propext (by omega);have e2:((k:Int)=B)=(k=B):=propext (by omega);simp [pR,nI,e1,e2])]
     rw [show (List.range its.length).filter (fun z=>decide (z≠A)&&decide (z≠B))=rst its.length A B from rfl];simp [a1,a2,d3,ez,a3,gl hi,gl2 hi,gm hi,gs hi,l1,szl,p3]
    ·rw [tst,if_pos h1];simp only [ex,ey,Int.toNat_natCast,<- ey2,<- eA,<- eB,ez,<- eZ]
   ·refine ⟨[some (.c i),some (.d (.tuple (its.map It.dat))),x2,some (.d (.list ((mus its).map nI))),some (.c h.length),some (.d (rng 0 k)[m]),x6,x7],(h++[Cell.l (L.map p3)]).set i (stL t),?_,_,_,_,_,rfl,?_⟩
    ·by_cases h2:1 < (mus its).length
     ·have h3:¬ 2 < its.length:=fun z=>h1 ⟨h2,z⟩;have h2':(1:Int) < (mus its).length:=by omega
      have h3':¬ (2:Int) < its.length:=by omega
      simp [h2',h3']
     ·have h2':¬ (1:Int) < (mus its).length:=by omega
      simp [h2']
    ·simp [tst,h1]
 obtain ⟨δ',h',rfl,x2,x5,x6,x7,rfl,rfl⟩:=kk;have o1:∀ L s',okP (h.set i (stL s)) ((h++L).set i (stL s'))=True:=fun L s'=>aK9 s' hi;have o2:∀ (L:aA) (s':S3),((h++L).set i (stL s')).take h.length=h.set i (stL s'):=fun L s'=>aL0 hi;simp [g_t hi,szl,o1,o2]
end K24

namespace K24
open PySem PySem.Spec PyProof.Rows L2 DL CI SJ
def aC4 (st:List Int):Stp->PyData
 | .call c=>(aC0 (dnC st c).1).dat
 | .look c=>(aC0 (dnC st c).1).dat
 | .lay _=>.tuple [.str "done"]
def yG {c:SJ.Call} (hc:c.ok) {st:List Int} (hl:st.length=8):∀ ns,(dnC st c).1=.all ns->ns≠[]/\ns.length<=8:=by
 intro ns e;cases c with
 | one o=>cases e
 | deal cs=>cases e
 | span lo hi =>
  have h1:=hc.1;have h2:=hc.2;have e':(st.drop lo).take (hi - lo)=ns:=by cases e;rfl
  have l:ns.length=hi - lo:=by rw [<- e'];simp;omega
  exact ⟨fun z=>by rw [z] at l;simp at l;omega,by omega⟩
def bZ3 (d:Nat) (h:aA) {p:Stp} (hp:Sok p) {st:List Int} (hl:st.length=8):aE T (d+2) "_law_altered" [.d (dnS st p).1] h=some (aC4 st p,h):=by
 cases p with
 | call c=>exact aN3 d h _ (yG hp hl)
 | look c=>exact aN3 d h _ (yG hp hl)
 | lay ps=>exact wK (d+1) h .dn
noncomputable def sT:Stp->Bool
 | .call _=>true
 | _=>false
def anF (st:List Int) (p:Stp) (s:S3):PyData×S3 :=
 if aO s 7=0 then (.none,digS s 7) else if aO s 7=1 then (aC4 st p,digS s 7)
 else if aO s 7=2/\sT p=true then (if aO (digS s 7) 4=0 then (aC1,digS (digS s 7) 4) else ((dnS st p).1,digS (digS s 7) 4))
 else ((dnS st p).1,digS s 7)
def yH {p:Stp} (hp:Sok p) {st:List Int} (hl:st.length=8):mR p (dnS st p).1=true:=by
 cases p with
 | call c=>exact (kK hp (kJ hp hl)).1
 | look c=>exact (kK hp (kJ hp hl)).2
 | lay ps=>simp [mR,dnS,aK]
def aO3 {p:Stp} (hp:Sok p) {st:List Int} (hl:st.length=8):mR p (aC4 st p)=true/\tOk (aC4 st p):=by
 cases p with
 | call c=>exact ⟨(kK hp (uL hp (kJ hp hl))).1,.inr (.inr ⟨_,rfl⟩)⟩
 | look c=>exact ⟨(kK hp (uL hp (kJ hp hl))).2,.inr (.inr ⟨_,rfl⟩)⟩
 | lay ps=>exact ⟨by simp [mR,aC4,aK],.inr (.inr ⟨.one .dn,rfl⟩)⟩
def bM6 {p:Stp} (hp:Sok p) {st:List Int} (hl:st.length=8) (s:S3):((anF st p s).1=.none\/mR p (anF st p s).1=true)/\tOk (anF st p s).1:=by
 unfold anF;split
 ·exact ⟨.inl rfl,.inl rfl⟩
 split
 ·exact ⟨.inr (aO3 hp hl).1,(aO3 hp hl).2⟩
 split
 ·rename_i hc;split
  ·refine ⟨.inr ?_,.inr (.inl rfl)⟩;cases p with
   | call c=>simp [mR,aC1,aK]
   | look c=>cases hc.2
   | lay ps=>cases hc.2
  ·exact ⟨.inr (yH hp hl),(bM0 st p).1⟩
 ·exact ⟨.inr (yH hp hl),(bM0 st p).1⟩
noncomputable def wdF (n:Int):String:=if n < 4 then "must" else if n < 6 then "may" else "out"
def itF (st:List Int) (s:S3):It×List Int×S3 :=
 let p:=(sF s).1
 let a:=anF st p (sF s).2
 (⟨p,a.1,wdF (aO a.2 7)⟩,(dnS st p).2,digS a.2 7)
def bM7 {st:List Int} (hl:st.length=8) (s:S3):(itF st s).1.ok/\(itF st s).2.1.length=8:=by
 have h:=bM6 (aW9 s) hl (sF s).2;refine ⟨⟨aW9 s,h.1,h.2,?_⟩,yB (aW9 s) hl⟩;show wdF _=_\/wdF _=_\/wdF _=_;unfold wdF;split
 ·exact .inl rfl
 split
 ·exact .inr (.inl rfl)
 ·exact .inr (.inr rfl)
def bZ4 (s:S3):atI [PyData.str (Str.ofString "must"),.str (Str.ofString "must"),.str (Str.ofString "must"),.str (Str.ofString "must"),.str (Str.ofString "may"),.str (Str.ofString "may"),.str (Str.ofString "out")] (aO s 7)=some (.str (Str.ofString (wdF (aO s 7)))):=by
 have h1:=dZ s (b:=7) (by decide);have h2:=eE s (b:=7) (by decide);have:aO s 7=0\/aO s 7=1\/aO s 7=2\/aO s 7=3\/aO s 7=4\/aO s 7=5\/aO s 7=6:=by omega
 rcases this with e | e | e | e | e | e | e<;>rw [e]<;>first | (simp [wdF];done) | exact eW (j:=6) rfl
end K24

namespace K24
open PySem PySem.Spec PyProof.Rows L2 DL CI SJ
variable (d:Nat) (h:aA)
section
variable {α:Type} (F:α->PyData)
noncomputable def cV (p:Nat×α):PyData×PyData:=(.int p.1,F p.2)
noncomputable def putN (g:List (Nat×α)) (k:Nat) (v:α):List (Nat×α):=if (g.any fun p=>decide (p.1=k))=true then g.map (fun p=>if p.1=k then (p.1,v) else p) else g++[(k,v)]
noncomputable def fP (g:List (Nat×α)) (k:Nat):Option α:=(g.find? fun p=>decide (p.1=k)).map (·.2)
def fM (i:Int):cC (.int i)=some (.inl i):=rfl
def oO (p:Nat×α) (k:Nat):(cC (cV F p).1=cC (.int (k:Int)))=(p.1=k):=by simp [cV,fM];omega
def aO4 (g:List (Nat×α)) (k:Nat) (v:α):mL (g.map (cV F)) (.int (k:Int)) (F v)=(putN g k v).map (cV F):=by
 have e1:((g.map (cV F)).any fun p=>decide (cC p.1=cC (.int (k:Int))))=g.any fun p=>decide (p.1=k):=by
  rw [List.any_map]
  congr 1
  funext p
  simp only [Function.comp,oO]
 unfold mL putN;rw [e1];split
 ·rw [List.map_map,List.map_map];refine List.map_congr_left fun p _=>?_;simp only [Function.comp,oO];split<;>rfl
 ·rw [List.map_append];rfl
def aX6 (g:List (Nat×α)) (k:Nat):((g.map (cV F)).find? fun p=>decide (cC p.1=cC (.int (k:Int)))).map (·.2)=(fP g k).map F:=by
 unfold fP;induction g with
 | nil=>rfl
 | cons p r ih =>
  rw [List.map_cons,List.find?_cons,List.find?_cons];have e:=oO F p k
  by_cases h:p.1=k
  ·have h':cC (cV F p).1=cC (.int (k:Int)):=by rw [e];exact h
   simp only [h',h,decide_true];rfl
  ·have h':¬ cC (cV F p).1=cC (.int (k:Int)):=by rw [e];exact h
   simp only [h',h,decide_false];exact ih
def aX7 (g:List (Nat×α)) (k:Nat) (v:α):(putN g k v).length<=g.length+1:=by
 unfold putN;split<;>simp
def yI (g:List (Nat×α)) (k:Nat) (v:α) (j:Nat):fP (putN g k v) j=if j=k then some v else fP g j:=by
 have hm:∀ g:List (Nat×α),fP (g.map fun p=>if p.1=k then (p.1,v) else p) j=if j=k then (fP g j).map fun _=>v else fP g j:=fun g=>by
  unfold fP;induction g with
  | nil=>simp
  | cons p r ih =>
   rw [List.map_cons,List.find?_cons,List.find?_cons]
   by_cases e1:p.1=k
   ·rw [if_pos e1]
    by_cases e2:p.1=j
    ·simp [e2,e1.symm.trans e2]
    ·have:¬ j=k:=fun z=>e2 (e1.trans z.symm);simp only [this,if_false] at ih ⊢;simp only [decide_eq_false e2];exact ih
   ·rw [if_neg e1]
    by_cases e2:p.1=j
    ·have:¬ j=k:=fun z=>e1 (e2.trans z);simp [e2,this]
    ·simp only [decide_eq_false e2];exact ih
 have ha:∀ g:List (Nat×α),(g.any fun p=>decide (p.1=k))=(fP g k).isSome:=fun g=>by
  unfold fP;induction g with
  | nil=>rfl
  | cons p r ih =>
   rw [List.any_cons,List.find?_cons,ih]
   by_cases e:p.1=k<;>simp [e]
 unfold putN;rw [ha];split
 ·rename_i z;rw [hm];split
  ·rename_i e;rw [e];obtain ⟨w,ew⟩:=Option.isSome_iff_exists.mp z;rw [ew];rfl
  ·rfl
 ·rename_i z;have z:fP g k=none:=by simpa using z
  unfold fP at z ⊢;rw [List.find?_append];split
  ·rename_i e;rw [e];have z:g.find? (fun p=>decide (p.1=k))=none:=by simpa using z
   rw [z];simp
  ·rename_i e;have:¬ k=j:=fun q=>e q.symm;cases q:g.find? (fun p=>decide (p.1=j))<;>simp [this]
end
end K24

namespace K24
open PySem PySem.Spec PyProof.Rows L2 DL CI SJ
structure Rn where
 ops:List Nat
 kv:List (Nat×It)
 st:List Int
 s:S3
def rnd (q:Rn):Rn :=
 ⟨q.ops.eraseIdx (aO (itF q.st q.s).2.2 q.ops.length).toNat,putN q.kv (q.ops.getD (aO (itF q.st q.s).2.2 q.ops.length).toNat 0) (itF q.st q.s).1,(itF q.st q.s).2.1,digS (itF q.st q.s).2.2 q.ops.length⟩
def itI (n:Nat) (st:List Int) (s:S3):Nat->Rn
 | 0=>⟨List.range n,[],st,s⟩
 | k+1=>rnd (itI n st s k)
structure Rn.ok (n k:Nat) (q:Rn):Prop where
 ol:q.ops.length+k=n
 ob:∀ x∈q.ops,x < n
 kl:q.kv.length<=k
 st:q.st.length=8
 al:∀ x,x < n->x∈q.ops\/∃ y,fP q.kv x=some y
 kv:∀ x y,fP q.kv x=some y->y.ok
def bM8 {n k:Nat} {q:Rn} (hq:q.ok n k) (hk:k < n):(rnd q).ok n (k+1):=by
 have hl:=hq.ol;obtain ⟨j,ej,hj⟩:=bD (itF q.st q.s).2.2 (b:=q.ops.length) (by omega);have hj':j < q.ops.length:=by omega
 have hi:=bM7 hq.st q.s;have er:rnd q=⟨q.ops.eraseIdx j,putN q.kv (q.ops.getD j 0) (itF q.st q.s).1,(itF q.st q.s).2.1,digS (itF q.st q.s).2.2 q.ops.length⟩:=by
  unfold rnd;rw [ej,Int.toNat_natCast]
 rw [er];refine ⟨?_,fun x hx=>hq.ob x (List.mem_of_mem_eraseIdx hx),?_,hi.2,fun x hx=>?_,fun x y e=>?_⟩
 ·show (q.ops.eraseIdx j).length+(k+1)=n;rw [List.length_eraseIdx_of_lt hj'];omega
 ·have:=aX7 q.kv (q.ops.getD j 0) (itF q.st q.s).1;have:=hq.kl;show (putN _ _ _).length<=k+1;omega
 ·show x∈q.ops.eraseIdx j\/∃ y,fP (putN q.kv (q.ops.getD j 0) (itF q.st q.s).1) x=some y;rw [yI]
  by_cases h1:x=q.ops.getD j 0
  ·right;rw [if_pos h1];exact ⟨_,rfl⟩
  ·rw [if_neg h1];rcases hq.al x hx with h2 | h2
   ·left;obtain ⟨m,hm,e⟩:=List.mem_iff_getElem.mp h2;refine List.mem_eraseIdx_iff_getElem.mpr ⟨m,hm,fun z=>h1 ?_,e⟩;subst z;rw [List.getD_eq_getElem?_getD,List.getElem?_eq_getElem hm,<- e];rfl
   ·exact .inr h2
 ·have e':fP (putN q.kv (q.ops.getD j 0) (itF q.st q.s).1) x=some y:=e;rw [yI] at e';split at e'
  ·cases e';exact hi.1
  ·exact hq.kv x y e'
theorem oP {n:Nat} {st:List Int} (hl:st.length=8) (s:S3):∀ k,k<=n->(itI n st s k).ok n k
 | 0,_=>⟨by simp [itI],fun x hx=>by simpa [itI] using hx,Nat.le_refl 0,hl,fun x hx=>.inl (by simpa [itI] using hx),fun x y e=>by simp [itI,fP] at e⟩
 | k+1,hk=>bM8 (oP hl s k (by omega)) (by omega)
end K24

namespace K24
open PySem PySem.Spec PyProof.Rows L2 DL CI SJ
theorem aO5 (f:Nat->PyData):∀ (l:List Nat) (j:Nat),(l.map f).eraseIdx j=(l.eraseIdx j).map f
 | [],j=>by simp
 | a::r,0=>by simp
 | a::r,j+1=>by simp [aO5 f r j]
def Gc (h:aA) (i:Nat) (xs:List PyData) (kvs:List (PyData×PyData)) (s:S3):aA:=(h++[Cell.l xs,Cell.k kvs]).set i (stL s)
section
variable {h:aA} {i:Nat} (hi:i < h.length)
include hi
def G_l (xs:List PyData) (kvs:List (PyData×PyData)) (s:S3):(Gc h i xs kvs s)[h.length]?=some (.l xs):=by
 unfold Gc;rw [List.getElem?_set_ne (by omega)];simp
def G_k (xs:List PyData) (kvs:List (PyData×PyData)) (s:S3):(Gc h i xs kvs s)[h.length+1]?=some (.k kvs):=by
 unfold Gc;rw [List.getElem?_set_ne (by omega)];simp
def cO6 (xs ys:List PyData) (kvs:List (PyData×PyData)) (s:S3):(Gc h i xs kvs s).set h.length (.l ys)=Gc h i ys kvs s:=by
 unfold Gc;rw [List.set_comm _ _ (by omega)];simp
def cO7 (xs:List PyData) (kvs kvs':List (PyData×PyData)) (s:S3):(Gc h i xs kvs s).set (h.length+1) (.k kvs')=Gc h i xs kvs' s:=by
 unfold Gc;rw [List.set_comm _ _ (by omega)]
 congr 1
 rw [List.set_append_right _ _ (by omega)];simp
def bZ5 (xs:List PyData) (kvs:List (PyData×PyData)) (s:S3):bJ [.c h.length] (Gc h i xs kvs s)=some (.d (.int xs.length),Gc h i xs kvs s):=by
 unfold bJ ref;dsimp only;rw [G_l hi]
def mU (d:Nat) (xs:List PyData) (kvs:List (PyData×PyData)) (s:S3) (b:Int) (hb:0 < b) (hb2:bA b=true):aE T (d+1) "_law_digit" [.c i,.d (.int b)] (Gc h i xs kvs s)=some (.int (aO s b),Gc h i xs kvs (digS s b)):=cL d _ s b (by simp;omega) hb hb2
def bM9 (d:Nat) (xs:List PyData) (kvs:List (PyData×PyData)) (s:S3):aE T (d+4) "_law_step" [.c i] (Gc h i xs kvs s)=some ((sF s).1.dat,Gc h i xs kvs (sF s).2):=bL7 d _ s (by simp;omega)
def bZ6 {ops:List Nat} {j:Nat} (hj:j < ops.length) (hl:ops.length<=120) (kvs:List (PyData×PyData)) (s:S3):zH h.length [.d (.int j)] (Gc h i (ops.map nI) kvs s)=some (.d (.int (ops.getD j 0)),Gc h i ((ops.eraseIdx j).map nI) kvs s):=by
 unfold zH;rw [G_l hi];have e:ixN (ops.map nI).length (j:Int)=some j:=by
  unfold ixN;rw [if_pos (by omega),List.length_map,if_pos (by omega)];simp
 have e2:(ops.map nI)[j]?=some (.int (ops.getD j 0)):=by
  rw [List.getElem?_map,List.getElem?_eq_getElem hj,List.getD_eq_getElem?_getD,List.getElem?_eq_getElem hj];rfl
 simp only [e,e2,bs];rw [if_pos ⟨by omega,by omega⟩,aO5,cO6 hi]
end
end K24

namespace K24
open PySem PySem.Spec PyProof.Rows L2 DL CI SJ
theorem bB2 {α:Type} {x:Option α} {f:α->Option (Fl×aA)} {P:DSt->aA->Prop} (a:α) (e:x=some a) (k:∃ δ2 h2,f a=some (.nx δ2,h2)/\P δ2 h2):∃ δ2 h2,x.bind f=some (.nx δ2,h2)/\P δ2 h2:=by
 rw [e];exact k
noncomputable def dfI:It:=⟨.lay [],.none,""⟩
def itsF (n:Nat) (st:List Int) (s:S3):List It:=(List.range n).map fun k=>(fP (itI n st s n).kv k).getD dfI
def aX8 {n:Nat} {st:List Int} (hl:st.length=8) (s:S3):∀ x∈itsF n st s,x.ok:=by
 intro x hx;obtain ⟨k,hk,rfl⟩:=List.mem_map.mp hx;have hk:=List.mem_range.mp hk;have hq:=oP hl s n (Nat.le_refl n);have ho:(itI n st s n).ops=[]:=List.eq_nil_of_length_eq_zero (by have:=hq.ol;omega);rcases hq.al k hk with z | ⟨y,e⟩
 ·rw [ho] at z;cases z
 ·rw [e];exact hq.kv k y e
def aO6 {n:Nat} {st:List Int} (hl:st.length=8) (s:S3) {k:Nat} (hk:k < n):∃ y,fP (itI n st s n).kv k=some y/\(fP (itI n st s n).kv k).getD dfI=y:=by
 have hq:=oP hl s n (Nat.le_refl n);have ho:(itI n st s n).ops=[]:=List.eq_nil_of_length_eq_zero (by have:=hq.ol;omega);rcases hq.al k hk with z | ⟨y,e⟩
 ·rw [ho] at z;cases z
 ·exact ⟨y,e,by rw [e];rfl⟩
def an2 (st:List Int) (p:Stp) (w:Int):PyData:=if w=1 then aC4 st p else if w=0 then .none else (dnS st p).1
def bZ7 (st:List Int) (p:Stp) (s:S3):anF st p s=if aO s 7=2/\sT p=true then (if aO (digS s 7) 4=0 then (aC1,digS (digS s 7) 4) else (an2 st p (aO s 7),digS (digS s 7) 4)) else (an2 st p (aO s 7),digS s 7):=by
 unfold anF an2
 by_cases h0:aO s 7=0
 ·simp [h0]
 by_cases h1:aO s 7=1
 ·simp [h1]
 by_cases h2:aO s 7=2
 ·simp [h2]
 ·simp [h0,h1,h2]
def cO8 {p:Stp}:∃ (w:String) (xs:List PyData),p.dat=.tuple (.str (Str.ofString w)::xs)/\(sT p=true ↔ ¬ w="look"/\¬ w="lay")/\w.length < 10:=by
 cases p with
 | call c =>
  cases c with
  | one o=>cases o<;>exact ⟨_,_,rfl,by simp [sT],by decide⟩
  | span lo hi=>exact ⟨_,_,rfl,by simp [sT],by decide⟩
  | deal cs=>exact ⟨_,_,rfl,by simp [sT],by decide⟩
 | look c=>exact ⟨"look",_,rfl,by simp [sT],by decide⟩
 | lay ps=>exact ⟨"lay",_,rfl,by simp [sT],by decide⟩
def IQ (h:aA) (i n:Nat) (st:List Int) (q:Rn) (δ:DSt) (H:aA):Prop:=∃ x6 x7 x8 x9 x10:Option W,δ=[some (.c i),some (.d (.tuple (st.map .int))),some (.d (.int n)),some (.d (.tuple (q.st.map .int))),some (.c h.length),some (.c (h.length+1)),x6,x7,x8,x9,x10]/\H=Gc h i (q.ops.map nI) (q.kv.map (cV It.dat)) q.s
def sqE {x:Option (Fl×aA)} {f:DSt->Fl×aA->Option (Fl×aA)} {R:Option (Fl×aA)} (J:DSt->aA->Prop) (e:∃ δ' h',x=some (.nx δ',h')/\J δ' h') (k:∀ δ' h',J δ' h'->f δ' (.nx δ',h')=R):YP x (YQ f)=R:=by
 obtain ⟨δ',h',e,j⟩:=e;rw [e];exact k δ' h' j
def cO9 {h:aA} {i:Nat} (hi:i < h.length) (xs:List PyData) (kvs:List (PyData×PyData)) (s s':S3):okP (h.set i (stL s)) (Gc h i xs kvs s')/\(Gc h i xs kvs s').take h.length=h.set i (stL s'):=by
 unfold Gc;exact ⟨by rw [aK9 s' hi];trivial,aL0 hi⟩
def fkV (kv:List (Nat×It)):PyData->PyData
 | .int k=>((fP kv k.toNat).getD dfI).dat
 | _=>.none
def cP0 {h:aA} {i:Nat} (hi:i < h.length) (xs:List PyData) {kv:List (Nat×It)} {s:S3} {k:Nat} {y:It} (e:fP kv k=some y):xIx (.c (h.length+1)) (.d (.int k)) (Gc h i xs (kv.map (cV It.dat)) s)=some (.d y.dat,Gc h i xs (kv.map (cV It.dat)) s):=by
 have f:=aX6 It.dat kv k;rw [e,fM] at f;unfold xIx ref;dsimp only;rw [G_k hi];dsimp only [fM];cases q:(kv.map (cV It.dat)).find? (fun p=>decide (cC p.1=some (Sum.inl (k:Int)))) with
 | none=>rw [q] at f;cases f
 | some z =>
  rw [q] at f;have:z.2=y.dat:=Option.some.inj f;rw [Option.map_some,this]
def aX9 (d:Nat) (h:aA) {i n:Nat} (s:S3) (hi:i < h.length) (hn:n<=120) {st:List Int} (hl:st.length=8):aE T (d+6) "_law_items" [.c i,.d (.tuple (st.map .int)),.d (.int n)] (h.set i (stL s))=some (.tuple ((itsF n st s).map It.dat),h.set i (stL (itI n st s n).s)):=by
 have e7:bA 7=true:=by decide
 have e4:bA 4=true:=by decide
 have er:fN 0 (n:Int)=true:=bO (by omega) (by omega);have sa:∀ (s:S3) (L:aA),h.set i (stL s)++L=(h++L).set i (stL s):=fun s L=>fD hi;rw [show d+6=(d+5)+1 from rfl,rY];refine sq (.rt (.d (.tuple ((itsF n st s).map It.dat))),Gc h i [] ((itI n st s n).kv.map (cV It.dat)) (itI n st s n).s) ?_ ?_
 ·refine sy [some (.c i),some (.d (.tuple (st.map .int))),some (.d (.int n)),some (.d (.tuple (st.map .int))),none,none,none,none,none,none,none] (h.set i (stL s)) (by simp) ?_;refine sy [some (.c i),some (.d (.tuple (st.map .int))),some (.d (.int n)),some (.d (.tuple (st.map .int))),some (.c h.length),none,none,none,none,none,none] ((h++[Cell.l ((List.range n).map nI)]).set i (stL s)) ?_ ?_
  ·have b1:(-4611686018427387904:Int)<=n:=by omega
   have b2:(n:Int) < 4611686018427387904:=by omega
   have b3:(n:Int)<=16000000:=by omega
   simp [bB,sa,b1,b2,b3,gT]
  refine sy [some (.c i),some (.d (.tuple (st.map .int))),some (.d (.int n)),some (.d (.tuple (st.map .int))),some (.c h.length),some (.c (h.length+1)),none,none,none,none,none] (Gc h i ((List.range n).map nI) [] s) ?_ ?_
  ·have:∀ c,i < (h++[c]).length:=fun c=>by simp;omega
   simp [xA,Gc];rw [fD (this _),List.append_assoc];rfl
  refine sqE (IQ h i n st (itI n st s n)) ?_ ?_
  ·refine bB2 ((rng 0 n,none),Gc h i ((List.range n).map nI) [] s) (by simp [er]) ?_;refine cF (fun m=>IQ h i n st (itI n st s m)) ⟨_,_,_,_,_,rfl,rfl⟩ (fun δ h'=>by rw [CI.rng_len];exact id) fun m hm δ H r=>?_;obtain ⟨x6,x7,x8,x9,x10,rfl,rfl⟩:=r;have hm':m < n:=by simpa [rng] using hm
   have hq:=oP (n:=n) hl s m (Nat.le_of_lt hm');rw [itI];generalize (rng 0 n)[m]=v6;generalize itI n st s m=q at hq ⊢;obtain ⟨ops,kv,st',s'⟩:=q;have hst:st'.length=8:=hq.st;have hol:ops.length+m=n:=hq.ol;have hkl:kv.length<=m:=hq.kl;clear hq;obtain ⟨os,eos⟩:∃ os,os=ops.map nI:=⟨_,rfl⟩;obtain ⟨ks,eks⟩:∃ ks,ks=kv.map (cV It.dat):=⟨_,rfl⟩;refine ⟨[some (.c i),some (.d (.tuple (st.map .int))),some (.d (.int n)),some (.d (.tuple (st'.map .int))),some (.c h.length),some (.c (h.length+1)),some (.d v6),x7,x8,x9,x10],Gc h i os ks s',by rw [eos,eks];rfl,?_⟩;have g1:=bM9 hi (d+1) os ks s';obtain ⟨p,s1,ep⟩:∃ p s1,sF s'=(p,s1):=⟨_,_,rfl⟩;have hp:Sok p:=by have:=aW9 s';rw [ep] at this;exact this
   rw [ep] at g1;dsimp only at g1;refine sys [some (.c i),some (.d (.tuple (st.map .int))),some (.d (.int n)),some (.d (.tuple (st'.map .int))),some (.c h.length),some (.c (h.length+1)),some (.d v6),some (.d p.dat),x8,x9,x10] (Gc h i os ks s1) (by simp [g1]) ?_;have g2:=aM9 d (Gc h i os ks s1) hp hst;refine sys [some (.c i),some (.d (.tuple (st.map .int))),some (.d (.int n)),some (.d (.tuple ((dnS st' p).2.map .int))),some (.c h.length),some (.c (h.length+1)),some (.d v6),some (.d p.dat),some (.d (dnS st' p).1),x9,x10] (Gc h i os ks s1) (by simp [g2]) ?_;have g3:=mU hi (d+4) os ks s1 7 (by decide) e7;obtain ⟨w,ew⟩:∃ w,w=aO s1 7:=⟨_,rfl⟩;rw [<- ew] at g3;refine sys [some (.c i),some (.d (.tuple (st.map .int))),some (.d (.int n)),some (.d (.tuple ((dnS st' p).2.map .int))),some (.c h.length),some (.c (h.length+1)),some (.d v6),some (.d p.dat),some (.d (dnS st' p).1),some (.d (.int w)),x10] (Gc h i os ks (digS s1 7)) (by simp [g3]) ?_;refine sys [some (.c i),some (.d (.tuple (st.map .int))),some (.d (.int n)),some (.d (.tuple ((dnS st' p).2.map .int))),some (.c h.length),some (.c (h.length+1)),some (.d v6),some (.d p.dat),some (.d (if w=0 then .none else (dnS st' p).1)),some (.d (.int w)),x10] (Gc h i os ks (digS s1 7)) (by by_cases z:w=0<;>simp [z]) ?_;refine sys [some (.c i),some (.d (.tuple (st.map .int))),some (.d (.int n)),some (.d (.tuple ((dnS st' p).2.map .int))),some (.c h.length),some (.c (h.length+1)),some (.d v6),some (.d p.dat),some (.d (an2 st' p w)),some (.d (.int w)),x10] (Gc h i os ks (digS s1 7)) (by
    by_cases z:w=1
    ·have g4:=bZ3 (d+3) (Gc h i os ks (digS s1 7)) hp hst;simp [z,an2,g4]
    ·simp [z,an2]) ?_
   obtain ⟨A,s2,eA⟩:∃ A s2,anF st' p s1=(A,s2):=⟨_,_,rfl⟩;refine sys [some (.c i),some (.d (.tuple (st.map .int))),some (.d (.int n)),some (.d (.tuple ((dnS st' p).2.map .int))),some (.c h.length),some (.c (h.length+1)),some (.d v6),some (.d p.dat),some (.d A),some (.d (.int w)),x10] (Gc h i os ks s2) (by
    rw [bZ7,<- ew] at eA;obtain ⟨wd,xs,ed,hw,_⟩:=cO8 (p:=p)
    by_cases h2:w=2
    ·by_cases hc:sT p=true
     ·obtain ⟨n1,n2⟩:=hw.mp hc;have g5:=mU hi (d+4) os ks (digS s1 7) 4 (by decide) e4;rw [if_pos ⟨h2,hc⟩] at eA
      by_cases h4:aO (digS s1 7) 4=0
      ·rw [if_pos h4] at eA;cases eA;simp [h2,ed,PyData.eqv,n1,n2,g5,h4,aC1,szl]
      ·rw [if_neg h4] at eA;cases eA;simp [h2,ed,PyData.eqv,n1,n2,g5,h4]
     ·rw [if_neg (fun z=>hc z.2)] at eA;cases eA
      by_cases n1:wd="look"
      ·simp [h2,ed,PyData.eqv,n1]
      ·have n2:wd="lay":=Classical.byContradiction fun n2=>hc (hw.mpr ⟨n1,n2⟩);simp [h2,ed,PyData.eqv,n2]
    ·rw [if_neg (fun z=>h2 z.1)] at eA;cases eA;simp [h2]) ?_
   have g6:=mU hi (d+4) os ks s2 7 (by decide) e7;have g7:=bZ4 s2;refine sys [some (.c i),some (.d (.tuple (st.map .int))),some (.d (.int n)),some (.d (.tuple ((dnS st' p).2.map .int))),some (.c h.length),some (.c (h.length+1)),some (.d v6),some (.d p.dat),some (.d A),some (.d (.int w)),some (.d (.str (Str.ofString (wdF (aO s2 7)))))] (Gc h i os ks (digS s2 7)) (by simp [g6,g7,szl,aJ]) ?_;have lo:(0:Int) < ops.length:=by omega
   obtain ⟨j,ej,hj⟩:=bD (digS s2 7) (b:=ops.length) lo;have hj':j < ops.length:=by omega
   have g8:=mU hi (d+4) os ks (digS s2 7) ops.length lo (cJ lo (by omega));have g9:=bZ5 hi os ks (digS s2 7);have g10:=bZ6 hi hj' (by omega) ks (digS (digS s2 7) ops.length);have g11:=G_l hi os ks (digS s2 7);have ol:os.length=ops.length:=by rw [eos];simp
   rw [<- eos] at g10;rw [ej] at g8;rw [ol] at g9;have hk2:ks.length < 16777216:=by rw [eks];simp;omega
   have g12:=G_k hi ((ops.eraseIdx j).map nI) ks (digS (digS s2 7) ops.length);have g13:=aO4 It.dat kv (ops.getD j 0) ⟨p,A,wdF (aO s2 7)⟩;have ei:itF st' s'=(⟨p,A,wdF (aO s2 7)⟩,(dnS st' p).2,digS s2 7):=by simp [itF,ep,eA]
   have er':rnd ⟨ops,kv,st',s'⟩=⟨ops.eraseIdx j,putN kv (ops.getD j 0) ⟨p,A,wdF (aO s2 7)⟩,(dnS st' p).2,digS (digS s2 7) ops.length⟩:=by
    unfold rnd;simp only [ei,ej,Int.toNat_natCast]
   rw [er'];refine ⟨[some (.c i),some (.d (.tuple (st.map .int))),some (.d (.int n)),some (.d (.tuple ((dnS st' p).2.map .int))),some (.c h.length),some (.c (h.length+1)),some (.d v6),some (.d p.dat),some (.d A),some (.d (.int w)),some (.d (.str (Str.ofString (wdF (aO s2 7)))))],Gc h i ((ops.eraseIdx j).map nI) ((putN kv (ops.getD j 0) ⟨p,A,wdF (aO s2 7)⟩).map (cV It.dat)) (digS (digS s2 7) ops.length),?_,_,_,_,_,_,rfl,rfl⟩;rw [<- g13,<- eks];simp [g8,g9,g10,g11,g12,szl,hk2,fM,It.dat,cO7 hi]
  ·rintro δ' H ⟨x6,x7,x8,x9,x10,rfl,rfl⟩;have hq:=oP hl s n (Nat.le_refl n);have ho:(itI n st s n).ops=[]:=List.eq_nil_of_length_eq_zero (by have:=hq.ol;omega);rw [ho];simp [er,aJ,szl];rw [bK4 (fkV (itI n st s n).kv) (fun δ=>∃ a,δ=[a,some (.c (h.length+1))]) _ _ ⟨_,rfl⟩ (fun z hz δ ⟨a,e⟩=>by
    subst e;rw [gT] at hz;obtain ⟨k,hk,rfl⟩:=List.mem_map.mp hz;obtain ⟨y,ey,ey2⟩:=aO6 hl s (List.mem_range.mp hk);have g:=cP0 hi [] (s:=(itI n st s n).s) ey;refine ⟨[some (.d (nI k)),_],rfl,⟨_,rfl⟩,?_⟩;simp [nI,fkV,g,ey])]
   rw [gT];simp [itsF,Function.comp_def,nI,fkV]
 ·have:=cO9 hi [] ((itI n st s n).kv.map (cV It.dat)) s (itI n st s n).s;simp [this.1,this.2]
end K24

namespace K24
open PySem PySem.Spec PyProof.Rows L2 DL CI SJ
def vs:Nat->S3->List Int×S3
 | 0,s=>([],s)
 | k+1,s=>((vF s).1::(vs k (vF s).2).1,(vs k (vF s).2).2)
theorem aO7:∀ (k:Nat) (s:S3),(vs k s).1.length=k
 | 0,s=>rfl
 | k+1,s=>by simp [vs,aO7 k]
theorem yJ {g:XG} {te:XR W} {all:List PyData} {h:aA} {i:Nat} (k:Nat) (hg:∀ w δ h,g w δ h=some (δ.set k (some w),h)) :
  ∀ (rest:List PyData) (δ:DSt) (ac:List PyData) (c:Cell) (s:S3),Stf c s->(rest=[]->c=stL s)->(∀ x∈rest,∀ u c s,Stf c s->te ((δ.set k u).set k (some (.d x))) (h.set i c)=some (.d (.int (vF s).1),h.set i (stL (vF s).2))) ->
   aQ g (aD true) te none all rest δ (h.set i c) ac=some (ac++(vs rest.length s).1.map .int,h.set i (stL (vs rest.length s).2))
 | [],δ,ac,c,s,_,hn,_=>by rw [hn rfl];simp [aQ,vs]
 | x::r,δ,ac,c,s,hc,_,hf=>by
  have e:=hf x List.mem_cons_self none c s hc;rw [List.set_set] at e;rw [aQ,cR,if_pos rfl,hg];simp only [Option.bind_some,nU,if_true,e];rw [yJ k hg r _ _ _ _ (stf _) (fun _=>rfl) fun y hy u c s hc=>by
   have:=hf y (List.mem_cons_of_mem _ hy) u c s hc;rw [List.set_set] at this ⊢;rw [List.set_set];exact this]
  simp [vs]
def stF (s:S3):List Int×S3:=if aO s 3=0 then vs 8 (digS s 3) else ([0,0,0,0,0,0,0,0],digS s 3)
def sU (s:S3):(stF s).1.length=8:=by
 unfold stF;split
 ·exact aO7 8 _
 ·rfl
def pN (c:Int) (m:Nat):Nat:=(aO (st0 c) (m+1)).toNat
def pS (c:Int) (m:Nat):List Int×S3:=stF (digS (st0 c) (m+1))
def pI (c:Int) (m:Nat):List It:=itsF (pN c m) (pS c m).1 (pS c m).2
def pT (c:Int) (m:Nat):S3:=(itI (pN c m) (pS c m).1 (pS c m).2 (pN c m)).s
def pP (c:Int) (m:Nat):List (Nat×Nat)×S3:=itP (pN c m) (digS (pT c m) 5) (aO (pT c m) 5).toNat
def pbF (c:Int) (m:Nat):Pb:=⟨(pS c m).1,pI c m,(pP c m).1,(itT (pI c m) (digS (pP c m).2 4) (aO (pP c m).2 4).toNat).1⟩
def aO8 (c:Int) (m:Nat):pN c m<=m:=by
 have h1:=dZ (st0 c) (b:=(m:Int)+1) (by omega);have h2:=eE (st0 c) (b:=(m:Int)+1) (by omega);unfold pN;omega
def wQ (c:Int) (m:Nat):(pI c m).length=pN c m:=by simp [pI,itsF]
def bN0 (c:Int) {m:Nat} (hm:m<=120):(pbF c m).ok:=by
 have hl:=aO8 c m;have e:=wQ c m;refine ⟨sU _,?_,aX8 (sU _) _,?_,?_,?_,wP _ _ _⟩
 ·show (pI c m).length<=120;omega
 ·have:=sP (pN c m) (digS (pT c m) 5) (aO (pT c m) 5).toNat;have:=eE (pT c m) (b:=5) (by decide);show (itP (pN c m) (digS (pT c m) 5) (aO (pT c m) 5).toNat).1.length<=100;omega
 ·intro p hp;show p.1 < (pI c m).length/\p.2 < (pI c m).length/\p.1≠p.2;rw [e];exact wO _ _ _ p hp
 ·have:=sS (pI c m) (digS (pP c m).2 4) (aO (pP c m).2 4).toNat;have:=eE (pP c m).2 (b:=4) (by decide);show (itT (pI c m) (digS (pP c m).2 4) (aO (pP c m).2 4).toNat).1.length<=100;omega
theorem yK (h:aA) (c c':Cell):h++[c]=(h++[c']).set h.length c:=by simp
def aC5 (d:Nat) (h:aA) (c:Int) {m:Nat} (hm:m<=120):aE T (d+7) "_law_problem" [.d (.int c),.d (.int m)] h=some ((pbF c m).dat,h):=by
 have e3:bA 3=true:=by decide
 have er:fN 0 8=true:=bO (by omega) (by omega);have hi:h.length < (h++[Cell.l []]).length:=by simp
 have as:∀ c,h++[c]=(h++[Cell.l []]).set h.length c:=fun c=>yK h c _;obtain ⟨H,eH⟩:∃ H,H=h++[Cell.l []]:=⟨_,rfl⟩;rw [<- eH] at hi as;have hm1:(0:Int) < m+1:=by omega
 have g1:=uH (d+5) H c (m+1) hi hm1 (cJ hm1 (by omega));obtain ⟨n,en⟩:∃ n,n=pN c m:=⟨_,rfl⟩;have hn:aO (st0 c) (m+1)=n:=by
  have h1:=dZ (st0 c) (b:=(m:Int)+1) (by omega);rw [en];unfold pN;omega
 have hn2:n<=120:=by have:=aO8 c m;omega
 rw [hn] at g1;rw [show d+7=(d+6)+1 from rfl,oE];refine sq (.rt (.d (pbF c m).dat),H.set h.length (stL (itT (pI c m) (digS (pP c m).2 4) (aO (pP c m).2 4).toNat).2)) ?_ ?_
 ·refine sy [some (.d (.int c)),some (.d (.int m)),some (.c h.length),none,none,none] (H.set h.length (.l [.int c])) (by simp [bB,szl,<- as]) ?_;refine sy [some (.d (.int c)),some (.d (.int m)),some (.c h.length),some (.d (.int n)),none,none] (H.set h.length (stL (digS (st0 c) (m+1)))) (by simp [g1]) ?_;refine sy [some (.d (.int c)),some (.d (.int m)),some (.c h.length),some (.d (.int n)),some (.d (.tuple ([0,0,0,0,0,0,0,0].map .int))),none] (H.set h.length (stL (digS (st0 c) (m+1)))) (by simp) ?_;refine sy [some (.d (.int c)),some (.d (.int m)),some (.c h.length),some (.d (.int n)),some (.d (.tuple ((pS c m).1.map .int))),none] (H.set h.length (stL (pS c m).2)) ?_ ?_
  ·have g2:=cL (d+5) H (digS (st0 c) (m+1)) 3 hi (by decide) e3;unfold pS stF
   by_cases z:aO (digS (st0 c) (m+1)) 3=0
   ·rw [if_pos z];rw [z] at g2;simp [g2,er,aJ,szl];rw [yJ 0 (fun _ _ _=>rfl) _ _ _ _ _ (stf _) (fun _=>rfl) (fun x hx u c s hc=>by
     have:=uI (d+4) H hc hi;simp [this])]
    simp [rng]
   ·rw [if_neg z];simp [g2,z]
  have g3:=aX9 d H (pS c m).2 hi hn2 (sU (digS (st0 c) (m+1)));have g4:=aX5 (d+4) H (n:=n) (pT c m) hi hn2;have g5:=aC3 (d+4) H (pP c m).2 hi (its:=pI c m) (by rw [wQ];omega);refine sy [some (.d (.int c)),some (.d (.int m)),some (.c h.length),some (.d (.int n)),some (.d (.tuple ((pS c m).1.map .int))),some (.d (.tuple ((pI c m).map It.dat)))] (H.set h.length (stL (pT c m))) ?_ ?_
  ·have g3':aE T (d+6) "_law_items" [.c h.length,.d (.tuple ((pS c m).1.map .int)),.d (.int n)] (H.set h.length (stL (pS c m).2))=some (.tuple ((pI c m).map It.dat),H.set h.length (stL (pT c m))):=by
    rw [en];rw [en] at g3;exact g3
   simp [g3']
  have g4':aE T (d+6) "_law_pairs" [.c h.length,.d (.int n)] (H.set h.length (stL (pT c m)))=some (.tuple ((pP c m).1.map p2),H.set h.length (stL (pP c m).2)):=by
   rw [en];rw [en] at g4;exact g4
  simp [g4',g5,szl,pbF,Pb.dat]
 ·have ek:∀ c,H.set h.length c=h++[c]:=fun c=>(as c).symm;rw [ek];simp
end K24

namespace K24
open PySem PySem.Spec PyProof.Rows L2 DL CI SJ
open Classical in
def bhO (st:List Int) (y:It):Option (List Int):=if y.t=.none\/PyData.eqv y.t (dnS st y.p).1=true then some (dnS st y.p).2 else none
def bZ8 {st:List Int} {y:It} {s:List Int} (e:bhO st y=some s):bh st y=.tuple (s.map .int):=by
 unfold bhO at e;unfold bh;split at e
 ·rename_i c;rw [if_pos c];cases e;rfl
 ·cases e
def bZ9 {st:List Int} {y:It} (e:bhO st y=none):bh st y=.none:=by
 unfold bhO at e;unfold bh;split at e
 ·cases e
 ·rename_i c;rw [if_neg c]
def bN1 {st:List Int} {y:It} (hy:y.ok) (hl:st.length=8) {s:List Int} (e:bhO st y=some s):s.length=8:=by
 unfold bhO at e;split at e
 ·cases e;exact yB hy.s hl
 ·cases e
def aO9 (b:Pb) (line:List Nat):List Nat:=(mus b.its).filter fun x=>!decide (x∈line)
def cP1 (n:Nat):rng 0 n=(List.range' 0 n).map nI:=by rw [gT,List.range_eq_range']
end K24

namespace K24
open PySem PySem.Spec PyProof.Rows L2 DL CI SJ
def wR (d:Nat) (h:aA) {b:Pb} (hb:b.ok):∃ H,callW T (d+14) "ways_of" [.d b.dat] h=some (.c h.length,H)/\Wd b h.length H/\H.length=h.length+wdZ b/\∀ i,i < h.length->H[i]?=h[i]?:=by
 obtain ⟨H,e,w⟩:=bM3 (d+11) hb h;refine ⟨H,?_,bZ2 w,by have:=w.ln;unfold wdZ;omega,w.sm⟩;have e1:=aX4 d h hb;have e2:xMk 280 (callI T (d+13) (Str.ofString "Ways")) [.d b.dat] h=some (.c h.length,H):=by
  unfold xMk;rw [show d+13=d+11+2 from rfl,e];rfl
 simp [wB,e1,e2]
def aC6 (d:Nat) {b:Pb} {j:Nat} {H:aA} {w1:W} {pl:List Nat} (w:Wd b j H) (hin:Inn H w1 pl):callM T (d+1) "missing" [.c j,w1] H=some (.d (.list ((aO9 b pl).map nI)),H):=by
 obtain ⟨a0,a1,a2,ho,_⟩:=w.ex;obtain ⟨f1,f2,f3,f4,f5,f6⟩:=uN;have lM:(F6 b a0 a1 a2).lookup (Str.ofString "musts")=some (.d (.list ((mus b.its).map nI))):=by simp [F6,List.lookup]
 rw [wC];simp [ho,f3,lM,aJ];rw [eX (fun z=>match z with | .int k=>!decide (k.toNat∈pl) | _=>false) id (fun δ=>∃ u,δ=[u,some w1]) _ _ _ ⟨_,rfl⟩ (fun z hz δ ⟨u,e⟩=>by
  subst e;obtain ⟨k,hk,rfl⟩:=List.mem_map.mp hz;refine ⟨[some (.d (nI k)),some w1],rfl,⟨_,rfl⟩,?_,fun _=>by simp⟩;simp [nI,hin k])]
 simp;rw [List.filter_map];rfl
def dcB (g:List (Nat×Bool)):Cell:=.k (g.map (cV .bool))
def bB3 {H:aA} {i:Nat} {g:List (Nat×Bool)} {pl:List Nat} (e:H[i]?=some (dcB g)) (hk:∀ y,y∈g.map (·.1) ↔ y∈pl):Inn H (.c i) pl:=fun y=>by
 have:((g.map (cV PyData.bool)).any fun p=>decide (cC p.1=some (.inl (y:Int))))=decide (y∈pl):=by
  rw [Bool.eq_iff_iff,List.any_eq_true,decide_eq_true_eq,<- hk];constructor
  ·rintro ⟨p,hp,h⟩;obtain ⟨q,hq,rfl⟩:=List.mem_map.mp hp;have:=of_decide_eq_true h;rw [<- fM,oO] at this;exact List.mem_map.mpr ⟨q,hq,this⟩
  ·intro h;obtain ⟨q,hq,e⟩:=List.mem_map.mp h;refine ⟨_,List.mem_map.mpr ⟨q,hq,rfl⟩,decide_eq_true ?_⟩;rw [<- fM,oO];exact e
 unfold xIn;simp [ref,e,dcB,fM]
 simpa using this
def aY0 (g:List (Nat×Bool)) (k:Nat) (v:Bool) (y:Nat):y∈(putN g k v).map (·.1) ↔ y∈g.map (·.1)\/y=k:=by
 unfold putN;split
 ·rename_i h;have e:(g.map fun p=>if p.1=k then (p.1,v) else p).map (·.1)=g.map (·.1):=by
   rw [List.map_map];refine List.map_congr_left fun p _=>?_;simp only [Function.comp];split<;>rfl
  rw [e];constructor
  ·exact .inl
  ·rintro (h1 | rfl)
   ·exact h1
   ·obtain ⟨p,hp,e⟩:=List.any_eq_true.mp h;exact List.mem_map.mpr ⟨p,hp,by simpa using e⟩
 ·rw [List.map_append,List.mem_append];simp
theorem bools_map {α:Type} (p:α->Bool):∀ xs:List α,eT (xs.map fun z=>PyData.bool (p z))=some (xs.map p)
 | []=>rfl
 | x::r=>by
  rw [List.map_cons,eT,bools_map p r];rfl
def aP0 (z:PyData) (xs:List PyData):Prop:=z=.list xs\/z=.tuple xs
def yL (d:Nat) (h:aA) {z:PyData} {xs:List PyData} (hz:aP0 z xs) (n:Int):aE T (d+3) "are_numbers" [.d z,.d (.int n)] h=some (.bool (xs.all fun z=>bR z 0 (n - 1)),h):=by
 rcases hz with rfl | rfl <;>
 ·simp [iU,aJ];rw [bL (fun z=>.bool (bR z 0 (n - 1))) 0 (fun _ _ _=>rfl) _ _ _ (fun z _ u=>by simp)];simp [bools_map]
end K24

namespace K24
open PySem PySem.Spec PyProof.Rows L2 DL CI SJ
def okL (n:Nat) (l:List Nat):Prop:=∀ x∈l,x < n
def cA0 (b:Pb):List Nat->List Int->Option (List Int)
 | [],st=>some st
 | x::r,st=>(bhO st (b.its.getD x dfI)).bind (cA0 b r)
noncomputable def ix (l:List Nat) (x:Nat):Nat:=l.findIdx fun y=>decide (y=x)
end K24

namespace K24
open PySem PySem.Spec PyProof.Rows L2 DL CI SJ
structure OL (b:Pb) (l:List Nat):Prop where
 ok:okL b.its.length l
 nd:l.Nodup
 an:(cA0 b l b.st).isSome=true
theorem aP1 {n:Nat}:∀ {l:List Nat},l.Nodup->okL n l->l.length<=n:=by
 induction n with
 | zero =>
  intro l _ h;cases l with
  | nil=>exact Nat.le_refl 0
  | cons a r=>exact absurd (h a List.mem_cons_self) (by omega)
 | succ n ih =>
  intro l hn h;have h1:=ih (hn.erase n) (fun x hx=>by
   have h2:=h x (List.mem_of_mem_erase hx);have h3:x≠n:=fun e=>by
    rw [e] at hx;exact (List.Nodup.not_mem_erase hn) hx
   omega)
  have h4:l.length<=(l.erase n).length+1:=by
   rw [List.length_erase];split<;>omega
  omega
end K24

namespace K24
open PySem PySem.Spec PyProof.Rows L2 DL CI SJ
def yM {b:Pb} {x:Nat} (hx:x < b.its.length):b.its[x]?=some (b.its.getD x dfI):=by rw [List.getD_eq_getElem?_getD,List.getElem?_eq_getElem hx];rfl
def iS (l:List Nat):List Nat:=(ST.srt (l.map Int.ofNat)).map Int.toNat
def uO (l:List Nat):(iS l).map Int.ofNat=ST.srt (l.map Int.ofNat):=by
 unfold iS;rw [List.map_map];refine (List.map_congr_left fun x hx=>?_).trans (List.map_id _);obtain ⟨k,_,rfl⟩:=List.mem_map.mp ((ST.srt_perm _).mem_iff.mp hx);rfl
def qN (l:List Nat):(iS l).Perm l:=by
 have h:=(ST.srt_perm (l.map Int.ofNat)).map Int.toNat;rw [List.map_map] at h;refine h.trans (.of_eq ?_);exact (List.map_congr_left fun x _=>rfl).trans (List.map_id _)
def mem_srtN {l:List Nat} {x:Nat}:x∈iS l ↔ x∈l:=(qN l).mem_iff
abbrev aU:=List Nat×List Int
def dG (b:Pb) (pl:List Nat):List Nat:=(List.range b.its.length).filter (lQ b pl)
def gU (b:Pb) (v:aU) (x:Nat):Option (Nat×aU):=(bhO v.2 (b.its.getD x dfI)).map fun st=>(x,(iS (v.1++[x]),st))
def beh (b:Pb) (v:aU):List (Nat×aU):=(dG b v.1).filterMap (gU b v)
def mJ (b:Pb) (v:aU):Bool:=decide (aO9 b v.1=[])
def yN (b:Pb) (v:aU):(beh b v).length<=b.its.length:=by
 unfold beh;refine Nat.le_trans (List.length_filterMap_le _ _) ?_;unfold dG;refine Nat.le_trans (List.length_filter_le _ _) ?_;rw [List.length_range];exact Nat.le_refl _
def cA1 (l:List Nat) (h:aA):xEq (.d (.list (l.map nI))) (.d (.list [])) h=some (decide (l=[])):=by
 cases l with
 | nil=>simp [xEq,ref,PyData.eqv,PyData.eqvAll]
 | cons a r =>
  have:=yD (a::r) 63;simp [xEq,ref,PyData.eqv,PyData.eqvAll,nI] at this ⊢;exact this
def pMs (b:Pb) (l:List Nat):PyData->Bool
 | .int k=>gD b.its k.toNat&&!decide (k.toNat∈l)
 | _=>false
end K24

namespace K24
open PySem PySem.Spec PyProof.Rows L2 DL CI SJ
def mkd (pl:List Nat) (g:List (Nat×Bool)):List (Nat×Bool):=pl.foldl (fun g k=>putN g k true) g
theorem sV (y:Nat):∀ (pl:List Nat) (g:List (Nat×Bool)),y∈(mkd pl g).map (·.1) ↔ y∈g.map (·.1)\/y∈pl
 | [],g=>by simp [mkd]
 | k::r,g=>by
  have:=sV y r (putN g k true);rw [aY0] at this;simp only [mkd,List.foldl_cons,List.mem_cons] at this ⊢;rw [this,or_assoc]
theorem yO:∀ (pl:List Nat) (g:List (Nat×Bool)),(pl.map fun (k:Nat)=>(PyData.int k,PyData.bool true)).foldl (fun a p=>mL a p.1 p.2) (g.map (cV .bool))=(mkd pl g).map (cV .bool)
 | [],g=>rfl
 | k::r,g=>by
  rw [List.map_cons,List.foldl_cons,aO4,yO r];rfl
theorem yP:∀ pl:List Nat,hZ (pl.map fun (k:Nat)=>.tuple [.int k,.bool true])=some (pl.map fun (k:Nat)=>(.int k,.bool true))
 | []=>rfl
 | k::r=>by
  rw [List.map_cons];show Option.map _ (hZ _)=_;rw [yP r];rfl
def bB4 (H L:aA) (pl:List Nat):Inn (H++dcB (mkd pl [])::L) (.c H.length) pl:=bB3 (g:=mkd pl []) (by simp) fun y=>by simpa using sV y pl []
def oQ (d:Nat) (h:aA) {pl:List Nat} (hl:pl.length<=1000):callW T (d+1) "marked" [.d (.tuple (pl.map nI))] h=some (.c h.length,h++[dcB (mkd pl [])]):=by
 have e1:hZ ((pl.map nI).map fun z=>PyData.tuple [z,.bool true])=some (pl.map fun (k:Nat)=>(.int k,.bool true)):=by
  rw [List.map_map];exact yP pl
 have e2:jN [.d (.list ((pl.map nI).map fun z=>PyData.tuple [z,.bool true]))] h=some (.c h.length,h++[dcB (mkd pl [])]):=by
  unfold jN;simp only [ref];rw [if_pos (by simp;exact hl),e1];show some (W.c h.length,h++[Cell.k (qV (pl.map fun (k:Nat)=>(.int k,.bool true)))])=_;unfold qV;rw [show dcB (mkd pl [])=Cell.k ((mkd pl []).map (cV .bool)) from rfl,<- yO pl []];rfl
 have e3:∀ (g:XG) (all:List PyData) (te:XR W),(∀ w δ h,g w δ h=some (δ.set 0 (some w),h))->(∀ x∈pl.map nI,∀ u,te (([none]:DSt).set 0 u |>.set 0 (some (.d x))) h=some (.d (.tuple [x,.bool true]),h))->aQ g (aD true) te none all (pl.map nI) [none] h []=some ((pl.map nI).map fun z=>.tuple [z,.bool true],h):=fun g all te hg ht=>by
  rw [bL (fun z=>.tuple [z,.bool true]) 0 hg _ _ _ ht];rfl
 rw [qE];simp [aJ];rw [e3 _ _ _ (fun _ _ _=>rfl) (fun x _ u=>by simp [szl])];simp only [bds,bs,e2];simp [fR]
def pFl (b:Pb) (pl:List Nat):PyData->Bool
 | .int k=>lQ b pl k.toNat
 | _=>false
def bB5 (d:Nat) {b:Pb} (hil:b.its.length<=120) {j:Nat} {H:aA} {w1:W} {pl:List Nat} (w:Wd b j H) (hin:Inn H w1 pl):callM T (d+2) "followers" [.c j,w1] H=some (.d (.list ((dG b pl).map nI)),H):=by
 obtain ⟨f1,f2,f3,f4,f5,f6⟩:=uN;obtain ⟨a0,a1,a2,ho,_⟩:=w.ex;have en:fN 0 (b.its.length:Int)=true:=bO (by omega) (by omega);have lI:(F6 b a0 a1 a2).lookup (Str.ofString "listed")=some (.d (.tuple (b.its.map It.dat))):=by simp [F6,List.lookup]
 have l1:(F6 b a0 a1 a2).lookup (Str.ofString "may_follow")=none:=by simp [F6,List.lookup]
 rw [show d+2=(d+1)+1 from rfl,sG];simp [aJ,ho,f2,lI,en];rw [eX (pFl b pl) id (fun δ=>∃ a,δ=[a,some w1,some (.c j)]) _ _ _ ⟨_,rfl⟩ (fun z hz δ ⟨a,e⟩=>by
  subst e;rw [gT] at hz;obtain ⟨k,hk,rfl⟩:=List.mem_map.mp hz;have hk:=List.mem_range.mp hk;have q:=cO5 d w hk hin;exact ⟨[some (.d (nI k)),_,_],rfl,⟨_,rfl⟩,by simp [nI,pFl,ho,l1,q],fun _=>by simp⟩)]
 rw [List.nil_append,sQ (pFl b pl) (lQ b pl) b.its.length (fun k _=>by simp [pFl,nI])];simp [dG]
def ndD (v:aU):PyData:=.tuple [.tuple (v.1.map nI),.tuple (v.2.map .int)]
def prD (q:Nat×aU):PyData:=.tuple [.int q.1,ndD q.2]
def aY1 (d:Nat) {b:Pb} {j:Nat} {H:aA} (w:Wd b j H):aE T (d+1) "first_node" [.c j] H=some (ndD ([],b.st),H):=by
 obtain ⟨f1,f2,f3,f4,f5,f6⟩:=uN;obtain ⟨a0,a1,a2,ho,_⟩:=w.ex;have lI:(F6 b a0 a1 a2).lookup (Str.ofString "first")=some (.d (.tuple (b.st.map .int))):=by simp [F6,List.lookup]
 rw [rX];simp [ho,f1,lI,szl,ndD]
def bN2 (d:Nat) {b:Pb} {j:Nat} {H:aA} (w:Wd b j H) {v:aU} (hl:v.1.length<=1000):aE T (d+2) "is_last" [.c j,.d (ndD v)] H=some (.bool (mJ b v),H):=by
 obtain ⟨f1,f2,f3,f4,f5,f6⟩:=uN;obtain ⟨a0,a1,a2,ho,_⟩:=w.ex;have l1:(F6 b a0 a1 a2).lookup (Str.ofString "missing")=none:=by simp [F6,List.lookup]
 have e1:=oQ d H hl;have gr:Wd b j (H++[dcB (mkd v.1 [])]):=w.grow fun i c _ _ e=>by
  rw [List.getElem?_append_left (List.getElem?_eq_some_iff.mp e).1];exact e
 have e2:=aC6 d gr (bB4 H [] v.1);rw [show d+2=(d+1)+1 from rfl,aB2];simp [ndD,ho,l1,e1,e2,mJ]
theorem yQ:∀ l:List Nat,dQ (l.map nI)=some (l.map Int.ofNat)
 | []=>rfl
 | k::r=>by rw [List.map_cons,nI,dQ,yQ r];rfl
def bN3 (l:List Nat):(ST.srt (l.map Int.ofNat)).map PyData.int=(iS l).map nI:=by
 rw [<- uO,List.map_map];rfl
def bB6 {l:List Nat} (h:l.length < 64) (H:aA):qW [.d (.tuple (l.map nI))] H=some ((iS l).map nI,H):=by
 unfold qW;simp only [ref,yQ,bs];rw [if_pos (by simpa using h),bN3]
structure NOk (b:Pb) (v:aU):Prop where
 l:v.1.length<=60
 s:v.2.length=8
def aY2 (d:Nat) {b:Pb} (hb:b.ok) {j:Nat} {H:aA} (w:Wd b j H) (hj:j < H.length) {v:aU} (hv:NOk b v):aE T (d+7) "nodes_behind" [.c j,.d (ndD v)] H=some (.list ((beh b v).map prD),H):=by
 obtain ⟨a0,a1,a2,ho,_⟩:=w.ex;have gr:∀ L,Wd b j (H++L):=fun L=>w.grow fun i c _ _ e=>by
  rw [List.getElem?_append_left (List.getElem?_eq_some_iff.mp e).1];exact e
 have ho':∀ L,(H++L)[j]?=some (.o 280 (F6 b a0 a1 a2)):=fun L=>by rw [List.getElem?_append_left hj];exact ho
 have l1:(F6 b a0 a1 a2).lookup (Str.ofString "followers")=none:=by simp [F6,List.lookup]
 have l2:(F6 b a0 a1 a2).lookup (Str.ofString "stand_behind")=none:=by simp [F6,List.lookup]
 have lI:(F6 b a0 a1 a2).lookup (Str.ofString "listed")=some (.d (.tuple (b.its.map It.dat))):=by simp [F6,List.lookup]
 have e1:=oQ (d+5) (H++[.l []]) (pl:=v.1) (by have:=hv.l;omega);obtain ⟨MK,hM⟩:∃ c,c=dcB (mkd v.1 []):=⟨_,rfl⟩;rw [<- hM] at e1;have e2:=bB5 (d+4) hb.il (gr [.l [],MK]) (w1:=.c (H.length+1)) (pl:=v.1) (bB3 (g:=mkd v.1 []) (by simp [hM]) fun y=>by simpa using sV y v.1 []);rw [show d+7=(d+6)+1 from rfl,nZ];simp [bB,szl,ho',l1,ndD,e1,e2,aZ];generalize hr:aW _ _ _ _ _ _ _=r;have kk:∃ δ' h',r=some (.nx δ',h')/\∃ (x3 x4:Option W),δ'=[some (.c j),some (.d (ndD v)),some (.c H.length),x3,x4]/\h'=H++[.l ((beh b v).map prD),MK]:=by
  rw [<- hr];clear hr;refine cF (fun m δ' h'=>∃ (x3 x4:Option W),δ'=[some (.c j),some (.d (ndD v)),some (.c H.length),x3,x4]/\h'=H++[.l ((((dG b v.1).take m).filterMap (gU b v)).map prD),MK]) ⟨none,none,by simp [ndD],by simp⟩ (fun δ h'=>?_) ?_
  ·rintro ⟨x3,x4,rfl,rfl⟩;rw [List.length_map,List.take_length];exact ⟨_,_,rfl,rfl⟩
  ·rintro m hm δ h' ⟨x3,x4,rfl,rfl⟩;have hm':m < (dG b v.1).length:=by simpa using hm
   obtain ⟨x,ex⟩:∃ x,(dG b v.1)[m]=x:=⟨_,rfl⟩;have exx:((dG b v.1).map nI)[m]=nI x:=by rw [List.getElem_map,ex]
   rw [exx];have hx:x < b.its.length:=by
    have:=List.getElem_mem hm';rw [ex] at this;exact List.mem_range.mp (List.mem_filter.mp this).1
   have ta:(dG b v.1).take (m+1)=(dG b v.1).take m++[x]:=by rw [List.take_succ_eq_append_getElem hm',ex]
   rw [ta,List.filterMap_append];have fl:(dG b v.1).length<=b.its.length:=by
    unfold dG;exact Nat.le_trans (List.length_filter_le _ _) (by simp)
   have al:(((dG b v.1).take m).filterMap (gU b v)).length < 16777216:=by
    have h1:=List.length_filterMap_le (gU b v) ((dG b v.1).take m);rw [List.length_take] at h1;have:=hb.il;omega
   generalize ((dG b v.1).take m).filterMap (gU b v)=acc at al;refine ⟨[some (.c j),some (.d (ndD v)),some (.c H.length),some (.d (nI x)),x4],H++[.l (acc.map prD),MK],rfl,?_⟩;have ey:b.its[x]?=some (b.its.getD x dfI):=yM hx;have hy:(b.its.getD x dfI).ok:=hb.its _ (by rw [List.getD_eq_getElem?_getD,List.getElem?_eq_getElem hx];exact List.getElem_mem hx);have sb:=bY9 d (H++[.l (acc.map prD),MK]) ey hy hv.s (ho' _) lI;have gp:(H++[Cell.l (acc.map prD),MK])[H.length]?=some (.l (acc.map prD)):=by simp
   cases q:bhO v.2 (b.its.getD x dfI) with
   | none =>
    rw [bZ9 q] at sb;refine ⟨[some (.c j),some (.d (ndD v)),some (.c H.length),some (.d (nI x)),some (.d .none)],H++[.l (acc.map prD),MK],?_,_,_,rfl,?_⟩
    ·simp [ndD,nI,ho',l2,sb]
    ·have eb:gU b v x=none:=by unfold gU;rw [q];rfl
     simp [eb]
   | some st =>
    rw [bZ8 q] at sb;have xs:=bB6 (l:=v.1++[x]) (by have:=hv.l;simp;omega) (H++[.l (acc.map prD),MK]);rw [List.map_append] at xs;have xs:qW [.d (.tuple (v.1.map nI++[.int x]))] (H++[.l (acc.map prD),MK])=some ((iS (v.1++[x])).map nI,H++[.l (acc.map prD),MK]):=xs;refine ⟨[some (.c j),some (.d (ndD v)),some (.c H.length),some (.d (nI x)),some (.d (.tuple (st.map .int)))],H++[.l ((acc++[(x,(iS (v.1++[x]),st))]).map prD),MK],?_,_,_,rfl,?_⟩
    ·have al':(acc.map prD).length < 16777216:=by simpa using al
     have xa:∀ H',dA .Add (.d (.tuple (v.1.map nI))) (.d (.tuple [.int x])) H'=some (.d (.tuple (v.1.map nI++[.int x])),H'):=fun H'=>by
      have:=hv.l;have hz:v.1.length+1<=16777216:=by omega
      show (if _<=_ then _ else _)=_;rw [if_pos (by rw [szl];simpa using hz)]
     simp [ndD,nI,ho',l2,sb,xs,szl,prD,aJ,gJ,al,xa]
    ·have eb:gU b v x=some (x,(iS (v.1++[x]),st)):=by unfold gU;rw [q];rfl
     simp [eb]
 obtain ⟨δ',h',rfl,x3,x4,rfl,rfl⟩:=kk;simp [aR]
end K24

namespace K24
open PySem PySem.Spec PyProof.Rows L2 DL CI SJ
theorem aP2:∀ {a b:List Nat},a.map nI=b.map nI->a=b
 | [],[],_=>rfl
 | [],_::_,h=>by simp at h
 | _::_,[],h=>by simp at h
 | x::a,y::b,h=>by
  simp only [List.map_cons,List.cons.injEq] at h;have h1:((x:Int))=y:=PyData.int.inj h.1;rw [aP2 h.2]
  congr 1
  omega
theorem yR:∀ {a b:List Int},a.map PyData.int=b.map PyData.int->a=b
 | [],[],_=>rfl
 | [],_::_,h=>by simp at h
 | _::_,[],h=>by simp at h
 | x::a,y::b,h=>by
  simp only [List.map_cons,List.cons.injEq] at h;rw [yR h.2,PyData.int.inj h.1]
def bN4 {u v:aU} (h:ndD u=ndD v):u=v:=by
 unfold ndD at h;have h:=PyData.tuple.inj h;simp only [List.cons.injEq,and_true] at h;exact Prod.ext (aP2 (PyData.tuple.inj h.1)) (yR (PyData.tuple.inj h.2))
theorem uP:∀ l:List Int,peqs (l.map PyData.int) (l.map PyData.int)=true
 | []=>rfl
 | i::l=>by show (peq (.int i) (.int i)&&peqs (l.map PyData.int) (l.map PyData.int))=true;rw [pqI,uP l];rfl
def wS (u v:aU):peq (ndD u) (ndD v)=decide (u=v):=by
 rw [Bool.eq_iff_iff,decide_eq_true_eq];constructor
 ·exact fun h=>bN4 (aG2 h)
 ·rintro rfl;show (peqs (u.1.map nI) (u.1.map nI)&&(peqs (u.2.map PyData.int) (u.2.map PyData.int)&&true))=true;rw [sO,uP];rfl
theorem aP3 (n:Nat):∀ l:List Nat,hksB n (l.map nI)=true
 | []=>by simp [hksB]
 | k::l=>by rw [List.map_cons,hksB,aP3 n l];simp [nI,hkB]
theorem yS (n:Nat):∀ l:List Int,hksB n (l.map PyData.int)=true
 | []=>by simp [hksB]
 | k::l=>by rw [List.map_cons,hksB,yS n l];simp [hkB]
def aP4 (v:aU):(fY (ndD v)&&hkB 4 (ndD v))=true:=by
 unfold ndD;simp [fY,hkB,hksB,aP3,yS]
def seD (v:aU):PyData×PyData:=(ndD v,.bool true)
def wT (sn:List aU) (v:aU):((sn.map seD).any fun p=>peq p.1 (ndD v))=decide (v∈sn):=by
 rw [Bool.eq_iff_iff,List.any_eq_true,decide_eq_true_eq];constructor
 ·rintro ⟨p,hp,h⟩;obtain ⟨u,hu,rfl⟩:=List.mem_map.mp hp;have h:peq (ndD u) (ndD v)=true:=h;rw [wS,decide_eq_true_eq] at h;rw [<- h];exact hu
 ·intro h;exact ⟨_,List.mem_map.mpr ⟨v,h,rfl⟩,by show peq (ndD v) (ndD v)=true;rw [wS];simp⟩
structure NV (b:Pb) (v:aU):Prop where
 up:v.1.Pairwise (· < ·)
 lt:∀ x∈v.1,x < b.its.length
 s:v.2.length=8
theorem yT:∀ {l:List Nat},l.Pairwise (· < ·)->l.Nodup
 | [],_=>List.nodup_nil
 | a::l,h=>by
  rw [List.pairwise_cons] at h;exact List.nodup_cons.mpr ⟨fun z=>Nat.lt_irrefl _ (h.1 a z),yT h.2⟩
def NV.ok {b:Pb} (hb:b.ok) (h6:b.its.length<=6) {v:aU} (h:NV b v):NOk b v:=⟨by
 have:=aP1 (yT h.up) h.lt;omega,h.s⟩
def aY3 {l:List Nat} (nd:l.Nodup):(iS l).Pairwise (· < ·):=by
 have h1:((iS l).map Int.ofNat).Pairwise (·<=·):=by rw [uO];exact ST.srt_le _
 have h2:(iS l).Nodup:=(qN l).nodup_iff.mpr nd;rw [List.pairwise_map] at h1;refine (h1.and h2).imp fun {a c} h=>?_;have:=h.1;have hn:a≠c:=h.2;simp at this;omega
def NV.next {b:Pb} {v:aU} {q:Nat×aU} (h:NV b v) (hq:q∈beh b v) (hs:q.2.2.length=8):NV b q.2:=by
 unfold beh at hq;obtain ⟨x,hx,e⟩:=List.mem_filterMap.mp hq;unfold gU at e;obtain ⟨st,e3,rfl⟩:=Option.map_eq_some_iff.mp e;unfold dG at hx;rw [List.mem_filter,List.mem_range] at hx;have hn:¬ x∈v.1:=fun z=>by
  have hm:=hx.2;unfold lQ at hm;simp [z] at hm
 refine ⟨aY3 ?_,fun y hy=>?_,hs⟩
 ·rw [List.nodup_append];exact ⟨yT h.up,by simp,fun a ha c hc e=>hn (by rw [<- List.mem_singleton.mp hc,<- e];exact ha)⟩
 ·rcases List.mem_append.mp (mem_srtN.mp hy) with z | z
  ·exact h.lt y z
  ·rw [List.mem_singleton.mp z];exact hx.1
def aY4:∀ {l:List Nat},l.Pairwise (· < ·)->rT (l.map Int.ofNat)=true:=fun {l} h=>by
 unfold rT;rw [List.all_eq_true];intro k hk;have hk:=List.mem_range.mp hk;rw [List.length_map] at hk;have h1:k < l.length:=by omega
 have h2:k+1 < l.length:=by omega
 have:=List.pairwise_iff_getElem.mp h k (k+1) h1 h2 (by omega);simp [List.getD,h1,h2];omega
def oR (d:Nat) (H:aA) {b:Pb} (hl:b.its.length<=120) {v:aU} (hv:NV b v):aE T (d+4) "is_node" [.d (ndD v),.d (.int b.its.length)] H=some (.bool true,H):=by
 have e0:v.1.map nI=(v.1.map Int.ofNat).map PyData.int:=by rw [List.map_map];rfl
 have e1:aE T (d+3) (Str.ofString "are_numbers") [.d (.tuple (v.1.map nI)),.d (.int b.its.length)] H=some (.bool true,H):=by
  rw [e0];exact qL d H fun x hx=>by
   obtain ⟨k,hk,rfl⟩:=List.mem_map.mp hx;have:=hv.lt k hk;simp;omega
 have nl:=aP1 (yT hv.up) hv.lt;have e2:aE T (d+3) (Str.ofString "are_rising") [.d (.tuple (v.1.map nI))] H=some (.bool true,H):=by
  rw [e0,wD (d+2) H (by rw [List.length_map];omega) (fun _=>by simp) fun _ _=>rfl,aY4 hv.up]
 have e3:aE T (d+3) (Str.ofString "is_stand") [.d (.tuple (v.2.map .int))] H=some (.bool true,H):=cO d H hv.s;rw [show d+4=(d+3)+1 from rfl,gH];simp [ndD,bU,bP,isi,dU,e1,e2,e3]
def aY5 (dn:List aU) (v:aU):DL.putN (dn.map seD) (ndD v) (.bool true)=(if v∈dn then dn else dn++[v]).map seD:=by
 unfold DL.putN;rw [wT]
 by_cases h:v∈dn
 ·rw [if_pos (by simpa using h),if_pos h,List.map_map];refine List.map_congr_left fun u _=>?_;show (if CI.peq (seD u).1 (ndD v)=true then ((seD u).1,PyData.bool true) else seD u)=seD u;split<;>rfl
 ·rw [if_neg (by simpa using h),if_neg h,List.map_append];rfl
theorem qO:∀ (ns dn:List aU),∃ en:List aU,(ns.map seD).foldl (fun a p=>DL.putN a p.1 p.2) (dn.map seD)=en.map seD/\∀ v,v∈en ↔ v∈dn\/v∈ns
 | [],dn=>⟨dn,rfl,by simp⟩
 | u::ns,dn=>by
  obtain ⟨en,e,h⟩:=qO ns (if u∈dn then dn else dn++[u]);refine ⟨en,?_,fun v=>?_⟩
  ·rw [List.map_cons,List.foldl_cons,<- e]
   congr 1
   exact aY5 dn u
  ·rw [h v]
   by_cases hu:u∈dn
   ·rw [if_pos hu,List.mem_cons];constructor
    ·rintro (z | z)
     ·exact .inl z
     ·exact .inr (.inr z)
    ·rintro (z | z | z)
     ·exact .inl z
     ·rw [z];exact .inl hu
     ·exact .inr z
   ·rw [if_neg hu];simp [or_assoc]
theorem qP:∀ ns:List aU,jB (ns.map fun v=>PyData.tuple [ndD v,.bool true])=some (ns.map seD)
 | []=>rfl
 | v::r=>by
  have h:=aP4 v;rw [Bool.and_eq_true] at h;rw [List.map_cons,List.map_cons];show (if hkB 4 (ndD v)=true then (jB (r.map fun v=>PyData.tuple [ndD v,.bool true])).map ((ndD v,PyData.bool true)::·) else none)=_;rw [if_pos h.2,qP r];rfl
def NC (C:Cell) (ns:List aU):Prop:=∀ (h L:aA) (v:aU),xIn (.d (ndD v)) (.c h.length) (h++C::L)=some (decide (v∈ns))
def aC7 (d:Nat) (h:aA) {ns:List aU} (hl:ns.length<=1000) {w1:W} (hw:w1=.d (.list (ns.map ndD))\/w1=.d (.tuple (ns.map ndD))):∃ C,NC C ns/\callW T (d+1) "marked" [w1] h=some (.c h.length,h++[C]):=by
 have e3:∀ (g:XG) (all:List PyData) (te:XR W),(∀ w δ h,g w δ h=some (δ.set 0 (some w),h))->(∀ x∈ns.map ndD,∀ u,te (([none]:DSt).set 0 u |>.set 0 (some (.d x))) h=some (.d (.tuple [x,.bool true]),h))->aQ g (aD true) te none all (ns.map ndD) [none] h []=some (ns.map fun v=>.tuple [ndD v,.bool true],h):=fun g all te hg ht=>by
  rw [bL (fun z=>.tuple [z,.bool true]) 0 hg _ _ _ ht,List.map_map];rfl
 obtain ⟨C,hC,e2⟩:∃ C,NC C ns/\jN [.d (.list (ns.map fun v=>PyData.tuple [ndD v,.bool true]))] h=some (.c h.length,h++[C]):=by
  cases ns with
  | nil =>
   refine ⟨.k [],fun h L v=>?_,rfl⟩;have e:=aP4 v;have ek:cC (ndD v)=none:=rfl;unfold xIn;simp [ref,ek,e]
  | cons u r =>
   obtain ⟨en,e,hm⟩:=qO (u::r) [];refine ⟨.n (en.map seD),fun h L v=>?_,?_⟩
   ·have:=aP4 v;have g:(h++Cell.n (en.map seD)::L)[h.length]?=some (.n (en.map seD)):=by simp
    simp only [xIn,ref,g,bD1,tC,bs];rw [if_pos this,wT];simp [hm v]
   ·unfold jN;simp only [ref];rw [if_pos (by rw [List.length_map];exact hl),show hZ ((u::r).map fun v=>PyData.tuple [ndD v,.bool true])=none from rfl,qP];show some (W.c h.length,h++[Cell.n (iB ((u::r).map seD))])=_;unfold iB;rw [<- e];rfl
 refine ⟨C,hC,?_⟩;rw [qE];have hE:∀ δ:DSt,δ[0]?=some (some w1)->aZ (aB 0) δ h=some ((ns.map ndD,none),h):=fun δ e=>by rcases hw with rfl | rfl<;>simp [e]
 clear hw;simp [aJ,hE,-aK8];rw [e3 _ _ _ (fun _ _ _=>rfl) (fun x _ u=>by simp [szl])];simp only [bds,bs,e2];simp [fR]
noncomputable def nd0 (ns:List aU) (k:Nat):aU:=ns.getD k ([],[])
def aY6 (ns:List aU):bF (ns.map ndD)=(List.range' 0 ns.length).map fun k=>.tuple [.int k,ndD (nd0 ns k)]:=by
 unfold bF;rw [kO,List.length_map,List.range_eq_range'];refine List.map_congr_left fun k hk=>?_;have hk:k < ns.length:=by simpa using hk
 simp [nd0,List.getD,hk]
def sX {ns:List aU} {k:Nat} (h:k < ns.length):nd0 ns k∈ns:=by
 unfold nd0;rw [List.getD_eq_getElem?_getD,List.getElem?_eq_getElem h];exact List.getElem_mem h
end K24

namespace K24
open PySem PySem.Spec PyProof.Rows L2 DL CI SJ
theorem mV {g:XG} {tb:XS} {c:Cw} {all:List PyData} {h:aA} (hc:CI.condB c all h=true) {F:Nat->PyData} {n:Nat} (R:Nat->Option PyData) (I:DSt->Prop)
  (ht:∀ k,k < n->∀ δ,I δ->∃ δ1,g (.d (F k)) δ h=some (δ1,h)/\((∃ z,R k=some z/\tb δ1 h=some (.rt (.d z),h))\/(R k=none/\∃ δ2,tb δ1 h=some (.nx δ2,h)/\I δ2))) :
  ∀ (m k:Nat) (δ:DSt),k+m=n->I δ->(∃ z,(List.range' k m).findSome? R=some z/\aW g tb c all ((List.range' k m).map F) δ h=some (.rt (.d z),h))\/((List.range' k m).findSome? R=none/\∃ δ2,aW g tb c all ((List.range' k m).map F) δ h=some (.nx δ2,h)/\I δ2)
 | 0,k,δ,e,r=>.inr ⟨rfl,δ,by simp [aW,hc],r⟩
 | m+1,k,δ,e,r=>by
  obtain ⟨δ1,e1,q⟩:=ht k (by omega) δ r;rw [List.range'_succ,List.map_cons,aW,if_pos hc,e1,List.findSome?_cons];rcases q with ⟨z,h1,e3⟩ | ⟨h1,δ2,e3,r2⟩
  ·exact .inl ⟨z,by rw [h1],by simp only [bs,e3]⟩
  ·have ih:=mV (all:=all) hc R I ht m (k+1) δ2 (by omega) r2;simp only [bs,e3,h1];exact ih
def bN5 (zs:List PyData):bF zs=(List.range' 0 zs.length).map fun (k:Nat)=>.tuple [.int k,zs.getD k .none]:=by
 unfold bF;rw [kO,List.range_eq_range'];refine List.map_congr_left fun k hk=>?_;have hk:k < zs.length:=by simpa using hk
 simp [List.getD,hk]
def pMn (ns:List aU):PyData->Bool
 | .tuple [_,a]=>!((ns.map seD).any fun p=>peq p.1 a)
 | _=>false
def aP5 (ns:List aU) (q:Nat×aU):pMn ns (prD q)=!decide (q.2∈ns):=by
 rw [<- wT];rfl
def mD (b:Pb) (ns:List aU) (v:aU):List PyData:=(((beh b v).map prD).filter (pMn ns)).map aN8
def nxt (b:Pb) (ns:List aU) (v:aU):Option Nat:=((beh b v).find? fun q=>!decide (q.2∈ns)).map (·.1)
def cP2 (b:Pb) (ns:List aU) (v:aU):(mD b ns v).head?=(nxt b ns v).map fun (x:Nat)=>PyData.int x:=by
 unfold mD nxt;rw [List.head?_map,List.head?_filter,List.find?_map];have:(pMn ns ∘ prD)=fun q=>!decide (q.2∈ns):=funext fun q=>aP5 ns q;rw [this];cases List.find? (fun q=>!decide (q.2∈ns)) (beh b v)<;>rfl
noncomputable def qQ (k:Nat):PyData:=.tuple [.str (Str.ofString "last"),.int k]
def iW (k x:Nat):PyData:=.tuple [.str (Str.ofString "next"),.int k,.int x]
noncomputable def hO (k:Nat):PyData:=.tuple [.str (Str.ofString "form"),.int k]
def flt (b:Pb) (ns:List aU) (k:Nat):Option PyData:=if mJ b (nd0 ns k)=true then some (qQ k) else (nxt b ns (nd0 ns k)).map (iW k)
def cX (b:Pb) (ns:List aU):PyData:=if ([],b.st)∈ns then ((List.range' 0 ns.length).findSome? (flt b ns)).getD .none else .tuple [.str (Str.ofString "first")]
noncomputable def dN (j:Nat) (w:W) (x2 x3 x4 x5 x6:Option W):DSt:=[some (.c j),some w,x2,x3,x4,x5,x6]
open Classical in
def isN (n:Nat) (H:aA) (d:Nat) (z:PyData):Bool:=decide (aE T (d+7) "is_node" [.d z,.d (.int n)] H=some (.bool true,H))
def rF (n:Nat) (H:aA) (d:Nat) (zs:List PyData) (k:Nat):Option PyData:=if isN n H d (zs.getD k .none)=true then none else some (hO k)
def c_forms (d:Nat) {b:Pb} {j:Nat} {H:aA} (w:Wd b j H) {zs:List PyData} {w1:W} {c:Cw} (hc:CI.condB c (bF zs) H=true)
  (hz:∀ z∈zs,∃ bb,aE T (d+7) "is_node" [.d z,.d (.int b.its.length)] H=some (.bool bb,H)) :
  (∃ z,(List.range' 0 zs.length).findSome? (rF b.its.length H d zs)=some z/\aW (bK [YG 2,YG 3]) (cE (d+7)) c (bF zs) (bF zs) (dN j w1 none none none none none) H=some (.rt (.d z),H))\/((List.range' 0 zs.length).findSome? (rF b.its.length H d zs)=none/\∃ δ2,aW (bK [YG 2,YG 3]) (cE (d+7)) c (bF zs) (bF zs) (dN j w1 none none none none none) H=some (.nx δ2,H)/\∃ x2 x3,δ2=dN j w1 x2 x3 none none none):=by
 obtain ⟨f1,f2,f3,f4,f5,f6⟩:=uN;obtain ⟨a0,a1,a2,ho,_⟩:=w.ex;have lI:(F6 b a0 a1 a2).lookup (Str.ofString "listed")=some (.d (.tuple (b.its.map It.dat))):=by simp [F6,List.lookup]
 have k:=mV (g:=bK [YG 2,YG 3]) (tb:=cE (d+7)) (all:=bF zs) (h:=H) hc (F:=fun (k:Nat)=>.tuple [.int k,zs.getD k .none]) (n:=zs.length) (rF b.its.length H d zs) (fun δ=>∃ x2 x3,δ=dN j w1 x2 x3 none none none) (fun k hk δ ⟨x2,x3,e⟩=>by
  subst e;obtain ⟨bb,eb⟩:=hz (zs.getD k .none) (by rw [List.getD_eq_getElem?_getD,List.getElem?_eq_getElem hk];exact List.getElem_mem hk);refine ⟨dN j w1 (some (.d (.int k))) (some (.d (zs.getD k .none))) none none none,by simp [dN,bK,tG],?_⟩;unfold rF isN;generalize zs.getD k .none=z at eb ⊢;rw [eb];cases bb with
  | true=>exact .inr ⟨by simp,dN j w1 (some (.d (.int k))) (some (.d z)) none none none,by simp [dN,ho,f2,lI,eb],_,_,rfl⟩
  | false=>exact .inl ⟨hO k,by simp,by simp [dN,ho,f2,lI,eb,szl,hO]⟩) zs.length 0 (dN j w1 none none none none none) (Nat.zero_add _) ⟨none,none,rfl⟩
 rw [<- bN5 zs] at k;exact k
def bN6 (d:Nat) {b:Pb} {j:Nat} {H:aA} (w:Wd b j H) {zs:List PyData} {w1:W} {c:Cw} (hr:∃ z,ref H w1=some z/\(isi z "list"||isi z "tuple")=true) (hx:jK w1 H=some ((bF zs,c),H)) (hc:CI.condB c (bF zs) H=true)
  (hz:∀ z∈zs,∃ bb,aE T (d+7) "is_node" [.d z,.d (.int b.its.length)] H=some (.bool bb,H)) {k:Nat} (hk:(List.range' 0 zs.length).findSome? (rF b.its.length H d zs)=some (hO k)) :
  aE T (d+8) "nodes_fault" [.c j,w1] H=some (hO k,H):=by
 obtain ⟨z,r1,r2⟩:=hr;rw [show d+8=(d+7)+1 from rfl,gC];refine sq (.rt (.d (hO k)),H) ?_ (by simp [aR]);refine sy (dN j w1 none none none none none) H (by simp [r1,r2,dN]) ?_;rcases c_forms d w (w1:=w1) hc hz with ⟨z',e1,e2⟩ | ⟨e1,_⟩
 ·rw [hk] at e1;cases e1;refine sq (.rt (.d (hO k)),H) ?_ (by simp);refine sq ((bF zs,c),H) (by simp [dN,hx]) ?_;exact e2
 ·rw [hk] at e1;cases e1
def aY7 (d:Nat) {b:Pb} (hb:b.ok) (h6:b.its.length<=6) {j:Nat} {H:aA} (w:Wd b j H) (hj:j < H.length) {ns:List aU} (hv:∀ v∈ns,NV b v) (hl:ns.length<=1000) {w1:W} (hw:w1=.d (.list (ns.map ndD))\/w1=.d (.tuple (ns.map ndD))) :
  aE T (d+8) "nodes_fault" [.c j,w1] H=some (cX b ns,H):=by
 obtain ⟨f1,f2,f3,f4,f5,f6⟩:=uN;obtain ⟨a0,a1,a2,ho,_⟩:=w.ex;have gr:∀ L,Wd b j (H++L):=fun L=>w.grow fun i c _ _ e=>by
  rw [List.getElem?_append_left (List.getElem?_eq_some_iff.mp e).1];exact e
 have ei:∀ v∈ns,aE T (d+7) (Str.ofString "is_node") [.d (ndD v),.d (.int b.its.length)] H=some (.bool true,H):=fun v h=>oR (d+3) H hb.il (hv v h);obtain ⟨C,hC,eM⟩:=aC7 (d+6) H hl hw;have e1:=aY1 (d+6) (gr [C]);have i1:=hC H [] ([],b.st);have hx:jK w1 H=some ((bF (ns.map ndD),none),H):=by rcases hw with rfl | rfl<;>rfl
 have hxC:jK w1 (H++[C])=some ((bF (ns.map ndD),none),H++[C]):=by rcases hw with rfl | rfl<;>rfl
 have hr:∃ z,ref H w1=some z/\(isi z "list"||isi z "tuple")=true:=by rcases hw with rfl | rfl<;>exact ⟨_,rfl,rfl⟩
 obtain ⟨z,r1,r2⟩:=hr;have nf:(List.range' 0 (ns.map ndD).length).findSome? (rF b.its.length H d (ns.map ndD))=none:=by
  rw [List.findSome?_eq_none_iff];intro k hk;have hk:k < ns.length:=by simpa using hk
  have:=ei _ (List.getElem_mem hk);unfold rF isN;simp [List.getD,hk,this]
 rw [show d+8=(d+7)+1 from rfl,gC];refine sq (.rt (.d (cX b ns)),H++[C]) ?_ (by simp);refine sy (dN j w1 none none none none none) H (by simp [r1,r2,dN]) ?_;rcases c_forms d w (w1:=w1) (c:=none) rfl (zs:=ns.map ndD) (fun z hz=>by obtain ⟨v,hv',rfl⟩:=List.mem_map.mp hz;exact ⟨true,ei v hv'⟩) with ⟨z',e,_⟩ | ⟨_,δ2,e2,x2,x3,rfl⟩
 ·rw [nf] at e;cases e
 refine sy (dN j w1 x2 x3 none none none) H ?_ ?_
 ·refine sq ((bF (ns.map ndD),none),H) (by simp [dN,hx]) ?_;exact e2
 refine sy (dN j w1 x2 x3 (some (.c H.length)) none none) (H++[C]) (by simp [dN,eM]) ?_
 by_cases h0:([],b.st)∈ns
 rotate_left
 ·rw [decide_eq_false h0] at i1;refine sq (.rt (.d (cX b ns)),H++[C]) ?_ (by simp);simp [dN,e1,i1,xC1,szl,cX,h0]
 rw [decide_eq_true h0] at i1;refine sy (dN j w1 x2 x3 (some (.c H.length)) none none) (H++[C]) (by simp [dN,e1,i1,xC1]) ?_;have lp:=mV (g:=bK [YG 2,YG 5]) (tb:=fI (d+7)) (c:=none) (all:=bF (ns.map ndD)) (h:=H++[C]) rfl (F:=fun (k:Nat)=>.tuple [.int k,ndD (nd0 ns k)]) (n:=ns.length) (flt b ns) (fun δ=>∃ x2 x3 x5 x6,δ=dN j w1 x2 x3 (some (.c H.length)) x5 x6) (fun k hk δ ⟨x2,x3,x5,x6,e⟩=>by
  subst e;have nv:=hv _ (sX hk);have nk:=nv.ok hb h6;have la:=bN2 (d+5) (gr [C]) (v:=nd0 ns k) (by have:=nk.l;omega);have nb:=aY2 d hb (gr [C]) (by simp;omega) nk;have hm:=cP2 b ns (nd0 ns k);refine ⟨dN j w1 (some (.d (.int k))) x3 (some (.c H.length)) (some (.d (ndD (nd0 ns k)))) x6,by simp [dN,bK,tG],?_⟩;unfold flt;generalize ev:nd0 ns k=v at nv nk la nb hm;cases hla:mJ b v with
  | true =>
   rw [hla] at la;exact .inl ⟨qQ k,by simp,by simp [dN,la,szl,qQ]⟩
  | false =>
   rw [hla] at la;have cm:∀ (g:XG) (tt:XR Bool) (te:XR W) (all:List PyData),(∀ q∈beh b v,∀ a c,g (.d (prD q)) [a,c,some (.c H.length)] (H++[C])=some ([some (.d (.int q.1)),some (.d (ndD q.2)),some (.c H.length)],H++[C]))->(∀ q∈beh b v,tt [some (.d (.int q.1)),some (.d (ndD q.2)),some (.c H.length)] (H++[C])=some (!decide (q.2∈ns),H++[C]))->(∀ q∈beh b v,te [some (.d (.int q.1)),some (.d (ndD q.2)),some (.c H.length)] (H++[C])=some (.d (.int q.1),H++[C]))->aQ g tt te none all ((beh b v).map prD) [none,none,some (.c H.length)] (H++[C]) []=some (mD b ns v,H++[C]):=fun g tt te all hg htt hte=>by
    rw [eX (pMn ns) aN8 (fun δ=>∃ a c,δ=[a,c,some (.c H.length)]) _ _ _ ⟨_,_,rfl⟩ (fun z hz δ ⟨a,c,e⟩=>by
     subst e;obtain ⟨q,hq,rfl⟩:=List.mem_map.mp hz;rw [aP5];exact ⟨[some (.d (.int q.1)),some (.d (ndD q.2)),some (.c H.length)],hg q hq a c,⟨_,_,rfl⟩,htt q hq,fun _=>hte q hq⟩)]
    rfl
   have ct:∀ q:Nat×aU,xIn (.d (ndD q.2)) (.c H.length) (H++[C])=some (decide (q.2∈ns)):=fun q=>hC H [] q.2;cases hq:nxt b ns v with
   | none =>
    rw [hq] at hm;have hm:mD b ns v=[]:=by simpa using hm
    refine .inr ⟨by simp,dN j w1 (some (.d (.int k))) x3 (some (.c H.length)) (some (.d (ndD v))) (some (.d (.list []))),?_,_,_,_,_,rfl⟩;simp [dN,la,nb,aZ,aJ,szl];rw [cm _ _ _ _ (fun q _ a c=>by simp [prD,bK,tG]) (fun q _=>by simp [xC1,ct]) (fun q _=>by simp),hm];simp
   | some x =>
    rw [hq] at hm;obtain ⟨r,hm⟩:∃ r,mD b ns v=.int x::r:=by
     cases hmm:mD b ns v with
     | nil=>rw [hmm] at hm;cases hm
     | cons a r=>rw [hmm] at hm;cases hm;exact ⟨r,rfl⟩
    refine .inl ⟨iW k x,by simp,?_⟩;simp [dN,la,nb,aZ,aJ,szl];rw [cm _ _ _ _ (fun q _ a c=>by simp [prD,bK,tG]) (fun q _=>by simp [xC1,ct]) (fun q _=>by simp),hm];simp [iW]) ns.length 0 (dN j w1 x2 x3 (some (.c H.length)) none none) (Nat.zero_add _) ⟨_,_,_,_,rfl⟩
 rw [<- aY6 ns] at lp;rcases lp with ⟨z,e3,e4⟩ | ⟨e3,δ2,e4,x2,x3,x5,x6,rfl⟩
 ·refine sq (.rt (.d (cX b ns)),H++[C]) ?_ (by simp);refine sq ((bF (ns.map ndD),none),H++[C]) (by simp [dN,hxC]) ?_;have:cX b ns=z:=by unfold cX;rw [if_pos h0,e3];rfl
  rw [this];exact e4
 ·refine sy (dN j w1 x2 x3 (some (.c H.length)) x5 x6) (H++[C]) ?_ ?_
  ·refine sq ((bF (ns.map ndD),none),H++[C]) (by simp [dN,hxC]) ?_;exact e4
  have:cX b ns=.none:=by unfold cX;rw [if_pos h0,e3];rfl
  rw [this];simp
end K24

namespace K24
open PySem PySem.Spec PyProof.Rows L2 DL CI SJ
theorem aP6 {h H:aA} (sm:∀ i,i < h.length->H[i]?=h[i]?):okP h H:=fun i c hi e=>.inr (by rw [<- sm i hi];exact e)
theorem aP7 {h H:aA} (sm:∀ i,i < h.length->H[i]?=h[i]?) (hl:h.length<=H.length):H.take h.length=h:=List.ext_getElem? fun i=>by
 by_cases hi:i < h.length
 ·rw [List.getElem?_take_of_lt hi];exact sm i hi
 ·rw [List.getElem?_eq_none (by simp;omega),List.getElem?_eq_none (by omega)]
theorem aP8 {h H:aA} (sm:∀ i,i < h.length->H[i]?=h[i]?) (hl:h.length<=H.length) (L:aA):∀ i,i < h.length->(H++L)[i]?=h[i]?:=fun i hi=>by
 rw [List.getElem?_append_left (by omega)];exact sm i hi
def lR (d:Nat) (h:aA) {b:Pb} (hb:b.ok) {w1:W} {z:PyData} (k:∀ (j:Nat) (H:aA),Wd b j H->j < H.length->(∀ i,i < h.length->H[i]?=h[i]?)->aE T (d+14) "nodes_fault" [.c j,w1] H=some (z,H)):aE T (d+15) "stands_fault" [.d b.dat,w1] h=some (z,h):=by
 obtain ⟨H,e,w,hH,sm⟩:=wR d h hb;have hz:0 < wdZ b:=by unfold wdZ;omega
 have e2:=k _ H w (by omega) sm;have ok:=aP6 sm;have tk:=aP7 sm (by omega);rw [show d+15=(d+14)+1 from rfl,oA];simp [e,e2,ok,tk]
def uQ (d:Nat) (h:aA) {b:Pb} (hb:b.ok) (h6:b.its.length<=6) {ns:List aU} (hv:∀ v∈ns,NV b v) (hl:ns.length<=1000) {w1:W} (hw:w1=.d (.list (ns.map ndD))\/w1=.d (.tuple (ns.map ndD))) :
  aE T (d+15) "stands_fault" [.d b.dat,w1] h=some (cX b ns,h):=lR d h hb fun j H w hj _=>aY7 (d+6) hb h6 w hj hv hl hw
def qR (d:Nat) (h:aA) {b:Pb} (hb:b.ok) {z:PyData} (hz:isi z "list"=false/\isi z "tuple"=false) :
  aE T (d+15) "stands_fault" [.d b.dat,.d z] h=some (hO 0,h):=lR d h hb fun j H w hj _=>by
 rw [show d+14=(d+13)+1 from rfl,gC];refine sq (.rt (.d (hO 0)),H) ?_ (by simp);refine sq (.rt (.d (hO 0)),H) ?_ (by simp);simp [hz.1,hz.2,szl,hO]
def aC8 (d:Nat) (h:aA) {b:Pb} (hb:b.ok) {pl:List Nat} (hl:pl.length<=1000):aE T (d+15) "may_come" [.d b.dat,.d (.tuple (pl.map nI))] h=some (.list ((dG b pl).map nI),h):=by
 obtain ⟨H,e,w,hH,sm⟩:=wR d h hb;have hz:0 < wdZ b:=by unfold wdZ;omega
 have e1:=oQ (d+13) H hl;have gr:Wd b h.length (H++[dcB (mkd pl [])]):=w.grow fun i c _ _ e=>by
  rw [List.getElem?_append_left (List.getElem?_eq_some_iff.mp e).1];exact e
 have e2:=bB5 (d+12) hb.il gr (bB4 H [] pl);have ok:=aP6 (aP8 sm (by omega) [dcB (mkd pl [])]);have tk:=aP7 (aP8 sm (by omega) [dcB (mkd pl [])]) (by simp;omega);obtain ⟨a0,a1,a2,ho,_⟩:=w.ex;have l1:(F6 b a0 a1 a2).lookup (Str.ofString "followers")=none:=by simp [F6,List.lookup]
 rw [show d+15=(d+14)+1 from rfl,vY];simp [e,ho,l1,e1,e2,ok,tk]
def cA2 (d:Nat) (h:aA) {b:Pb} (hb:b.ok) {st:List Int} (hs:st.length=8) {x:Nat} (hx:x < b.its.length):aE T (d+15) "behind" [.d b.dat,.d (.tuple (st.map .int)),.d (.int x)] h=some (bh st (b.its.getD x dfI),h):=by
 obtain ⟨H,e,w,hH,sm⟩:=wR d h hb;have hz:0 < wdZ b:=by unfold wdZ;omega
 obtain ⟨a0,a1,a2,ho,_⟩:=w.ex;have l2:(F6 b a0 a1 a2).lookup (Str.ofString "stand_behind")=none:=by simp [F6,List.lookup]
 have lI:(F6 b a0 a1 a2).lookup (Str.ofString "listed")=some (.d (.tuple (b.its.map It.dat))):=by simp [F6,List.lookup]
 have ey:b.its[x]?=some (b.its.getD x dfI):=yM hx;have hy:(b.its.getD x dfI).ok:=hb.its _ (by rw [List.getD_eq_getElem?_getD,List.getElem?_eq_getElem hx];exact List.getElem_mem hx);have sb:=bY9 (d+8) H ey hy hs ho lI;have ok:=aP6 sm;have tk:=aP7 sm (by omega);rw [show d+15=(d+14)+1 from rfl,aL7];simp [e,ho,l2,sb,ok,tk]
def yU (d:Nat) (H:aA) {b:Pb} (hb:b.ok) {v:aU} (hv:NOk b v):aE T (d+16) "_law_nexts" [.d b.dat,.d (ndD v)] H=some (.list ((beh b v).map prD),H):=by
 have e2:=aC8 d (H++[.l []]) hb (pl:=v.1) (by have:=hv.l;omega);rw [show d+16=(d+15)+1 from rfl,sA];refine sq (.rt (.c H.length),H++[.l ((beh b v).map prD)]) ?_ (by simp [aR]);refine sy [some (.d b.dat),some (.d (ndD v)),some (.c H.length),none,none] (H++[.l []]) (by simp [bB,szl]) ?_;refine sqE (fun δ' h'=>∃ (x3 x4:Option W),δ'=[some (.d b.dat),some (.d (ndD v)),some (.c H.length),x3,x4]/\h'=H++[.l ((beh b v).map prD)]) ?_ ?_
 rotate_left
 ·rintro δ' h' ⟨x3,x4,rfl,rfl⟩;rfl
 refine bB2 (((dG b v.1).map nI,none),H++[.l []]) (by simp [aZ,ndD,e2]) ?_;refine cF (fun m δ' h'=>∃ (x3 x4:Option W),δ'=[some (.d b.dat),some (.d (ndD v)),some (.c H.length),x3,x4]/\h'=H++[.l ((((dG b v.1).take m).filterMap (gU b v)).map prD)]) ⟨none,none,rfl,by simp⟩ (fun δ h'=>?_) ?_
 ·rintro ⟨x3,x4,rfl,rfl⟩;rw [List.length_map,List.take_length];exact ⟨_,_,rfl,rfl⟩
 ·rintro m hm δ h' ⟨x3,x4,rfl,rfl⟩;have hm':m < (dG b v.1).length:=by simpa using hm
  obtain ⟨x,ex⟩:∃ x,(dG b v.1)[m]=x:=⟨_,rfl⟩;have exx:((dG b v.1).map nI)[m]=nI x:=by rw [List.getElem_map,ex]
  rw [exx];have hx:x < b.its.length:=by
   have:=List.getElem_mem hm';rw [ex] at this;exact List.mem_range.mp (List.mem_filter.mp this).1
  have ta:(dG b v.1).take (m+1)=(dG b v.1).take m++[x]:=by rw [List.take_succ_eq_append_getElem hm',ex]
  rw [ta,List.filterMap_append];have fl:(dG b v.1).length<=b.its.length:=by
   unfold dG;exact Nat.le_trans (List.length_filter_le _ _) (by simp)
  have al:(((dG b v.1).take m).filterMap (gU b v)).length < 16777216:=by
   have h1:=List.length_filterMap_le (gU b v) ((dG b v.1).take m);rw [List.length_take] at h1;have:=hb.il;omega
  generalize ((dG b v.1).take m).filterMap (gU b v)=acc at al;refine ⟨[some (.d b.dat),some (.d (ndD v)),some (.c H.length),some (.d (nI x)),x4],H++[.l (acc.map prD)],rfl,?_⟩;have sb:=cA2 d (H++[.l (acc.map prD)]) hb hv.s hx;have gp:(H++[Cell.l (acc.map prD)])[H.length]?=some (.l (acc.map prD)):=by simp
  cases q:bhO v.2 (b.its.getD x dfI) with
  | none =>
   rw [bZ9 q] at sb;refine ⟨[some (.d b.dat),some (.d (ndD v)),some (.c H.length),some (.d (nI x)),some (.d .none)],H++[.l (acc.map prD)],?_,_,_,rfl,?_⟩
   ·simp [ndD,nI,sb]
   ·have eb:gU b v x=none:=by unfold gU;rw [q];rfl
    simp [eb]
  | some st =>
   rw [bZ8 q] at sb;have xs:=bB6 (l:=v.1++[x]) (by have:=hv.l;simp;omega) (H++[.l (acc.map prD)]);rw [List.map_append] at xs;have xs:qW [.d (.tuple (v.1.map nI++[.int x]))] (H++[.l (acc.map prD)])=some ((iS (v.1++[x])).map nI,H++[.l (acc.map prD)]):=xs;refine ⟨[some (.d b.dat),some (.d (ndD v)),some (.c H.length),some (.d (nI x)),some (.d (.tuple (st.map .int)))],H++[.l ((acc++[(x,(iS (v.1++[x]),st))]).map prD)],?_,_,_,rfl,?_⟩
   ·have al':(acc.map prD).length < 16777216:=by simpa using al
    have xa:∀ H',dA .Add (.d (.tuple (v.1.map nI))) (.d (.tuple [.int x])) H'=some (.d (.tuple (v.1.map nI++[.int x])),H'):=fun H'=>by
     have:=hv.l;have hz:v.1.length+1<=16777216:=by omega
     show (if _<=_ then _ else _)=_;rw [if_pos (by rw [szl];simpa using hz)]
    simp [ndD,nI,sb,xs,szl,prD,aJ,gJ,al,xa]
   ·have eb:gU b v x=some (x,(iS (v.1++[x]),st)):=by unfold gU;rw [q];rfl
    simp [eb]
def cA3 {H:aA} {pl:List Nat} (y:Nat):xIn (.d (.int y)) (.d (.tuple (pl.map nI))) H=some (decide (y∈pl)):=by
 have:=bM4 pl y;rw [List.any_map] at this;simp [xIn,ref,yD,this]
def yV (d:Nat) (h:aA) {b:Pb} (hb:b.ok) (v:aU):aE T (d+1) "_law_whole_row" [.d b.dat,.d (ndD v)] h=some (.bool (mJ b v),h):=by
 have en:fN 0 (b.its.length:Int)=true:=bO (by omega) (by have:=hb.il;omega);rw [lJ];simp [aJ,Pb.dat,en];rw [eX (pMs b v.1) id (fun δ=>∃ a,δ=[a,some (.d (ndD v)),some (.d (.tuple [.tuple (b.st.map .int),.tuple (b.its.map It.dat),.tuple (b.ps.map p2),.tuple (b.ts.map p3)]))]) _ _ _ ⟨_,rfl⟩ (fun z hz δ ⟨a,e⟩=>by
  subst e;rw [gT] at hz;obtain ⟨k,hk,rfl⟩:=List.mem_map.mp hz;have hk:=List.mem_range.mp hk;have e6:=wM hk;have mu:gD b.its k=decide (b.its[k].w="must"):=by simp [gD,hk]
  refine ⟨[some (.d (nI k)),_,_],rfl,⟨_,rfl⟩,?_,fun _=>by simp⟩
  by_cases c:b.its[k].w="must"<;>simp [nI,pMs,ndD,Pb.dat,e6,It.dat,PyData.eqv,c,mu,cA3,xC1])]
 rw [List.nil_append,sQ (pMs b v.1) (fun k=>gD b.its k&&!decide (k∈v.1)) b.its.length (fun k _=>by simp [pMs,nI])];have em:(List.range b.its.length).filter (fun k=>gD b.its k&&!decide (k∈v.1))=aO9 b v.1:=by
  unfold aO9 mus;rw [List.filter_filter];refine List.filter_congr fun k _=>?_;rw [Bool.and_comm]
 have:=cA1 (aO9 b v.1) h;rw [em];simp [this,mJ]
end K24

namespace K24
open PySem PySem.Spec PyProof.Rows L2 DL CI SJ
theorem ev_int:∀ a b:List Int,PyData.eqvAll (a.map .int) (b.map .int)=decide (a=b)
 | [],[]=>by simp [PyData.eqvAll]
 | [],_::_=>by simp [PyData.eqvAll]
 | _::_,[]=>by simp [PyData.eqvAll]
 | x::a,y::b=>by
  rw [List.map_cons,List.map_cons,PyData.eqvAll,ev_int a b];rw [Bool.eq_iff_iff];simp [PyData.eqv]
def cA4 (a b:List Nat):PyData.eqvAll (a.map nI) (b.map nI)=decide (a=b):=by
 have e:∀ l:List Nat,l.map nI=(l.map Int.ofNat).map .int:=fun l=>by rw [List.map_map];rfl
 rw [e,e,ev_int]
 congr 1
 rw [eq_iff_iff];constructor
 ·intro h;have:=congrArg (List.map Int.toNat) h;rw [List.map_map,List.map_map] at this;have k:(Int.toNat ∘ Int.ofNat)=id:=rfl;rw [k,List.map_id,List.map_id] at this;exact this
 ·exact fun h=>by rw [h]
def bB7 (u v:aU):PyData.eqv (ndD u) (ndD v)=decide (u=v):=by
 unfold ndD;simp only [PyData.eqv,PyData.eqvAll,cA4,ev_int,Bool.and_true];rw [Bool.eq_iff_iff];simp [Prod.ext_iff]
theorem wU:∀ (ns:List aU) (m:Nat),plainsB (m+3) (ns.map ndD)=true
 | [],m=>by simp
 | v::r,m=>by
  rw [List.map_cons,plainsB,wU r m];have h1:aN (m+1+1) (.tuple (v.1.map nI))=true:=yD v.1 _;have h2:aN (m+1+1) (.tuple (v.2.map .int))=true:=iO v.2 _;show (aN (m+3) (.tuple [.tuple (v.1.map nI),.tuple (v.2.map .int)])&&true)=true;rw [Bool.and_true];show plainsB (m+2) [.tuple (v.1.map nI),.tuple (v.2.map .int)]=true;simp [plainsB,h1,h2]
def aP9 {H:aA} {w:W} {ns:List aU} (e:ref H w=some (.list (ns.map ndD))) (v:aU):xIn (.d (ndD v)) w H=some (decide (v∈ns)):=by
 have p1:aN 64 (.list (ns.map ndD))=true:=wU ns 60;have p2:aN 64 (ndD v)=true:=by have:=wU [v] 61;simpa [plainsB] using this
 unfold xIn;rw [e];show (if (aN 64 (.list (ns.map ndD))&&aN 64 (ndD v))=true then some ((ns.map ndD).any fun z=>PyData.eqv z (ndD v)) else none)=_;rw [if_pos (by rw [p1,p2];rfl),List.any_map]
 congr 1
 rw [Bool.eq_iff_iff,List.any_eq_true,decide_eq_true_eq];constructor
 ·rintro ⟨u,hu,h⟩;have h:PyData.eqv (ndD u) (ndD v)=true:=h;rw [bB7,decide_eq_true_eq] at h;rw [<- h];exact hu
 ·intro h;exact ⟨v,h,by show PyData.eqv (ndD v) (ndD v)=true;rw [bB7];simp⟩
structure NL (b:Pb) (m:Nat) (ns:List aU):Prop where
 ne:ns≠[]
 nv:∀ v∈ns,NV b v
 ln:ns.length<=m
def nv0 {b:Pb} (hb:b.ok):NV b ([],b.st):=⟨List.Pairwise.nil,(fun x hx=>nomatch hx),hb.st⟩
def bN7 {b:Pb} (hb:b.ok) {v:aU} (nv:NV b v) {q:Nat×aU} (hq:q∈beh b v):NV b q.2:=by
 refine nv.next hq ?_;unfold beh at hq;obtain ⟨x,hx,e⟩:=List.mem_filterMap.mp hq;unfold gU at e;obtain ⟨st,e3,rfl⟩:=Option.map_eq_some_iff.mp e;unfold dG at hx;rw [List.mem_filter,List.mem_range] at hx;exact bN1 (hb.its _ (by rw [List.getD_eq_getElem?_getD,List.getElem?_eq_getElem hx.1];exact List.getElem_mem hx.1)) nv.s e3
def dD (b:Pb) (j:W) (x2 x3 x4:Option W):DSt:=[some (.d b.dat),some j,x2,x3,x4]
def aQ0 {H:aA} {w:W} {ns:List aU} (e:ref H w=some (.list (ns.map ndD))) {k:Nat} (hk:k < ns.length):xIx w (.d (.int k)) H=some (.d (ndD (nd0 ns k)),H):=by
 have:atI (ns.map ndD) (k:Int)=some (ndD (nd0 ns k)):=by
  unfold atI;rw [ix_nat (by simpa using hk)];simp [nd0,List.getD,hk]
 unfold xIx;rw [e];show (atI (ns.map ndD) (k:Int)).map _=_;rw [this];rfl
def len_nd {H:aA} {w:W} {ns:List aU} (e:ref H w=some (.list (ns.map ndD))):bJ [w] H=some (.d (.int ns.length),H):=by
 simp only [bJ,e,List.length_map]
def aQ1 (d:Nat) (h:aA) {b:Pb} (hb:b.ok) (h6:b.its.length<=6):∃ ns,NL b 66 ns/\aE T (d+17) "_law_nodes" [.d b.dat] h=some (.list (ns.map ndD),h):=by
 have eD:b.dat=.tuple [.tuple (b.st.map .int),.tuple (b.its.map It.dat),.tuple (b.ps.map p2),.tuple (b.ts.map p3)]:=rfl;have ix0:∀ H,xIx (.d b.dat) (.d (.int 0)) H=some (.d (.tuple (b.st.map .int)),H):=fun H=>by rw [eD];rfl
 have er:fN 0 200=true:=bO (by omega) (by omega);rw [show d+17=(d+16)+1 from rfl,sB];have kk:∃ δ' h',(aW (YG 2) (fX (d+16)) none (rng 0 200) (rng 0 200) (dD b (.c h.length) none none none) (h++[Cell.l ([([],b.st)].map ndD)]))=some (.nx δ',h')/\∃ (x2 x3 x4:Option W) (ns:List aU),δ'=dD b (.c h.length) x2 x3 x4/\h'=h++[Cell.l (ns.map ndD)]/\NL b 66 ns:=by
  refine cF (fun m δ' h'=>∃ (x2 x3 x4:Option W) (ns:List aU),δ'=dD b (.c h.length) x2 x3 x4/\h'=h++[Cell.l (ns.map ndD)]/\NL b 66 ns) ⟨none,none,none,[([],b.st)],rfl,rfl,by simp,fun v hv=>by rw [List.mem_singleton.mp hv];exact nv0 hb,by simp⟩ (fun δ h'=>id) ?_;rintro m hm δ h' ⟨x2,x3,x4,ns,rfl,rfl,nl⟩;have hm':m < 200:=by simpa [rng] using hm
  have em:(rng 0 200)[m]'hm=.int m:=by simp [rng]
  rw [em];refine ⟨dD b (.c h.length) (some (.d (.int m))) x3 x4,_,rfl,?_⟩;have rf:ref (h++[Cell.l (ns.map ndD)]) (.c h.length)=some (.list (ns.map ndD)):=by simp [ref]
  have lK:=len_nd rf
  by_cases c1:m < ns.length
  rotate_left
  ·refine ⟨dD b (.c h.length) (some (.d (.int m))) x3 x4,h++[Cell.l (ns.map ndD)],by simp [dD,lK,c1],_,_,_,ns,rfl,rfl,nl⟩
  by_cases c2:ns.length < 60
  rotate_left
  ·refine ⟨dD b (.c h.length) (some (.d (.int m))) x3 x4,h++[Cell.l (ns.map ndD)],?_,_,_,_,ns,rfl,rfl,nl⟩;have c3:¬ (ns.length:Int) < 60:=by omega
   simp [dD,lK,c1,c2,c3]
  have ix:=aQ0 rf c1;have nv:=nl.nv _ (sX c1);have nk:=nv.ok hb h6;generalize nd0 ns m=v at ix nv nk;have wr:=yV (d+15) (h++[Cell.l (ns.map ndD)]) hb v;have nx:=yU d (h++[Cell.l (ns.map ndD)]) hb nk;have c3:(ns.length:Int) < 60:=by omega
  cases la:mJ b v with
  | true =>
   rw [la] at wr;exact ⟨dD b (.c h.length) (some (.d (.int m))) x3 x4,h++[Cell.l (ns.map ndD)],by simp [dD,lK,c1,c2,c3,ix,wr],_,_,_,ns,rfl,rfl,nl⟩
  | false =>
   rw [la] at wr;simp [dD,lK,c1,c2,c3,ix,wr,nx,aZ];generalize hr:aW _ _ _ _ _ _ _=r;have kk:∃ δ' h',r=some (.nx δ',h')/\∃ (x3 x4:Option W) (n2:List aU),δ'=dD b (.c h.length) (some (.d (.int m))) x3 x4/\h'=h++[Cell.l (n2.map ndD)]/\NL b (ns.length+(beh b v).length) n2:=by
    rw [<- hr];clear hr;refine cF (fun q δ' h'=>∃ (x3 x4:Option W) (n2:List aU),δ'=dD b (.c h.length) (some (.d (.int m))) x3 x4/\h'=h++[Cell.l (n2.map ndD)]/\NL b (ns.length+q) n2) ⟨_,_,ns,rfl,rfl,nl.ne,nl.nv,Nat.le_refl _⟩ (fun δ h'=>?_) ?_
    ·rw [List.length_map];exact id
    ·rintro q hq δ h' ⟨x3,x4,n2,rfl,rfl,l2⟩;have hq':q < (beh b v).length:=by simpa using hq
     obtain ⟨y,ey⟩:∃ y,(beh b v)[q]=y:=⟨_,rfl⟩;have eyy:((beh b v).map prD)[q]=prD y:=by rw [List.getElem_map,ey]
     rw [eyy];have hy:=List.getElem_mem hq';rw [ey] at hy;have n3:=l2.ln;have bl:=yN b v;have al:n2.length < 16777216:=by omega
     have r2:ref (h++[Cell.l (n2.map ndD)]) (.c h.length)=some (.list (n2.map ndD)):=by simp [ref]
     have i2:=aP9 r2 y.2;refine ⟨dD b (.c h.length) (some (.d (.int m))) (some (.d (.int y.1))) (some (.d (ndD y.2))),h++[Cell.l (n2.map ndD)],by simp [prD,dD,bK,tG],?_⟩
     by_cases c:y.2∈n2
     ·exact ⟨dD b (.c h.length) (some (.d (.int m))) (some (.d (.int y.1))) (some (.d (ndD y.2))),h++[Cell.l (n2.map ndD)],by simp [dD,i2,c,xC1],_,_,n2,rfl,rfl,l2.ne,l2.nv,by omega⟩
     ·refine ⟨dD b (.c h.length) (some (.d (.int m))) (some (.d (.int y.1))) (some (.d (ndD y.2))),h++[Cell.l ((n2++[y.2]).map ndD)],?_,_,_,n2++[y.2],rfl,rfl,by simp,fun u hu=>?_,by simp;omega⟩
      ·simp [dD,i2,c,xC1,gJ,szl,al]
      ·rcases List.mem_append.mp hu with u' | u'
       ·exact l2.nv u u'
       ·rw [List.mem_singleton.mp u'];exact bN7 hb nv hy
   clear hr;obtain ⟨δ',h',rfl,x3,x4,n2,rfl,rfl,l2⟩:=kk;have bl:=yN b v;have n3:=l2.ln;exact ⟨_,_,rfl,⟨_,_,_,rfl⟩,n2,rfl,l2.ne,l2.nv,by omega⟩
 obtain ⟨δ',h',e,x2,x3,x4,ns,rfl,rfl,nl⟩:=kk;refine ⟨ns,nl,?_⟩;refine sq (.rt (.c h.length),h++[.l (ns.map ndD)]) ?_ (by simp [aR]);refine sy (dD b (.c h.length) none none none) (h++[Cell.l ([([],b.st)].map ndD)]) (by simp [bB,szl,ix0,dD,ndD]) ?_;refine sy (dD b (.c h.length) x2 x3 x4) (h++[.l (ns.map ndD)]) ?_ rfl;refine sq ((rng 0 200,none),h++[Cell.l ([([],b.st)].map ndD)]) (by simp [er]) ?_;exact e
end K24

namespace K24
open PySem PySem.Spec PyProof.Rows L2 DL CI SJ
theorem yW {α:Type} {g:XG} {tb:XS} {c:Cw} {all:List PyData} {h:aA} (hc:CI.condB c all h=true) (F:α->PyData) (R:α->Option PyData) (I:DSt->Prop):∀ (qs:List α) (δ:DSt),
  (∀ q∈qs,∀ δ,I δ->∃ δ1,g (.d (F q)) δ h=some (δ1,h)/\((∃ z,R q=some z/\tb δ1 h=some (.rt (.d z),h))\/(R q=none/\∃ δ2,tb δ1 h=some (.nx δ2,h)/\I δ2))) ->
  I δ->(∃ z,qs.findSome? R=some z/\aW g tb c all (qs.map F) δ h=some (.rt (.d z),h))\/(qs.findSome? R=none/\∃ δ2,aW g tb c all (qs.map F) δ h=some (.nx δ2,h)/\I δ2)
 | [],δ,ht,r=>.inr ⟨rfl,δ,by simp [aW,hc],r⟩
 | q::qs,δ,ht,r=>by
  obtain ⟨δ1,e1,k⟩:=ht q List.mem_cons_self δ r;rw [List.map_cons,aW,if_pos hc,e1,List.findSome?_cons];rcases k with ⟨z,h1,e3⟩ | ⟨h1,δ2,e3,r2⟩
  ·exact .inl ⟨z,by rw [h1],by simp only [bs,e3]⟩
  ·have ih:=yW (all:=all) hc F R I qs δ2 (fun y hy=>ht y (List.mem_cons_of_mem _ hy)) r2;simp only [bs,e3,h1];exact ih
def rN (ns:List aU) (k:Nat) (q:Nat×aU):Option PyData:=if q.2∈ns then none else some (iW k q.1)
theorem bB8 (ns:List aU) (k:Nat):∀ l:List (Nat×aU),l.findSome? (rN ns k)=((l.find? fun q=>!decide (q.2∈ns)).map (·.1)).map (iW k)
 | []=>rfl
 | q::l=>by
  rw [List.findSome?_cons,List.find?_cons,rN]
  by_cases c:q.2∈ns
  ·simp [c,bB8 ns k l]
  ·simp [c]
def cA5 (d:Nat) (h:aA) {b:Pb} (hb:b.ok) (h6:b.its.length<=6) {ns:List aU} (hv:∀ v∈ns,NV b v) (hl:ns.length<=1000):aE T (d+17) "_law_due" [.d b.dat,.d (.list (ns.map ndD))] h=some (cX b ns,h):=by
 have eD:b.dat=.tuple [.tuple (b.st.map .int),.tuple (b.its.map It.dat),.tuple (b.ps.map p2),.tuple (b.ts.map p3)]:=rfl;have ix0:∀ H,xIx (.d b.dat) (.d (.int 0)) H=some (.d (.tuple (b.st.map .int)),H):=fun H=>by rw [eD];rfl
 have rf:ref h (.d (.list (ns.map ndD)))=some (.list (ns.map ndD)):=rfl;obtain ⟨w1,ew⟩:∃ w1:W,w1=.d (.list (ns.map ndD)):=⟨_,rfl⟩;rw [<- ew] at rf ⊢;clear ew;have er:fN 0 (ns.length:Int)=true:=bO (by omega) (by omega);have i1:=aP9 rf ([],b.st);have lK:=len_nd rf;have eN:ndD ([],b.st)=.tuple [.tuple [],.tuple (b.st.map .int)]:=rfl;rw [eN] at i1;rw [show d+17=(d+16)+1 from rfl,vZ];refine sq (.rt (.d (cX b ns)),h) ?_ (by simp [aR])
 by_cases h0:([],b.st)∈ns
 rotate_left
 ·rw [decide_eq_false h0] at i1;refine sq (.rt (.d (cX b ns)),h) ?_ (by simp);simp [ix0,i1,xC1,szl,cX,h0]
 rw [decide_eq_true h0] at i1;refine sy (dD b w1 none none none) h (by simp [dD,ix0,i1,xC1,szl]) ?_;have lp:=mV (g:=YG 2) (tb:=gY (d+16)) (c:=none) (all:=rng 0 ns.length) (h:=h) rfl (F:=fun (k:Nat)=>.int k) (n:=ns.length) (flt b ns) (fun δ=>∃ x2 x3 x4,δ=dD b w1 x2 x3 x4) (fun k hk δ ⟨x2,x3,x4,e⟩=>by
  subst e;refine ⟨dD b w1 (some (.d (.int k))) x3 x4,rfl,?_⟩;have ix:=aQ0 rf hk;have nv:=hv _ (sX hk);have nk:=nv.ok hb h6;unfold flt;generalize nd0 ns k=v at ix nv nk;have wr:=yV (d+15) h hb v;have nx:=yU d h hb nk;cases la:mJ b v with
  | true =>
   rw [la] at wr;exact .inl ⟨qQ k,by simp,by simp [dD,ix,wr,szl,qQ]⟩
  | false =>
   rw [la] at wr;have lq:=yW (g:=bK [YG 3,YG 4]) (tb:=fun (x:DSt) (x_2:aA)=>YP (YP (xC1 CmpOp.NotIn (aB 4) (aB 1) x x_2) fun p=>if p.1=true then YP (YP (xb (xPl (Y3 (YS "next") (aB 2) (aB 3))) (YT) x p.2) YW) YE else some (Fl.nx x,p.2)) YE) (c:=none) (all:=(beh b v).map prD) (h:=h) rfl prD (rN ns k) (fun δ=>∃ x3 x4,δ=dD b w1 (some (.d (.int k))) x3 x4) (beh b v) (dD b w1 (some (.d (.int k))) x3 x4) (fun q hq δ ⟨x3,x4,e⟩=>by
    subst e;have i2:=aP9 rf q.2;refine ⟨dD b w1 (some (.d (.int k))) (some (.d (.int q.1))) (some (.d (ndD q.2))),by simp [prD,dD,bK,tG],?_⟩
    by_cases c:q.2∈ns
    ·exact .inr ⟨by simp [rN,c],dD b w1 (some (.d (.int k))) (some (.d (.int q.1))) (some (.d (ndD q.2))),by simp [dD,i2,c,xC1],_,_,rfl⟩
    ·exact .inl ⟨iW k q.1,by simp [rN,c],by simp [dD,i2,c,xC1,szl,iW]⟩) ⟨_,_,rfl⟩
   rw [bB8] at lq;have en:(nxt b ns v).map (iW k)=(((beh b v).find? fun q=>!decide (q.2∈ns)).map (·.1)).map (iW k):=rfl;rw [<- en] at lq;have xe:aZ (xb (Y2 (aB 0) (xb (aB 1) fun x=>xb (aB 2) (YX x))) (YF (d+16) "_law_nexts")) (dD b w1 (some (.d (.int k))) x3 x4) h=some (((beh b v).map prD,none),h):=by simp [dD,ix,nx,aZ]
   rw [if_neg (by simp)];rcases lq with ⟨z,e3,e4⟩ | ⟨e3,δ2,e4,q3,q4,rfl⟩
   ·refine .inl ⟨z,e3,?_⟩;refine sy (dD b w1 (some (.d (.int k))) x3 x4) h (by simp [dD,ix,wr]) ?_;refine sq (.rt (.d z),h) ?_ rfl;exact sq _ xe e4
   ·refine .inr ⟨e3,dD b w1 (some (.d (.int k))) q3 q4,?_,_,_,_,rfl⟩;refine sy (dD b w1 (some (.d (.int k))) x3 x4) h (by simp [dD,ix,wr]) ?_;refine sq (.nx (dD b w1 (some (.d (.int k))) q3 q4),h) ?_ rfl;exact sq _ xe e4) ns.length 0 (dD b w1 none none none) (Nat.zero_add _) ⟨_,_,_,rfl⟩
 have ern:rng 0 ns.length=(List.range' 0 ns.length).map fun (k:Nat)=>PyData.int k:=cP1 ns.length;rw [<- ern] at lp;rcases lp with ⟨z,e3,e4⟩ | ⟨e3,δ2,e4,x2,x3,x4,rfl⟩
 ·refine sq (.rt (.d (cX b ns)),h) ?_ (by simp);refine sq ((rng 0 ns.length,none),h) (by simp [dD,lK,er]) ?_;have:cX b ns=z:=by unfold cX;rw [if_pos h0,e3];rfl
  rw [this];exact e4
 ·refine sy (dD b w1 x2 x3 x4) h ?_ ?_
  ·refine sq ((rng 0 ns.length,none),h) (by simp [dD,lK,er]) ?_;exact e4
  have:cX b ns=.none:=by unfold cX;rw [if_pos h0,e3];rfl
  rw [this];rfl
end K24

namespace K24
open PySem PySem.Spec PyProof.Rows L2 DL CI SJ
def mW {α:Type} (f:α->PyData) (ns:List α) {k:Nat} (hk:k<=ns.length):cut (ns.map f) none (some (k:Int))=(ns.take k).map f:=by
 rw [wI _ (by simpa using hk),List.map_take]
def sY {α:Type} (f:α->PyData) (ns:List α) {k:Nat} (hk:k<=ns.length):cut (ns.map f) (some (k:Int)) none=(ns.drop k).map f:=by
 rw [aM0 _ (by simpa using hk),List.map_drop]
def BR (b:Pb) (h:aA) (i:Nat) (x:Option (Fl×aA)):Prop:=∃ (n2:List aU) (s':S3),(∀ v∈n2,NV b v)/\n2.length<=67/\x=some (.rt (.d (.list (n2.map ndD))),h.set i (stL s'))
section
variable {b:Pb} {h:aA} {i:Nat} {x:Option (Fl×aA)} {f:DSt->Fl×aA->Option (Fl×aA)}
def brN (δ:DSt) (H:aA) (e:x=some (.nx δ,H)) (k:BR b h i (f δ (.nx δ,H))):BR b h i (YP x (YQ f)):=by
 rw [e];exact k
def brT (k:BR b h i x):BR b h i (YP x (YQ f)):=by
 obtain ⟨n2,s',h1,h2,e⟩:=k;exact ⟨n2,s',h1,h2,by rw [e];rfl⟩
end
def sZ {H:aA} {l r:List aU} (hl:l.length+r.length<=1000):dA .Add (.d (.list (l.map ndD))) (.d (.list (r.map ndD))) H=some (.d (.list ((l++r).map ndD)),H):=by
 have hz:l.length+r.length<=16777216:=by omega
 show (if _<=_ then _ else _)=_;rw [if_pos (by rw [szl];simpa using hz),List.map_append]
def bN8 (d:Nat) (h:aA) {b:Pb} {i:Nat} {c:Cell} {s:S3} (hc:Stf c s) (hi:i < h.length) (h6:b.its.length<=6) {ns:List aU} (nl:NL b 66 ns) :
  ∃ (n2:List aU) (s':S3),(∀ v∈n2,NV b v)/\n2.length<=67/\aE T (d+2) "_law_bent" [.d (.list (ns.map ndD)),.c i,.d (.int b.its.length)] (h.set i c)=some (.list (n2.map ndD),h.set i (stL s')):=by
 have n0:0 < ns.length:=List.length_pos_iff.mpr nl.ne;have n4:=nl.ln;have e7:bA 7=true:=by decide
 have d1:=cB d h hc 7 hi (by decide) e7;obtain ⟨w,ew,hw⟩:=bD s (b:=7) (by decide);rw [ew] at d1;generalize digS s 7=s1 at d1;have dn:bA (ns.length:Int)=true:=cJ (by omega) (by omega);have d2:=cL d h s1 ns.length hi (by omega) dn;obtain ⟨y,ey,hy⟩:=bD s1 (b:=ns.length) (by omega);rw [ey] at d2;generalize digS s1 ns.length=s2 at d2;have hy:y < ns.length:=by omega
 have c1:=mW ndD ns (k:=y) (by omega);have c2:=sY ndD ns (k:=y+1) (by omega);have c2:cut (ns.map ndD) (some ((y:Int)+1)) none=(ns.drop (y+1)).map ndD:=c2;have rf:∀ H,ref H (.d (.list (ns.map ndD)))=some (.list (ns.map ndD)):=fun H=>rfl;have ix:∀ H,xIx (.d (.list (ns.map ndD))) (.d (.int y)) H=some (.d (ndD (nd0 ns y)),H):=fun H=>aQ0 (rf H) hy;have nvy:=nl.nv _ (sX hy);obtain ⟨ms,u,ems⟩:∃ ms u,ns=ms++[u]:=⟨_,_,(List.dropLast_concat_getLast nl.ne).symm⟩;have at1:∀ H,xIx (.d (.list (ns.map ndD))) (.d (.int (-1))) H=some (.d (ndD u),H):=fun H=>by
  rw [aU6,ems,List.map_append,List.map_cons,List.map_nil,aM8];rfl
 have nvu:NV b u:=nl.nv _ (by rw [ems];simp);have tk:∀ v∈ns.take y,NV b v:=fun v z=>nl.nv v (List.mem_of_mem_take z);have dp:∀ v∈ns.drop (y+1),NV b v:=fun v z=>nl.nv v (List.mem_of_mem_drop z);have t1:∀ v,NV b v->∀ z∈ns++[v],NV b z:=fun v hv z hz=>(List.mem_append.mp hz).elim (nl.nv z) fun q=>by rw [List.mem_singleton.mp q];exact hv
 have a1:∀ v H,dA .Add (.d (.list (ns.map ndD))) (.d (.list [ndD v])) H=some (.d (.list ((ns++[v]).map ndD)),H):=fun v H=>sZ (r:=[v]) (by simp;omega);obtain ⟨w1,ew1⟩:∃ w1:W,w1=.d (.list (ns.map ndD)):=⟨_,rfl⟩;have lK:∀ H,bJ [w1] H=some (.d (.int ns.length),H):=fun H=>len_nd (by rw [ew1];rfl);have s1':∀ H,xSl w1 none (some y) H=some (.d (.list ((ns.take y).map ndD)),H):=fun H=>by
  rw [ew1];unfold xSl;simp only [ref,c1]
 have s2':∀ H,xSl w1 (some ((y:Int)+1)) none H=some (.d (.list ((ns.drop (y+1)).map ndD)),H):=fun H=>by
  rw [ew1];unfold xSl;simp only [ref,c2]
 rw [<- ew1] at ix at1 a1 rf ⊢;generalize nd0 ns y=v at ix nvy;have fin:BR b h i (some (.rt w1,h.set i (stL s2))):=⟨ns,s2,nl.nv,by omega,by rw [ew1]⟩;rw [uE]
 suffices k:BR b h i _ by
  obtain ⟨n2,s',h1,h2,e⟩:=k;refine ⟨n2,s',h1,h2,sq _ e ?_⟩;simp
 have k7:w=0\/w=1\/w=2\/w=3\/w=4\/w=5\/w=6:=by omega
 clear ew1 c1 c2 dn ey ew e7;refine brN [some w1,some (.c i),some (.d (.int b.its.length)),some (.d (.int w)),none,none] (h.set i (stL s1)) (by simp [d1]) ?_;refine brN [some w1,some (.c i),some (.d (.int b.its.length)),some (.d (.int w)),some (.d (.int y)),none] (h.set i (stL s2)) (by simp [lK,d2]) ?_
 by_cases w0:w=0
 ·refine brT ⟨ns.take y++ns.drop (y+1),s2,fun v hv=>(List.mem_append.mp hv).elim (tk v) (dp v),by simp;omega,?_⟩;have a2:∀ H,dA .Add (.d (.list ((ns.take y).map ndD))) (.d (.list ((ns.drop (y+1)).map ndD))) H=some (.d (.list ((ns.take y++ns.drop (y+1)).map ndD)),H):=fun H=>sZ (by simp;omega);simp [w0,s1',s2',a2,-List.map_take,-List.map_drop,-List.map_append]
 refine brN [some w1,some (.c i),some (.d (.int b.its.length)),some (.d (.int w)),some (.d (.int y)),none] (h.set i (stL s2)) (by simp [w0]) ?_
 by_cases w1':w=1
 ·refine brT ⟨ns++[v],s2,t1 v nvy,by simp;omega,?_⟩;simp [w1',ix,aJ,szl,a1,-List.map_append]
 refine brN [some w1,some (.c i),some (.d (.int b.its.length)),some (.d (.int w)),some (.d (.int y)),none] (h.set i (stL s2)) (by
  have q:¬ (w:Int)=1:=by omega
  simp [q]) ?_
 by_cases w2:w=2
 ·refine brT ⟨ns.reverse,s2,fun v hv=>nl.nv v (List.mem_reverse.mp hv),by simp;omega,?_⟩;simp [w2,aJ,rf]
 refine brN [some w1,some (.c i),some (.d (.int b.its.length)),some (.d (.int w)),some (.d (.int y)),none] (h.set i (stL s2)) (by
  have q:¬ (w:Int)=2:=by omega
  simp [q]) ?_
 by_cases w3:w=3
 ·have nv3:NV b (v.1,(v.2.getD 0 0+1)::v.2.drop 1):=⟨nvy.up,nvy.lt,by have:=nvy.s;simp;omega⟩;obtain ⟨a,r,er⟩:∃ a r,v.2=a::r:=by
   cases e:v.2 with
   | nil=>have:=nvy.s;rw [e] at this;cases this
   | cons a r=>exact ⟨a,r,rfl⟩
  have lr:r.length=7:=by have:=nvy.s;rw [er] at this;simpa using this
  rw [er] at nv3;have nv3:NV b (v.1,(a+1)::r):=nv3;have a2:∀ H,dA .Add (.d (.list ((ns.take y).map ndD))) (.d (.list [ndD (v.1,(a+1)::r)])) H=some (.d (.list ((ns.take y++[(v.1,(a+1)::r)]).map ndD)),H):=fun H=>sZ (r:=[(v.1,(a+1)::r)]) (by simp;omega);have a3:∀ H,dA .Add (.d (.list ((ns.take y++[(v.1,(a+1)::r)]).map ndD))) (.d (.list ((ns.drop (y+1)).map ndD))) H=some (.d (.list ((ns.take y++[(v.1,(a+1)::r)]++ns.drop (y+1)).map ndD)),H):=fun H=>sZ (by simp;omega);refine brT ⟨ns.take y++[(v.1,(a+1)::r)]++ns.drop (y+1),s2,fun v hv=>?_,by simp;omega,?_⟩
  ·rcases List.mem_append.mp hv with q | q
   ·rcases List.mem_append.mp q with q | q
    ·exact tk v q
    ·rw [List.mem_singleton.mp q];exact nv3
   ·exact dp v q
  have eN:ndD v=.tuple [.tuple (v.1.map nI),.tuple (.int a::r.map .int)]:=by unfold ndD;rw [er];rfl
  have eN2:ndD (v.1,(a+1)::r)=.tuple [.tuple (v.1.map nI),.tuple (.int (a+1)::r.map .int)]:=rfl;rw [eN2] at a2;rw [eN] at ix;simp [w3,ix,s1',s2',aJ,szl,aV6,lr,a2,a3,-List.map_take,-List.map_drop,-List.map_append,-List.append_assoc]
 refine brN [some w1,some (.c i),some (.d (.int b.its.length)),some (.d (.int w)),some (.d (.int y)),none] (h.set i (stL s2)) (by
  have q:¬ (w:Int)=3:=by omega
  simp [q]) ?_
 by_cases w4:w=4
 ·have nv4:NV b (v.1,u.2):=⟨nvy.up,nvy.lt,nvu.s⟩;refine brT ⟨ns++[(v.1,u.2)],s2,t1 _ nv4,by simp;omega,?_⟩;have a2:=a1 (v.1,u.2);have eN2:ndD (v.1,u.2)=.tuple [.tuple (v.1.map nI),.tuple (u.2.map .int)]:=rfl;rw [eN2] at a2;unfold ndD at ix at1;simp [w4,ix,at1,aJ,szl,a2,-List.map_append]
 refine brN [some w1,some (.c i),some (.d (.int b.its.length)),some (.d (.int w)),some (.d (.int y)),none] (h.set i (stL s2)) (by
  have q:¬ (w:Int)=4:=by omega
  simp [q]) ?_
 by_cases w5:w=5/\0 < b.its.length
 ·have w50:w=5:=w5.1;have w51:=w5.2;have w52:(0:Int) < b.its.length:=by omega
  have d3:=cL d h s2 b.its.length hi (by omega) (cJ (by omega) (by omega));obtain ⟨z,ez,hz⟩:=bD s2 (b:=b.its.length) (by omega);rw [ez] at d3;have nv5:NV b ([z],v.2):=⟨by simp,fun x hx=>by rw [List.mem_singleton.mp hx];omega,nvy.s⟩;refine brT ⟨ns++[([z],v.2)],digS s2 b.its.length,t1 _ nv5,by simp;omega,?_⟩;have a2:=a1 ([z],v.2);have eN2:ndD ([z],v.2)=.tuple [.tuple [.int z],.tuple (v.2.map .int)]:=rfl;rw [eN2] at a2;unfold ndD at ix;simp [w50,w51,w52,d3,ix,aJ,szl,a2,-List.map_append]
 refine brN [some w1,some (.c i),some (.d (.int b.its.length)),some (.d (.int w)),some (.d (.int y)),none] (h.set i (stL s2)) (by
  by_cases q:w=5
  ·have q2:b.its.length=0:=by omega
   simp [q,q2]
  ·have q:¬ (w:Int)=5:=by omega
   simp [q]) ?_
 exact fin
end K24

namespace K24
open PySem PySem.Spec PyProof.Rows L2 DL CI SJ
noncomputable def sD (b:Pb):PyData:=.tuple (b.st.map .int)
def fQ (b:Pb):List PyData:=[.tuple [.tuple [.int b.its.length],sD b],.tuple [.tuple [.int 0,.int 0],sD b],.tuple [.tuple [.int (-1)],sD b],.tuple [.list [],sD b],.tuple [.tuple [],.tuple ((b.st.take 7).map .int)],.tuple [.tuple [],.list (b.st.map .int)],
 .tuple [.tuple [.int 1,.int 0],sD b],.tuple [.tuple [.int (b.its.length - 1),.int 0],sD b],.tuple [.tuple [.int 0,.int b.its.length],sD b],
 .tuple [.tuple [],sD b,.int 0],.list [.tuple [],sD b],.none,.int 5,.tuple [.tuple [.bool true],sD b],.tuple [.tuple [],.tuple (.bool true::(b.st.drop 1).map .int)]]
section
variable (d:Nat) (H:aA) (n:Int)
def yX {z:PyData} (e:bP z 2=false):aE T (d+4) "is_node" [.d z,.d (.int n)] H=some (.bool false,H):=by
 rw [show d+4=(d+3)+1 from rfl,gH];simp [bU,e]
def cA6 {a s:PyData} (e:isi a "tuple"=false):aE T (d+4) "is_node" [.d (.tuple [a,s]),.d (.int n)] H=some (.bool false,H):=by
 have e0:bP (.tuple [a,s]) 2=true:=rfl;rw [show d+4=(d+3)+1 from rfl,gH];simp [bU,e0,e]
def aQ4 {xs:List PyData} {s:PyData} (e:aE T (d+3) "is_stand" [.d s] H=some (.bool false,H)):aE T (d+4) "is_node" [.d (.tuple [.tuple xs,s]),.d (.int n)] H=some (.bool false,H):=by
 have e0:bP (.tuple [.tuple xs,s]) 2=true:=rfl;have e1:isi (.tuple xs) "tuple"=true:=rfl;rw [show d+4=(d+3)+1 from rfl,gH];simp [bU,e0,e1,e]
def mK {xs:List PyData} {st:List Int} (hs:st.length=8) (e:(xs.all fun z=>bR z 0 (n - 1))=false\/∃ ns:List Int,xs=ns.map .int/\ns.length<=1000/\rT ns=false):aE T (d+4) "is_node" [.d (.tuple [.tuple xs,.tuple (st.map .int)]),.d (.int n)] H=some (.bool false,H):=by
 have e0:bP (.tuple [.tuple xs,.tuple (st.map .int)]) 2=true:=rfl;have e1:isi (.tuple xs) "tuple"=true:=rfl;have e3:aE T (d+3) (Str.ofString "is_stand") [.d (.tuple (st.map .int))] H=some (.bool true,H):=cO d H hs;have e4:=yL d H (.inr rfl:aP0 (.tuple xs) xs) n;rw [show d+4=(d+3)+1 from rfl,gH];cases q:xs.all fun z=>bR z 0 (n - 1) with
 | false =>
  rw [q] at e4;simp [bU,e0,e1,e3,e4]
 | true =>
  rw [q] at e4;obtain ⟨ns,rfl,hl,hr⟩:=e.resolve_left (by rw [q];simp);have e5:aE T (d+3) (Str.ofString "are_rising") [.d (.tuple (ns.map .int))] H=some (.bool false,H):=by
   rw [wD (d+2) H hl (fun _=>by simp) fun _ _=>rfl,hr]
  simp [bU,e0,e1,e3,e4,e5]
end
def yY (d:Nat) (H:aA) {b:Pb} (hb:b.ok) {z:PyData} (hz:z∈fQ b):aE T (d+4) "is_node" [.d z,.d (.int b.its.length)] H=some (.bool false,H):=by
 have hs:=hb.st;unfold fQ sD at hz;simp only [List.mem_cons,List.not_mem_nil,or_false] at hz;obtain ⟨s0,sr,es⟩:∃ a r,b.st=a::r:=by
  cases e:b.st with
  | nil=>rw [e] at hs;cases hs
  | cons a r=>exact ⟨a,r,rfl⟩
 have rl:∀ x y:Int,y<=x->rT [x,y]=false:=fun x y h=>by
  unfold rT;simp [List.range_succ];omega
 rcases hz with rfl | rfl | rfl | rfl | rfl | rfl | rfl | rfl | rfl | rfl | rfl | rfl | rfl | rfl | rfl
 ·exact mK d H _ hs (.inl (by simp [bR];omega))
 ·exact mK d H _ hs (.inr ⟨[0,0],rfl,by simp,rl _ _ (by omega)⟩)
 ·exact mK d H _ hs (.inl (by simp [bR]))
 ·exact cA6 d H _ rfl
 ·exact aQ4 d H _ (by simp [fH,bP,hs])
 ·exact aQ4 d H _ (by simp [fH,bP,hs])
 ·exact mK d H _ hs (.inr ⟨[1,0],rfl,by simp,rl _ _ (by omega)⟩)
 ·by_cases q:b.its.length=0
  ·exact mK d H _ hs (.inl (by simp [bR,q]))
  ·exact mK d H _ hs (.inr ⟨[(b.its.length:Int) - 1,0],rfl,by simp,rl _ _ (by omega)⟩)
 ·exact mK d H _ hs (.inl (by simp [bR];omega))
 ·exact yX d H _ rfl
 ·exact yX d H _ rfl
 ·exact yX d H _ rfl
 ·exact yX d H _ rfl
 ·exact mK d H _ hs (.inl (by simp [bR,fO]))
 ·refine aQ4 d H _ ?_;have hr:sr.length=7:=by rw [es] at hs;simpa using hs
  simp [fH,bP,es,hr];simp [fO]
def bN9 (d:Nat) (h:aA) {b:Pb} (hb:b.ok):aE T (d+1) "_law_bad_nodes" [.d b.dat,.d (sD b)] h=some (.list (fQ b),h):=by
 have hs:=hb.st;have c7:cut (b.st.map PyData.int) none (some 7)=(b.st.take 7).map .int:=mW PyData.int b.st (k:=7) (by omega);have c1:cut (b.st.map PyData.int) (some 1) none=(b.st.drop 1).map .int:=sY PyData.int b.st (k:=1) (by omega);rw [lN];simp [Pb.dat,sD,aJ,szl,c7,c1,hs,fQ,gI,ref]
end K24

namespace K24
open PySem PySem.Spec PyProof.Rows L2 DL CI SJ
mutual
theorem aQ5:∀ (n:Nat) (d:PyData),aN n d=true->peq d d=true
 | n,.none,_=>rfl
 | n,.bool a,_=>by show (a==a)=true;simp
 | n,.int a,_=>pqI a
 | n,.str a,_=>by show (a==a)=true;simp
 | n+1,.list xs,h=>peqs_pl n xs h
 | n+1,.tuple xs,h=>peqs_pl n xs h
 | 0,.list _,h=>by cases h
 | 0,.tuple _,h=>by cases h
 | n,.dict _,h=>by cases n<;>cases h
theorem peqs_pl:∀ (n:Nat) (d:List PyData),plainsB n d=true->peqs d d=true
 | n,[],_=>rfl
 | n,x::r,h=>by
  replace h:(aN n x&&plainsB n r)=true:=h
  rw [Bool.and_eq_true] at h;show (peq x x&&peqs r r)=true;rw [aQ5 n x h.1,peqs_pl n r h.2];rfl
end
def bO0 (b:Pb):plainsB 20 (fQ b)=true:=by
 have h:∀ n,plainsB n (b.st.map .int)=true:=fun n=>iO _ n;have h7:∀ n,plainsB n ((b.st.take 7).map .int)=true:=fun n=>iO _ n;have h1:∀ n,plainsB n (b.st.map PyData.int).tail=true:=fun n=>by rw [<- List.map_tail];exact iO _ n
 simp [fQ,sD,plainsB,aN,h,h7,h1,-List.map_take,-List.map_drop]
theorem aQ6 {n:Nat}:∀ {l:List PyData},plainsB n l=true->∀ z∈l,aN n z=true
 | x::r,h,z,hz=>by
  replace h:(aN n x&&plainsB n r)=true:=h
  rw [Bool.and_eq_true] at h;rcases List.mem_cons.mp hz with rfl | q
  ·exact h.1
  ·exact aQ6 h.2 z q
def NB (b:Pb) (z:PyData):Prop:=(∃ v,NV b v/\z=ndD v)\/z∈fQ b
def NB.peq {b:Pb} {z:PyData} (h:NB b z):CI.peq z z=true:=by
 rcases h with ⟨v,_,rfl⟩ | h
 ·rw [wS];simp
 ·exact aQ5 20 z (aQ6 (bO0 b) z h)
theorem yZ:∀ (zs:List PyData) (k:Nat),(∀ z∈zs,CI.peq z z=true)->peqs (enumF k zs) (enumF k zs)=true
 | [],k,_=>rfl
 | z::zs,k,h=>by
  have ih:=yZ zs (k+1) fun y hy=>h y (List.mem_cons_of_mem _ hy);have hz:=h z List.mem_cons_self;show ((CI.peq (.int k) (.int k)&&(CI.peq z z&&true))&&peqs (enumF (k+1) zs) (enumF (k+1) zs))=true;rw [pqI,hz,ih];rfl
theorem aQ7 {R:Nat->Option PyData} {n k:Nat} {z:PyData} (hk:k < n) (h0:∀ i,i < k->R i=none) (h1:R k=some z):(List.range' 0 n).findSome? R=some z:=by
 obtain ⟨m,rfl⟩:∃ m,n=k+(m+1):=⟨n - k - 1,by omega⟩;have e:List.range' 0 (k+(m+1))=List.range' 0 k++List.range' k (m+1):=by
  have:=@List.range'_append 0 k (m+1) 1
  simpa using this.symm
 rw [e,List.findSome?_append,List.findSome?_eq_none_iff.mpr (fun i hi=>h0 i (by simpa using hi)),List.range'_succ,List.findSome?_cons,h1];rfl
def aY8 (d:Nat) (h:aA) {b:Pb} (hb:b.ok) {m k:Nat} {zs:List PyData} (hm:h[m]?=some (.l zs)) (hz:∀ z∈zs,NB b z) (hk:k < zs.length) (hl:∀ i,i < k->∃ v,NV b v/\zs.getD i .none=ndD v) (hx:zs.getD k .none∈fQ b) :
  aE T (d+15) "stands_fault" [.d b.dat,.c m] h=some (hO k,h):=lR d h hb fun j H w hj sm=>by
 have hm':H[m]?=some (.l zs):=by rw [sm m (List.getElem?_eq_some_iff.mp hm).1];exact hm
 refine bN6 (d+6) w (zs:=zs) (c:=some (m,true)) ⟨.list zs,by simp [ref,hm'],rfl⟩ (by simp [jK,jJ,hm']) ?_ (fun z q=>?_) ?_
 ·show (match H[m]? with | some (.l ys)=>peqs (if true=true then bF ys else ys) (bF zs) | _=>false)=true;rw [hm'];exact yZ zs 0 fun z q=>(hz z q).peq
 ·rcases hz z q with ⟨v,nv,rfl⟩ | q
  ·exact ⟨true,oR (d+9) H hb.il nv⟩
  ·exact ⟨false,yY (d+9) H hb q⟩
 ·refine aQ7 hk (fun i hi=>?_) ?_
  ·obtain ⟨v,nv,e⟩:=hl i hi;have:=oR (d+9) H hb.il nv;unfold rF isN;rw [e,if_pos (by simpa using this)]
  ·have e:aE T (d+6+7) "is_node" [.d (zs.getD k .none),.d (.int b.its.length)] H=some (.bool false,H):=yY (d+9) H hb hx;unfold rF isN;rw [e];simp
end K24

namespace K24
open PySem PySem.Spec PyProof.Rows L2 DL CI SJ
section
variable (d:Nat) (h:aA)
def iD (its:List It) (x:PyData):PyData:=.tuple (its.map It.dat++[x])
theorem kQ {α:Type}:∀ its:List α,eT (its.map (fun _=>PyData.bool true)++[.bool false])=some (its.map (fun _=>true)++[false])
 | []=>rfl
 | a::r=>by
  rw [List.map_cons,List.cons_append,eT,kQ r];rfl
def cP3 {x:PyData} (hx:bP x 4=false):aE T (d+12) "is_problem" [.d x] h=some (.bool false,h):=by
 simp [cS,hx]
def aQ8 {f i p a:PyData} (hf:∀ h,aE T (d+11) "is_stand" [.d f] h=some (.bool true,h)) (bi bp ba:Bool) (hi:∀ h,aE T (d+11) "are_items" [.d i] h=some (.bool bi,h))
  (hp:bi=true->∀ h,∃ n,bJ [.d i] h=some (.d (.int n),h)/\aE T (d+11) "are_pairs" [.d p,.d (.int n)] h=some (.bool bp,h)) (ha:bi=true->bp=true->∀ h,aE T (d+11) "are_triples" [.d a,.d i] h=some (.bool ba,h)) (hb:(bi&&(bp&&ba))=false) :
  aE T (d+12) "is_problem" [.d (.tuple [f,i,p,a])] h=some (.bool false,h):=by
 cases bi with
 | false=>simp [cS,bP,hf,hi]
 | true =>
  obtain ⟨n,e1,e2⟩:=hp rfl h;cases bp with
  | false=>simp [cS,bP,hf,hi,e1,e2]
  | true =>
   have e3:=ha rfl rfl h;cases ba with
   | false=>simp [cS,bP,hf,hi,e1,e2,e3]
   | true=>simp at hb
def aQ9 (xs:List PyData) (h:aA):bJ [.d (.tuple xs)] h=some (.d (.int xs.length),h):=by simp [bJ,ref]
def aC9 {its:List It} (hx:∀ x∈its,x.ok) (hl:its.length<=100) {z:PyData} (hz:∀ h,aE T (d+10) "is_item" [.d z] h=some (.bool false,h)):aE T (d+11) "are_items" [.d (iD its z)] h=some (.bool false,h):=by
 have hl':(its.length:Int)+1<=120:=by omega
 have e1:its.map It.dat++[z]=(its.map (fun x=>(x.dat,PyData.bool true))++[(z,PyData.bool false)]).map (·.1):=by simp
 have e2:(its.map (fun x=>(x.dat,PyData.bool true))++[(z,PyData.bool false)]).map (·.2)=its.map (fun _=>PyData.bool true)++[.bool false]:=by simp
 simp [iH,iD,isi,dU,hl',aJ];rw [e1,dX (fun δ=>∃ a,δ=[a]) _ _ _ ⟨_,rfl⟩ (fun q hq δ ⟨a,e⟩=>by
  subst e;refine ⟨[some (.d q.1)],rfl,⟨_,rfl⟩,?_⟩;rcases List.mem_append.mp hq with hq | hq
  ·obtain ⟨x,hx',rfl⟩:=List.mem_map.mp hq;simp [qK d h (hx x hx')]
  ·rw [List.mem_singleton.mp hq];simp [hz]),List.nil_append,e2]
 simp [kQ]
def aY9 (xs:List PyData):aE T (d+11) "are_items" [.d (.list xs)] h=some (.bool false,h):=by simp [iH,isi,dU]
def noP (d:Nat) (x:PyData):Prop:=∀ h,aE T (d+12) "is_problem" [.d x] h=some (.bool false,h)
def cA7 {p:Nat×Nat} {n:Nat} (hp:p.1 < n/\p.2 < n/\p.1≠p.2):aE T (d+4) "are_unlike" [.d (p2 p),.d (.int 2),.d (.int n)] h=some (.bool true,h):=by
 obtain ⟨h1,h2,h3⟩:=hp;exact kM d h (ns:=[(p.1:Int),(p.2:Int)]) (n:=n) (by simp;omega) (by simp;omega) (by simp)
def cA8 {p:Nat×Nat×Nat} {n:Nat} (hp:p.1 < n/\p.2.1 < n/\p.2.2 < n/\p.1≠p.2.1/\p.1≠p.2.2/\p.2.1≠p.2.2):aE T (d+4) "are_unlike" [.d (p3 p),.d (.int 3),.d (.int n)] h=some (.bool true,h):=by
 obtain ⟨h1,h2,h3,h4,h5,h6⟩:=hp;exact kM d h (ns:=[(p.1:Int),(p.2.1:Int),(p.2.2:Int)]) (n:=n) (by simp;omega) (by simp;omega) (by simp)
def aD0 {ps:List (Nat×Nat)} {n:Nat} (hl:ps.length<=100) (hp:∀ p∈ps,p.1 < n/\p.2 < n/\p.1≠p.2) {z:PyData} (hz:∀ h,aE T (d+4) "are_unlike" [.d z,.d (.int 2),.d (.int n)] h=some (.bool false,h)) :
  aE T (d+5) "are_pairs" [.d (.tuple (ps.map p2++[z])),.d (.int n)] h=some (.bool false,h):=by
 have hl':¬ (4000:Int) < (ps.length:Int)+1:=by omega
 have e1:ps.map p2++[z]=(ps.map (fun x=>(p2 x,PyData.bool true))++[(z,PyData.bool false)]).map (·.1):=by simp
 have e2:(ps.map (fun x=>(p2 x,PyData.bool true))++[(z,PyData.bool false)]).map (·.2)=ps.map (fun _=>PyData.bool true)++[.bool false]:=by simp
 simp [iI,isi,dU,hl',aJ];rw [e1,dX (fun δ=>∃ a,δ=[a,some (.d (.int n))]) _ _ _ ⟨_,rfl⟩ (fun q hq δ ⟨a,e⟩=>by
  subst e;refine ⟨[some (.d q.1),some (.d (.int n))],rfl,⟨_,rfl⟩,?_⟩;rcases List.mem_append.mp hq with hq | hq
  ·obtain ⟨x,hx',rfl⟩:=List.mem_map.mp hq;simp [cA7 d h (hp x hx')]
  ·rw [List.mem_singleton.mp hq];simp [hz]),List.nil_append,e2]
 simp [kQ]
def aR0 {x:PyData} (hx:bP x 4=false):noP d x:=fun h=>cP3 d h hx
def cA9 {f i p a:PyData} (hf:∀ h,aE T (d+11) "is_stand" [.d f] h=some (.bool false,h)):noP d (.tuple [f,i,p,a]):=fun h=>by simp [cS,bP,hf]
def cB0 (n a b:Int) (hab:(([PyData.int a,.int b]).all fun x=>bR x 0 (n - 1))=false\/a=b):aE T (d+4) "are_unlike" [.d (.tuple [.int a,.int b]),.d (.int 2),.d (.int n)] h=some (.bool false,h):=by
 have e:=yL d h (.inr rfl:aP0 (.tuple [.int a,.int b]) [.int a,.int b]) n;cases q:([PyData.int a,.int b].all fun x=>bR x 0 (n - 1)) with
 | false =>
  rw [q] at e;simp [gN,bP,e]
 | true =>
  rw [q] at e;rcases hab with z | rfl
  ·rw [q] at z;cases z
  simp [gN,bP,e,xLS,dQ,ST.dd,step_dedup]
noncomputable def gdI:It:=⟨.call (.one (.read 0)),.none,"must"⟩
def bB9:gdI.ok:=⟨show (0:Nat) < 8 by decide,.inl rfl,.inl rfl,.inl rfl⟩
noncomputable def myI:It:=⟨.call (.one (.read 1)),.none,"may"⟩
def cB1:myI.ok:=⟨show (1:Nat) < 8 by decide,.inl rfl,.inl rfl,.inr (.inl rfl)⟩
def mo (its:List It):List It:=its++[gdI,gdI,myI]
def gV (its:List It):(mo its).length=its.length+3:=by simp [mo]
def cB2 {its:List It} (hi:∀ x∈its,x.ok):∀ x∈mo its,x.ok:=fun x hx=>by
 rcases List.mem_append.mp hx with q | q
 ·exact hi x q
 ·simp only [List.mem_cons,List.not_mem_nil,or_false] at q;rcases q with rfl | rfl | rfl
  ·exact bB9
  ·exact bB9
  ·exact cB1
def zA {its:List It} {x:Nat} (m:must its x):must (mo its) x:=by
 obtain ⟨y,e,w⟩:=m;have hx:x < its.length:=(List.getElem?_eq_some_iff.mp e).1;exact ⟨y,by rw [mo,List.getElem?_append_left hx];exact e,w⟩
def moD (its:List It):PyData:=.tuple ((mo its).map It.dat)
section
variable {b:Pb} (hb:b.ok)
include hb
def bC0:∀ p∈b.ps,p.1 < (mo b.its).length/\p.2 < (mo b.its).length/\p.1≠p.2:=fun p hp=>by
 obtain ⟨h1,h2,h3⟩:=hb.ps p hp;rw [gV];exact ⟨by omega,by omega,h3⟩
def cB3:∀ p∈b.ts,p.1 < (mo b.its).length/\p.2.1 < (mo b.its).length/\p.2.2 < (mo b.its).length/\p.1≠p.2.1/\p.1≠p.2.2/\p.2.1≠p.2.2/\must (mo b.its) p.1/\must (mo b.its) p.2.1:=fun p hp=>by
 obtain ⟨h1,h2,h3,h4,h5,h6,h7,h8⟩:=hb.ts p hp;rw [gV];exact ⟨by omega,by omega,by omega,h4,h5,h6,zA h7,zA h8⟩
def bO1 {p a:PyData} (xs:List PyData):noP d (.tuple [.tuple (b.st.map .int),.list xs,p,a]):=fun h=>aQ8 d h (fun h=>cO (d+8) h hb.st) false false false (fun h=>aY9 d h xs) (fun z=>nomatch z) (fun z=>nomatch z) rfl
end
section
variable {b:Pb} (hb:b.ok) (hil:b.its.length<=60)
include hb hil
def aR1 (h:aA):aE T (d+11) "are_items" [.d (moD b.its)] h=some (.bool true,h):=mG d h (cB2 hb.its) (by rw [gV];omega)
def bC1 {z a:PyData} (hz:∀ h,aE T (d+10) "are_unlike" [.d z,.d (.int 2),.d (.int (b.its.length+3:Nat))] h=some (.bool false,h)):noP d (.tuple [.tuple (b.st.map .int),moD b.its,.tuple (b.ps.map p2++[z]),a]):=fun h=>by
 refine aQ8 d h (fun h=>cO (d+8) h hb.st) true false false (fun h=>aR1 d hb hil h) (fun _ h=>⟨(b.its.length+3:Nat),?_,?_⟩) (fun _ z=>nomatch z) rfl
 ·rw [moD,aQ9,List.length_map,gV]
 ·have:=bC0 hb;rw [gV] at this;exact aD0 (d+6) h hb.pl this hz
def cB4 {q:Nat×Nat×Nat} (hq:q.1 < b.its.length+3/\q.2.1 < b.its.length+3/\q.2.2 < b.its.length+3/\q.1≠q.2.1/\q.1≠q.2.2/\q.2.1≠q.2.2) {x1 x2:It} (e1:(mo b.its)[q.1]?=some x1) (e2:(mo b.its)[q.2.1]?=some x2) (hw:(x1.w="may"/\(x2.w="must"\/x2.w="may"))\/(x1.w="must"/\x2.w="may")) :
  noP d (.tuple [.tuple (b.st.map .int),moD b.its,.tuple (b.ps.map p2),.tuple (b.ts.map p3++[p3 q])]):=fun h=>by
 refine aQ8 d h (fun h=>cO (d+8) h hb.st) true true false (fun h=>aR1 d hb hil h) (fun _ h=>⟨(b.its.length+3:Nat),?_,?_⟩) (fun _ _ h=>?_) rfl
 ·rw [moD,aQ9,List.length_map,gV]
 ·have:=bC0 hb;rw [gV] at this;exact mH (d+6) h (Nat.le_trans hb.pl (by decide)) this
 ·have hp:=cB3 hb;have hl':¬ (4000:Int) < (b.ts.length:Int)+1:=by have:=hb.tl;omega
  have ex:b.ts.map p3++[p3 q]=(b.ts++[q]).map p3:=by simp
  have eu:∀ p∈b.ts++[q],∀ h,aE T (d+10) "are_unlike" [.d (p3 p),.d (.int 3),.d (.int ((mo b.its).map It.dat).length)] h=some (.bool true,h):=fun p hm h=>by
   rw [List.length_map];refine cA8 (d+6) h ?_;rcases List.mem_append.mp hm with hm | hm
   ·obtain ⟨h1,h2,h3,h4,h5,h6,_⟩:=hp p hm;exact ⟨h1,h2,h3,h4,h5,h6⟩
   ·rw [List.mem_singleton.mp hm,gV];exact hq
  have e4:(b.ts.map (fun x=>(p3 x,PyData.bool true))++[(p3 q,PyData.bool false)]).map (·.1)=(b.ts++[q]).map p3:=by simp
  have e5:(b.ts.map (fun x=>(p3 x,PyData.bool true))++[(p3 q,PyData.bool false)]).map (·.2)=b.ts.map (fun _=>PyData.bool true)++[.bool false]:=by simp
  rw [ex,moD];generalize hI:(mo b.its).map It.dat=its at *;simp [iV,isi,dU,hl',aJ,-List.map_append];rw [bL (fun x=>.bool true) 0 (fun _ _ _=>rfl)]
  ·simp [gR,-List.map_append];rw [<- e4,dX (fun δ=>∃ a b c,δ=[a,b,c,some (.d (.tuple its))]) _ _ _ ⟨_,_,_,rfl⟩ (fun y hy δ ⟨a,b',c,e⟩=>by
    subst e;rcases List.mem_append.mp hy with hy | hy
    ·obtain ⟨p,hm,rfl⟩:=List.mem_map.mp hy;obtain ⟨h1,h2,h3,h4,h5,h6,⟨x1,e1,w1⟩,⟨x2,e2,w2⟩⟩:=hp p hm;refine ⟨[some (.d (.int p.1)),some (.d (.int p.2.1)),some (.d (.int p.2.2)),some (.d (.tuple its))],by simp [p3],⟨_,_,_,rfl⟩,?_⟩;subst hI;simp [kN e1,kN e2,It.dat,w1,w2,PyData.eqv]
    ·rw [List.mem_singleton.mp hy];refine ⟨[some (.d (.int q.1)),some (.d (.int q.2.1)),some (.d (.int q.2.2)),some (.d (.tuple its))],by simp [p3],⟨_,_,_,rfl⟩,?_⟩;subst hI;rcases hw with ⟨w1,w2 | w2⟩ | ⟨w1,w2⟩<;>simp [kN e1,kN e2,It.dat,w1,w2,PyData.eqv]),List.nil_append,e5]
   simp [kQ]
  ·intro y hy u;obtain ⟨p,hm,rfl⟩:=List.mem_map.mp hy;simp [eu p hm]
def bO2 {a:PyData} (xs:List PyData):noP d (.tuple [.tuple (b.st.map .int),moD b.its,.list xs,a]):=fun h=>by
 refine aQ8 d h (fun h=>cO (d+8) h hb.st) true false false (fun h=>aR1 d hb hil h) (fun _ h=>⟨(b.its.length+3:Nat),?_,?_⟩) (fun _ z=>nomatch z) rfl
 ·rw [moD,aQ9,List.length_map,gV]
 ·simp [iI,isi,dU]
end
noncomputable def zI (w:String) (k:Int) (t:PyData):PyData:=.tuple [.tuple [.str (Str.ofString "read"),.int k],t,.str (Str.ofString w)]
def cP4:aE T (d+10) "is_item" [.d (zI "may" 0 (.tuple [.str (Str.ofString "done")]))] h=some (.bool false,h):=by
 have e1:=oM (d+1) h (p:=.call (.one (.read 0))) (show (0:Nat) < 8 by decide);have e2:=oI d h (c:=.one (.read 0)) (t:=.tuple [.str (Str.ofString "done")]) (show (0:Nat) < 8 by decide);have ex:(aK (.tuple [.str (Str.ofString "done")]) (Str.ofString "refused") 1||bM (.one (.read 0)) (.tuple [.str (Str.ofString "done")]))=false:=by decide
 rw [ex] at e2;have e1:aE T (d+9) (Str.ofString "is_step") [.d (.tuple [.str (Str.ofString "read"),.int 0])] h=some (.bool true,h):=e1;have e2:aE T (d+9) (Str.ofString "is_answer") [.d (.tuple [.str (Str.ofString "read"),.int 0]),.d (.tuple [.str (Str.ofString "done")])] h=some (.bool false,h):=e2;simp [gG,zI,bP,e1,e2,isi,dU]
def cP5:aE T (d+10) "is_item" [.d (zI "Must" 0 .none)] h=some (.bool false,h):=by
 have e1:=oM (d+1) h (p:=.call (.one (.read 0))) (show (0:Nat) < 8 by decide);have e1:aE T (d+9) (Str.ofString "is_step") [.d (.tuple [.str (Str.ofString "read"),.int 0])] h=some (.bool true,h):=e1;simp [gG,zI,bP,e1,isi,dU,xIn,ref,PyData.eqv]
def cP6:aE T (d+10) "is_item" [.d (zI "out" 8 .none)] h=some (.bool false,h):=by
 have e1:=dY (d+1) h (x:=.tuple [.str (Str.ofString "read"),.int 8]) (by decide);have ex:gB (.tuple [.str (Str.ofString "read"),.int 8])=false:=by decide
 rw [ex] at e1;simp [gG,zI,bP,e1,isi,dU]
end
def pD (b:Pb):PyData:=.tuple (b.ps.map p2)
def tD (b:Pb):PyData:=.tuple (b.ts.map p3)
def bdL (b:Pb):List PyData:=[.tuple [sD b,.tuple (b.its.map It.dat),pD b],.list [sD b,.tuple (b.its.map It.dat),pD b,tD b],.none,.tuple [.tuple ((b.st.take 7).map .int),.tuple (b.its.map It.dat),pD b,tD b],.tuple [sD b,.list (b.its.map It.dat),pD b,tD b],
 .tuple [sD b,iD b.its (zI "may" 0 (.tuple [.str (Str.ofString "done")])),pD b,tD b],.tuple [sD b,iD b.its (zI "Must" 0 .none),pD b,tD b],.tuple [sD b,iD b.its (zI "out" 8 .none),pD b,tD b],
 .tuple [sD b,moD b.its,.tuple (b.ps.map p2++[.tuple [.int 0,.int (b.its.length+3)]]),tD b],.tuple [sD b,moD b.its,.tuple (b.ps.map p2++[.tuple [.int 0,.int 0]]),tD b],
 .tuple [sD b,moD b.its,pD b,.tuple (b.ts.map p3++[p3 (b.its.length,b.its.length+2,b.its.length+1)])],.tuple [sD b,moD b.its,.list (b.ps.map p2),tD b]]
def cB5 (d:Nat) {b:Pb} (hb:b.ok) (h6:b.its.length<=6):∀ z∈bdL b,noP d z:=by
 intro z hz;unfold bdL sD pD tD at hz;simp only [List.mem_cons,List.not_mem_nil,or_false] at hz;have h60:b.its.length<=60:=by omega
 have hi:∀ {z p a:PyData},(∀ h,aE T (d+10) "is_item" [.d z] h=some (.bool false,h))->noP d (.tuple [.tuple (b.st.map .int),iD b.its z,p,a]):=fun hz h=>aQ8 d h (fun h=>cO (d+8) h hb.st) false false false (fun h=>aC9 d h hb.its (by omega) hz) (fun z=>nomatch z) (fun z=>nomatch z) rfl;rcases hz with rfl | rfl | rfl | rfl | rfl | rfl | rfl | rfl | rfl | rfl | rfl | rfl
 ·exact aR0 d rfl
 ·exact aR0 d rfl
 ·exact aR0 d rfl
 ·exact cA9 d fun h=>by simp [fH,bP,hb.st]
 ·exact bO1 d hb _
 ·exact hi fun h=>cP4 d h
 ·exact hi fun h=>cP5 d h
 ·exact hi fun h=>cP6 d h
 ·exact bC1 d hb h60 fun h=>cB0 (d+6) h _ _ _ (.inl (by simp [bR];omega))
 ·exact bC1 d hb h60 fun h=>cB0 (d+6) h _ _ _ (.inr rfl)
 ·exact cB4 d hb h60 (q:=(b.its.length,b.its.length+2,b.its.length+1)) (by refine ⟨?_,?_,?_,?_,?_,?_⟩<;>dsimp only<;>omega) (x1:=gdI) (x2:=myI) (by simp [mo]) (by simp [mo]) (.inr ⟨rfl,rfl⟩)
 ·exact bO2 d hb h60 _
end K24

namespace K24
open PySem PySem.Spec PyProof.Rows L2 DL CI SJ
def dB (b:Pb) (x5 x6 x7 x8 x9:Option W):DSt:=[some (.d b.dat),some (.d (sD b)),some (.d (.tuple (b.its.map It.dat))),some (.d (pD b)),some (.d (tD b)),x5,x6,x7,x8,x9]
def bO3 (its:List It):moD its=.tuple (its.map It.dat++[gdI.dat,gdI.dat,myI.dat]):=by simp [moD,mo]
def zB {H:aA} {l r:List PyData} (hl:l.length+r.length<=1000):dA .Add (.d (.tuple l)) (.d (.tuple r)) H=some (.d (.tuple (l++r)),H):=by
 have hz:l.length+r.length<=16777216:=by omega
 show (if _<=_ then _ else _)=_;rw [if_pos (by rw [szl];exact hz)]
def cB6 (d:Nat) (h:aA) {b:Pb} (hb:b.ok) (h6:b.its.length<=6):aE T (d+1) "_law_bad" [.d b.dat] h=some (.list (bdL b),h):=by
 have hs:=hb.st;have hp:=hb.pl;have ht:=hb.tl;have eb:bdL b=[.tuple [sD b,.tuple (b.its.map It.dat),pD b],.list [sD b,.tuple (b.its.map It.dat),pD b,tD b],.none,.tuple [.tuple ((b.st.take 7).map .int),.tuple (b.its.map It.dat),pD b,tD b],.tuple [sD b,.list (b.its.map It.dat),pD b,tD b],
  .tuple [sD b,iD b.its (zI "may" 0 (.tuple [.str (Str.ofString "done")])),pD b,tD b],.tuple [sD b,iD b.its (zI "Must" 0 .none),pD b,tD b],.tuple [sD b,iD b.its (zI "out" 8 .none),pD b,tD b]]++[
  .tuple [sD b,moD b.its,.tuple (b.ps.map p2++[.tuple [.int 0,.int (b.its.length+3)]]),tD b],.tuple [sD b,moD b.its,.tuple (b.ps.map p2++[.tuple [.int 0,.int 0]]),tD b]]++[
  .tuple [sD b,moD b.its,pD b,.tuple (b.ts.map p3++[p3 (b.its.length,b.its.length+2,b.its.length+1)])],.tuple [sD b,moD b.its,.list (b.ps.map p2),tD b]]:=rfl
 obtain ⟨l5,e5⟩:∃ l,l=[PyData.tuple [sD b,.tuple (b.its.map It.dat),pD b],.list [sD b,.tuple (b.its.map It.dat),pD b,tD b],.none,.tuple [.tuple ((b.st.take 7).map .int),.tuple (b.its.map It.dat),pD b,tD b],.tuple [sD b,.list (b.its.map It.dat),pD b,tD b]]:=⟨_,rfl⟩;have n5:l5.length=5:=by rw [e5];rfl
 have eb8:l5++[.tuple [sD b,iD b.its (zI "may" 0 (.tuple [.str (Str.ofString "done")])),pD b,tD b],.tuple [sD b,iD b.its (zI "Must" 0 .none),pD b,tD b],.tuple [sD b,iD b.its (zI "out" 8 .none),pD b,tD b]]=[.tuple [sD b,.tuple (b.its.map It.dat),pD b],.list [sD b,.tuple (b.its.map It.dat),pD b,tD b],.none,.tuple [.tuple ((b.st.take 7).map .int),.tuple (b.its.map It.dat),pD b,tD b],.tuple [sD b,.list (b.its.map It.dat),pD b,tD b],
  .tuple [sD b,iD b.its (zI "may" 0 (.tuple [.str (Str.ofString "done")])),pD b,tD b],.tuple [sD b,iD b.its (zI "Must" 0 .none),pD b,tD b],.tuple [sD b,iD b.its (zI "out" 8 .none),pD b,tD b]]:=by rw [e5];rfl
 rw [<- eb8] at eb;have c3:cut [sD b,.tuple (b.its.map It.dat),pD b,tD b] none (some 3)=[sD b,.tuple (b.its.map It.dat),pD b]:=wI _ (m:=3) (by simp);have c7:cut (b.st.map PyData.int) none (some 7)=(b.st.take 7).map .int:=mW PyData.int b.st (k:=7) (by omega);have eD:b.dat=.tuple [sD b,.tuple (b.its.map It.dat),pD b,tD b]:=rfl;have aI:∀ H z,dA .Add (.d (.tuple (b.its.map It.dat))) (.d (.tuple [z])) H=some (.d (iD b.its z),H):=fun H z=>zB (by simp;omega);have aM:∀ H,dA .Add (.d (.tuple (b.its.map It.dat))) (.d (.tuple [gdI.dat,gdI.dat,myI.dat])) H=some (.d (moD b.its),H):=fun H=>by rw [bO3];exact zB (by simp;omega)
 have aP:∀ H z,dA .Add (.d (pD b)) (.d (.tuple [z])) H=some (.d (.tuple (b.ps.map p2++[z])),H):=fun H z=>zB (by simp;omega);have aT:∀ H z,dA .Add (.d (tD b)) (.d (.tuple [z])) H=some (.d (.tuple (b.ts.map p3++[z])),H):=fun H z=>zB (by simp;omega);have eg:gdI.dat=.tuple [.tuple [.str (Str.ofString "read"),.int 0],.none,.str (Str.ofString "must")]:=rfl;have em:myI.dat=.tuple [.tuple [.str (Str.ofString "read"),.int 1],.none,.str (Str.ofString "may")]:=rfl;rw [eg,em] at aM;rw [wA];refine sq (.rt (.d (.list (bdL b))),h++[.l (l5++[.tuple [sD b,iD b.its (zI "may" 0 (.tuple [.str (Str.ofString "done")])),pD b,tD b],.tuple [sD b,iD b.its (zI "Must" 0 .none),pD b,tD b],.tuple [sD b,iD b.its (zI "out" 8 .none),pD b,tD b]]),.l (l5++[.tuple [sD b,iD b.its (zI "may" 0 (.tuple [.str (Str.ofString "done")])),pD b,tD b],.tuple [sD b,iD b.its (zI "Must" 0 .none),pD b,tD b],.tuple [sD b,iD b.its (zI "out" 8 .none),pD b,tD b]]++[
  .tuple [sD b,moD b.its,.tuple (b.ps.map p2++[.tuple [.int 0,.int (b.its.length+3)]]),tD b],.tuple [sD b,moD b.its,.tuple (b.ps.map p2++[.tuple [.int 0,.int 0]]),tD b]])]) ?_ (by simp [aR])
 refine sy (dB b none none none none none) h (by simp [eD,dB,bK,tG]) ?_;refine sy (dB b (some (.d gdI.dat)) none none none none) h (by simp [dB,szl,eg]) ?_;refine sy (dB b (some (.d gdI.dat)) (some (.d (moD b.its))) none none none) h (by simp [dB,szl,eg,aM]) ?_;refine sy (dB b (some (.d gdI.dat)) (some (.d (moD b.its))) (some (.d (.int b.its.length))) none none) h (by simp [dB]) ?_;refine sy (dB b (some (.d gdI.dat)) (some (.d (moD b.its))) (some (.d (.int b.its.length))) (some (.c h.length)) none) (h++[.l l5]) (by simp [dB,eD,sD,bB,szl,aJ,ref,c3,c7,e5,-List.map_take]<;>(first | exact c3 | rfl | skip)) ?_;obtain ⟨z1,f1⟩:∃ z,z=zI "may" 0 (.tuple [.str (Str.ofString "done")]):=⟨_,rfl⟩;obtain ⟨z2,f2⟩:∃ z,z=zI "Must" 0 .none:=⟨_,rfl⟩;obtain ⟨z3,f3⟩:∃ z,z=zI "out" 8 .none:=⟨_,rfl⟩;rw [<- f1,<- f2,<- f3] at eb ⊢;have g1:z1=.tuple [.tuple [.str (Str.ofString "read"),.int 0],.tuple [.str (Str.ofString "done")],.str (Str.ofString "may")]:=f1;have g2:z2=.tuple [.tuple [.str (Str.ofString "read"),.int 0],.none,.str (Str.ofString "Must")]:=f2;have g3:z3=.tuple [.tuple [.str (Str.ofString "read"),.int 8],.none,.str (Str.ofString "out")]:=f3;clear e5 eb8 f1 f2 f3 c3 c7;have st:∀ (l:List PyData) (z:PyData) (x9:Option W),l.length<=100->gZ d (dB b (some (.d gdI.dat)) (some (.d (moD b.its))) (some (.d (.int b.its.length))) (some (.c h.length)) (some (.d z))) (h++[.l l])=some (.nx (dB b (some (.d gdI.dat)) (some (.d (moD b.its))) (some (.d (.int b.its.length))) (some (.c h.length)) (some (.d z))),h++[.l (l++[.tuple [sD b,iD b.its z,pD b,tD b]])]):=fun l z x9 hl=>by
  have al:l.length < 16777216:=by omega
  simp [dB,aI,szl,gJ,al]
 refine sy (dB b (some (.d gdI.dat)) (some (.d (moD b.its))) (some (.d (.int b.its.length))) (some (.c h.length)) (some (.d z3))) (h++[.l (l5++[.tuple [sD b,iD b.its z1,pD b,tD b],.tuple [sD b,iD b.its z2,pD b,tD b],.tuple [sD b,iD b.its z3,pD b,tD b]])]) ?_ ?_
 ·refine sq (([z1,z2,z3],none),h++[.l l5]) (by simp [g1,g2,g3,aZ,aJ,szl]) ?_;have s1:=st l5 z1 none (by omega);have s2:=st (l5++[.tuple [sD b,iD b.its z1,pD b,tD b]]) z2 none (by simp;omega);have s3:=st (l5++[.tuple [sD b,iD b.its z1,pD b,tD b]]++[.tuple [sD b,iD b.its z2,pD b,tD b]]) z3 none (by simp;omega);have gg:∀ (x9:Option W) (z:PyData) (H:aA),YG 9 (.d z) (dB b (some (.d gdI.dat)) (some (.d (moD b.its))) (some (.d (.int b.its.length))) (some (.c h.length)) x9) H=some (dB b (some (.d gdI.dat)) (some (.d (moD b.its))) (some (.d (.int b.its.length))) (some (.c h.length)) (some (.d z)),H):=fun _ _ _=>rfl;have cb:∀ (l:List PyData) (H:aA),CI.condB none l H=true:=fun _ _=>rfl;dsimp only;rw [aW,if_pos (cb _ _),gg];simp only [bs,s1];rw [aW,if_pos (cb _ _),gg];simp only [bs,s2];rw [aW,if_pos (cb _ _),gg];simp only [bs,s3];rw [aW,if_pos (cb _ _)];simp only [List.append_assoc,List.cons_append,List.nil_append]
 clear st;obtain ⟨l8,e8⟩:∃ l,l=l5++[.tuple [sD b,iD b.its z1,pD b,tD b],.tuple [sD b,iD b.its z2,pD b,tD b],.tuple [sD b,iD b.its z3,pD b,tD b]]:=⟨_,rfl⟩;have n8:l8.length=8:=by rw [e8];simp;omega
 rw [<- e8] at eb ⊢;obtain ⟨y1,k1⟩:∃ z,z=PyData.tuple [sD b,moD b.its,.tuple (b.ps.map p2++[.tuple [.int 0,.int (b.its.length+3)]]),tD b]:=⟨_,rfl⟩;obtain ⟨y2,k2⟩:∃ z,z=PyData.tuple [sD b,moD b.its,.tuple (b.ps.map p2++[.tuple [.int 0,.int 0]]),tD b]:=⟨_,rfl⟩;rw [<- k1,<- k2] at eb ⊢;refine sy (dB b (some (.d gdI.dat)) (some (.d (moD b.its))) (some (.d (.int b.its.length))) (some (.c (h.length+1))) (some (.d z3))) (h++[.l l8,.l (l8++[y1,y2])]) (by simp [dB,bB,aJ,szl,aP,ref,k1,k2,n8]) ?_;refine sq (.rt (.d (.list (bdL b))),h++[.l l8,.l (l8++[y1,y2])]) ?_ rfl;have n10:(l8++[y1,y2]).length=10:=by simp;omega
 have ad:∀ z1 z2,dA .Add (.c (h.length+1)) (.d (.list [z1,z2])) (h++[.l l8,.l (l8++[y1,y2])])=some (.d (.list (l8++[y1,y2]++[z1,z2])),h++[.l l8,.l (l8++[y1,y2])]):=fun z1 z2=>by
  simp [dA,aR6,ref,szl,n8]
 rw [eb];simp [dB,aJ,szl,aT,ref,ad,pD,p3,-List.append_assoc]
end K24

namespace K24
open PySem PySem.Spec PyProof.Rows L2 DL CI SJ
def aZ0 (k:Nat) (ws:List W):Prop:=∃ (x:PyData) (y:Nat),ws=[.d x,.d (.int y)]/\noP k x
open Classical in
noncomputable def lS:Nat->XF
 | k+16=>fun ws h=>if aZ0 k ws then some (.bool true,h) else none
 | _=>fun _ _=>none
def YLr (d:Nat):List W->XR W:=fun ws _ h=>(lS d ws h).bind fun p=>some (.d p.1,p.2)
@[simp] theorem cR6 (d:Nat):YLr d=fun ws _ h=>(lS d ws h).bind fun p=>some (.d p.1,p.2):=rfl
@[simp] def bC2 (d:Nat) (x:DSt) (x_2:aA):Option (Fl×aA) :=
 YP
 (YP
 (xb (xC1 CmpOp.Eq (xb (xb (aB 11) fun u=>xb (xb (Y2 (aB 0) (YJ 11)) (YF d "_law_cell_at")) (YO .Add u)) (YB .Mod 3)) (aB 10))
 (fun c =>
 if c=true then
 xb
 (xb (xb (Y2 (aB 12) (aB 10)) (YLr d)) YD)
 fun (b:Bool)=>aD !b
 else aD false)
 x x_2)
 (YT2 false x))
 YE
@[simp] def zC (d:Nat) (x:DSt) (x_1:aA):Option (Fl×aA) :=
 YP
 (YP
 (xb (xb (Y1 (aB 1)) (YF d "_law_bad"))
 (fun (u:W) (x:DSt) (h:aA) =>
 jK u h)
 x x_1)
 fun (p:(List PyData×Cw)×aA) =>
 aW (bK [YG 11,YG 12])
 (bC2 d)
 (Prod.snd p.1) (Prod.fst p.1) (Prod.fst p.1) x p.2)
 YE
def bO4 (d:Nat) (w0:W) (h:aA):mE T d "_law_refused" (lS d) "law" [w0] h =
 YP
 (YP (aS 1 (xb (Y2 (xb (Y2 (aB 0) (YJ 0)) (YF d "_law_cell_at")) (YJ 6)) (YF d "_law_problem")) [some w0,none,none,none,none,none,none,none,none,none,none,none,none] h) (YQ fun δ' p =>
 YP (aS 2 (xb (Y1 (aB 1)) (YF d "_law_nodes")) δ' p.2) (YQ fun δ' p =>
 YP
 (YP
 (aZ
 (xb (aB 0) fun (x:W) =>
 xb
 (xb (YJ 1) YU)
 fun (l:Option Int) =>
 xb
 (xb (YJ 11) YU)
 (YS3 x l))
 δ' p.2)
 fun (p:(List PyData×Cw)×aA) =>
 aW (YG 3)
 (jI d)
 (Prod.snd p.1) (Prod.fst p.1) (Prod.fst p.1) δ' p.2)
 (YQ fun δ' p =>
 YP
 (YP
 (xb (YJ 3)
 (YR)
 δ' p.2)
 fun (p:(List PyData×Cw)×aA) =>
 aW (YG 10)
 (zC d)
 (Prod.snd p.1) (Prod.fst p.1) (Prod.fst p.1) δ' p.2)
 (YQ fun δ' p =>
 YP
 (YP
 (xb (cT (xC1 CmpOp.Eq (xb (Y2 (aB 1) (YZ)) (YF d "stands_fault")) (xb (xPl (Y2 (YS "form") (YJ 0))) YT)))
 (fun (w:W) =>
 match w with
             | W.d (PyData.bool true)=>cT (xC1 CmpOp.Eq (xb (Y2 (aB 1) (YS "nodes")) (YF d "stands_fault")) (xb (xPl (Y2 (YS "form") (YJ 0))) YT))
             | W.d (PyData.bool false)=>aD (W.d (PyData.bool false))
             | x=>xno)
 δ' p.2)
 YW)
 YE)))))
 (aR h):=by kernel_rfl
end K24

namespace K24
open PySem PySem.Spec PyProof.Rows L2 DL CI SJ
def dL (S:List Int) (b:Pb) (ns:List aU) (x3 x4 x5 x6 x7 x8 x9 x10 x11 x12:Option W):DSt:=[some (.d (.list (S.map .int))),some (.d b.dat),some (.d (.list (ns.map ndD))),x3,x4,x5,x6,x7,x8,x9,x10,x11,x12]
def IL (S:List Int) (b:Pb) (ns:List aU) (δ:DSt):Prop:=∃ x3 x4 x5 x6 x7 x8 x9 x10 x11 x12,δ=dL S b ns x3 x4 x5 x6 x7 x8 x9 x10 x11 x12
def PF (z:PyData):Prop:=aN 64 z=true/\PyData.eqv z z=true
def PF.eq {z:PyData} (p:PF z) (h:aA):xEq (.d z) (.d z) h=some true:=by
 unfold xEq;simp only [ref];rw [p.1,p.2];rfl
def bO5 (b:Pb) (ns:List aU):PF (cX b ns):=by
 unfold cX;split
 ·cases e:(List.range' 0 ns.length).findSome? (flt b ns) with
  | none=>exact ⟨rfl,by simp [PyData.eqv]⟩
  | some z =>
   obtain ⟨k,_,ek⟩:=List.exists_of_findSome?_eq_some e;unfold flt at ek;split at ek
   ·cases ek;exact ⟨rfl,by simp [qQ,PyData.eqv,PyData.eqvAll]⟩
   ·cases en:nxt b ns (nd0 ns k) with
    | none=>rw [en] at ek;cases ek
    | some x=>rw [en] at ek;cases ek;exact ⟨rfl,by simp [iW,PyData.eqv,PyData.eqvAll]⟩
 ·exact ⟨rfl,by simp [PyData.eqv,PyData.eqvAll]⟩
def aR2 {b:Pb} {k:Nat} (hk:k < 15) (H:aA):∃ z,z∈fQ b/\xIx (.d (.list (fQ b))) (.d (.int k)) H=some (.d z,H):=by
 have h:k < (fQ b).length:=hk;refine ⟨(fQ b)[k],List.getElem_mem h,?_⟩;rw [aU6,eW (List.getElem?_eq_getElem h)];rfl
def aZ1 (d:Nat) (h:aA) {b:Pb} (hb:b.ok) (h6:b.its.length<=6) {ns:List aU} (nl:NL b 66 ns) (S:List Int) (c:Int) (x4 x5 x6 x7 x8 x9 x10 x11 x12:Option W) :
  ∃ δ2 h2,jI (d+18) (dL S b ns (some (.d (.int c))) x4 x5 x6 x7 x8 x9 x10 x11 x12) h=some (.nx δ2,h2)/\IL S b ns δ2:=by
 have hi:h.length < (h++[Cell.l []]).length:=by simp
 have as:∀ c,(h++[Cell.l []]).set h.length c=h++[c]:=fun c=>(yK h c _).symm;obtain ⟨n2,s1,nv,l2,e1⟩:=bN8 (d+16) (h++[Cell.l []]) (i:=h.length) (c:=.l [.int c]) (s:=st0 c) (.inr ⟨c,rfl,rfl⟩) hi h6 nl;rw [as,as] at e1;have e1:aE T (d+18) (Str.ofString "_law_bent") [.d (.list (ns.map ndD)),.c h.length,.d (.int b.its.length)] (h++[Cell.l [.int c]])=_:=e1;have e2:∀ H,aE T (d+18) (Str.ofString "_law_due") [.d b.dat,.d (.list (n2.map ndD))] H=some (cX b n2,H):=fun H=>cA5 (d+1) H hb h6 nv (by omega);have e3:∀ H,aE T (d+18) (Str.ofString "stands_fault") [.d b.dat,.d (.list (n2.map ndD))] H=some (cX b n2,H):=fun H=>uQ (d+3) H hb h6 nv (by omega) (.inl rfl);have e4:∀ H,aE T (d+18) (Str.ofString "stands_fault") [.d b.dat,.d (.tuple (n2.map ndD))] H=some (cX b n2,H):=fun H=>uQ (d+3) H hb h6 nv (by omega) (.inr rfl);have e5:∀ H,aE T (d+18) (Str.ofString "_law_bad_nodes") [.d b.dat,.d (sD b)] H=some (.list (fQ b),H):=fun H=>bN9 (d+17) H hb;have pf:=bO5 b n2;have eq1:=pf.eq;have ix0:∀ H,xIx (.d b.dat) (.d (.int 0)) H=some (.d (sD b),H):=fun H=>rfl;have ix1:∀ H,xIx (.d b.dat) (.d (.int 1)) H=some (.d (.tuple (b.its.map It.dat)),H):=fun H=>rfl;have dg:∀ (s:S3) (m:Nat),0 < m->m<=1000->∃ (k:Nat) (s':S3),k < m/\aE T (d+18) (Str.ofString "_law_digit") [.c h.length,.d (.int m)] (h++[stL s])=some (.int k,h++[stL s']):=fun s m h0 hm=>by
  have q:=cL (d+17) (h++[Cell.l []]) s m hi (by omega) (cJ (by omega) (by omega));obtain ⟨y,ey,hy⟩:=bD s (b:=m) (by omega);rw [ey,as,as] at q;exact ⟨y,_,by omega,q⟩
 obtain ⟨k,s2,hk,e6⟩:=dg s1 (n2.length+1) (by omega) (by omega);have e6:aE T (d+18) (Str.ofString "_law_digit") [.c h.length,.d (.int ((n2.length:Int)+1))] (h++[stL s1])=_:=e6;obtain ⟨j,s3,hj,e7⟩:=dg s2 15 (by omega) (by omega);have e7:aE T (d+18) (Str.ofString "_law_digit") [.c h.length,.d (.int 15)] (h++[stL s2])=_:=e7;obtain ⟨zb,mz,ez⟩:=aR2 (b:=b) hj (h++[stL s3]);have ec:∀ H,xSl (.d (.list (n2.map ndD))) none (some k) H=some (.d (.list ((n2.take k).map ndD)),H):=fun H=>by rw [CI.sl_l,mW ndD n2 (k:=k) (by omega)]
 have ed:∀ H,xSl (.d (.list (n2.map ndD))) (some k) none H=some (.d (.list ((n2.drop k).map ndD)),H):=fun H=>by rw [CI.sl_l,sY ndD n2 (k:=k) (by omega)]
 obtain ⟨zt,ezt⟩:∃ zt,zt=(n2.take k).map ndD:=⟨_,rfl⟩;obtain ⟨zr,ezr⟩:∃ zr,zr=(n2.drop k).map ndD:=⟨_,rfl⟩;rw [<- ezt] at ec;rw [<- ezr] at ed;have lt:zt.length=k:=by rw [ezt];simp;omega
 have lr:zr.length=n2.length - k:=by rw [ezr];simp
 have ad:∀ H,dA .Add (.d (.list zt)) (.d (.list [zb])) H=some (.d (.list (zt++[zb])),H):=fun H=>by
  have hz:zt.length+1<=16777216:=by omega
  show (if _<=_ then _ else _)=_;rw [if_pos (by rw [szl];exact hz)]
 have bl:∀ H,bJ [.d (.list (fQ b))] H=some (.d (.int 15),H):=fun H=>rfl;obtain ⟨zl,ezl⟩:∃ zl,zl=zt++[zb]:=⟨_,rfl⟩;rw [<- ezl] at ad;have lz:zl.length+zr.length<=16777216:=by rw [ezl];simp;omega
 refine sys (dL S b ns (some (.d (.int c))) (some (.c h.length)) x5 x6 x7 x8 x9 x10 x11 x12) (h++[Cell.l [.int c]]) (by simp [dL,bB,szl]) ?_;refine sys (dL S b ns (some (.d (.int c))) (some (.c h.length)) (some (.d (.list (n2.map ndD)))) x6 x7 x8 x9 x10 x11 x12) (h++[stL s1]) (by simp [dL,ix1,e1]) ?_;refine sys (dL S b ns (some (.d (.int c))) (some (.c h.length)) (some (.d (.list (n2.map ndD)))) (some (.d (cX b n2))) x7 x8 x9 x10 x11 x12) (h++[stL s1]) (by simp [dL,e2]) ?_;refine sys (dL S b ns (some (.d (.int c))) (some (.c h.length)) (some (.d (.list (n2.map ndD)))) (some (.d (cX b n2))) x7 x8 x9 x10 x11 x12) (h++[stL s1]) (by simp [dL,e3,e4,eq1,xC1,szl]) ?_;refine sys (dL S b ns (some (.d (.int c))) (some (.c h.length)) (some (.d (.list (n2.map ndD)))) (some (.d (cX b n2))) (some (.d (.list (fQ b)))) x8 x9 x10 x11 x12) (h++[stL s1]) (by simp [dL,ix0,e5]) ?_;refine sys (dL S b ns (some (.d (.int c))) (some (.c h.length)) (some (.d (.list (n2.map ndD)))) (some (.d (cX b n2))) (some (.d (.list (fQ b)))) (some (.d (.int k))) x9 x10 x11 x12) (h++[stL s2]) (by simp [dL,e6]) ?_;refine sys (dL S b ns (some (.d (.int c))) (some (.c h.length)) (some (.d (.list (n2.map ndD)))) (some (.d (cX b n2))) (some (.d (.list (fQ b)))) (some (.d (.int k))) (some (.c (h.length+1))) x10 x11 x12) (h++[stL s3,.l (zl++zr)]) (by simp [dL,bB,aJ,ec,ed,ez,e7,bl,ad,szl,ref,lz,-aU6,-CI.sl_l]) ?_;have dg2:∀ (s:S3) (zs:List PyData) (m:Nat),0 < m->m<=1000->∃ (k:Nat) (s':S3),k < m/\aE T (d+18) (Str.ofString "_law_digit") [.c h.length,.d (.int m)] (h++[stL s,.l zs])=some (.int k,h++[stL s',.l zs]):=fun s zs m h0 hm=>by
  have as2:∀ c,(h++[Cell.l [],.l zs]).set h.length c=h++[c,.l zs]:=fun c=>by simp
  have q:=cL (d+17) (h++[Cell.l [],.l zs]) (i:=h.length) s m (by simp) (by omega) (cJ (by omega) (by omega));obtain ⟨y,ey,hy⟩:=bD s (b:=m) (by omega);rw [ey,as2,as2] at q;exact ⟨y,_,by omega,q⟩
 have last:∀ (s':S3) (t:List PyData),(∀ z∈t,z∈fQ b)->aE T (d+18) (Str.ofString "stands_fault") [.d b.dat,.c (h.length+1)] (h++[stL s',.l (zl++zr++t)])=some (.tuple [.str (Str.ofString "form"),.int k],h++[stL s',.l (zl++zr++t)]):=fun s' t ht=>by
  refine aY8 (d+3) _ hb (zs:=zl++zr++t) (k:=k) (by simp) (fun z hz=>?_) (by rw [ezl];simp;omega) (fun i hi=>?_) ?_
  ·have nb:∀ v∈n2,NB b (ndD v):=fun v hv=>.inl ⟨v,nv v hv,rfl⟩;rw [ezl,ezt,ezr] at hz;rcases List.mem_append.mp hz with q | q
   ·rcases List.mem_append.mp q with q | q
    ·rcases List.mem_append.mp q with q | q
     ·obtain ⟨v,hv,rfl⟩:=List.mem_map.mp q;exact nb v (List.mem_of_mem_take hv)
     ·rw [List.mem_singleton.mp q];exact .inr mz
    ·obtain ⟨v,hv,rfl⟩:=List.mem_map.mp q;exact nb v (List.mem_of_mem_drop hv)
   ·exact .inr (ht z q)
  ·have hi2:i < n2.length:=by omega
   refine ⟨n2[i],nv _ (List.getElem_mem hi2),?_⟩;have e:(zl++zr++t)[i]?=some (ndD n2[i]):=by
    rw [ezl,List.append_assoc,List.append_assoc,List.getElem?_append_left (by omega),ezt,List.getElem?_map,List.getElem?_take_of_lt hi,List.getElem?_eq_getElem hi2];rfl
   rw [List.getD_eq_getElem?_getD,e];rfl
  ·have e:(zl++zr++t)[k]?=some zb:=by
    rw [ezl,List.append_assoc,List.append_assoc,List.getElem?_append_right (by omega),lt];simp
   rw [List.getD_eq_getElem?_getD,e];exact mz
 have eqf:∀ H,xEq (.d (.tuple [.str (Str.ofString "form"),.int k])) (.d (.tuple [.str (Str.ofString "form"),.int k])) H=some true:=PF.eq ⟨rfl,by simp [PyData.eqv,PyData.eqvAll]⟩;obtain ⟨k2,s4,hk2,e8⟩:=dg2 s3 (zl++zr) 2 (by omega) (by omega);have e8:aE T (d+18) (Str.ofString "_law_digit") [.c h.length,.d (.int 2)] (h++[stL s3,.l (zl++zr)])=_:=e8;obtain ⟨j2,s5,hj2,e9⟩:=dg2 s4 (zl++zr) 15 (by omega) (by omega);have e9:aE T (d+18) (Str.ofString "_law_digit") [.c h.length,.d (.int 15)] (h++[stL s4,.l (zl++zr)])=_:=e9;obtain ⟨zb2,mz2,ez2⟩:=aR2 (b:=b) hj2 (h++[stL s5,.l (zl++zr)]);have la:zl.length+zr.length < 16777216:=by rw [ezl];simp;omega
 by_cases c2:k2=1
 ·refine sys (dL S b ns (some (.d (.int c))) (some (.c h.length)) (some (.d (.list (n2.map ndD)))) (some (.d (cX b n2))) (some (.d (.list (fQ b)))) (some (.d (.int k))) (some (.c (h.length+1))) x10 x11 x12) (h++[stL s5,.l (zl++zr++[zb2])]) (by simp [dL,e8,c2,e9,ez2,bl,gJ,szl,la,-aU6]) ?_;have q:=last s5 [zb2] fun z hz=>by rw [List.mem_singleton.mp hz];exact mz2
  obtain ⟨H,eH⟩:∃ H,H=h++[stL s5,.l (zl++zr++[zb2])]:=⟨_,rfl⟩;rw [<- eH] at q ⊢;refine ⟨dL S b ns (some (.d (.int c))) (some (.c h.length)) (some (.d (.list (n2.map ndD)))) (some (.d (cX b n2))) (some (.d (.list (fQ b)))) (some (.d (.int k))) (some (.c (h.length+1))) x10 x11 x12,H,?_,_,_,_,_,_,_,_,_,_,_,rfl⟩;simp [dL,q,xC1,eqf,szl]
 ·have c2':¬ (k2:Int)=1:=by omega
  refine sys (dL S b ns (some (.d (.int c))) (some (.c h.length)) (some (.d (.list (n2.map ndD)))) (some (.d (cX b n2))) (some (.d (.list (fQ b)))) (some (.d (.int k))) (some (.c (h.length+1))) x10 x11 x12) (h++[stL s4,.l (zl++zr)]) (by simp [dL,e8,c2']) ?_;have q:=last s4 [] fun z hz=>nomatch hz
  rw [List.append_nil] at q;obtain ⟨H,eH⟩:∃ H,H=h++[stL s4,.l (zl++zr)]:=⟨_,rfl⟩;rw [<- eH] at q ⊢;refine ⟨dL S b ns (some (.d (.int c))) (some (.c h.length)) (some (.d (.list (n2.map ndD)))) (some (.d (cX b n2))) (some (.d (.list (fQ b)))) (some (.d (.int k))) (some (.c (h.length+1))) x10 x11 x12,H,?_,_,_,_,_,_,_,_,_,_,_,rfl⟩;simp [dL,q,xC1,eqf,szl]
end K24

namespace K24
open PySem PySem.Spec PyProof.Rows L2 DL CI SJ
def aZ2 (d:Nat) (S:List Int) (k:Nat):∃ c:Int,∀ h,aE T (d+1) "_law_cell_at" [.d (.list (S.map .int)),.d (.int k)] h=some (.int c,h):=by
 by_cases c:k < S.length
 ·refine ⟨S.getD k 0,fun h=>?_⟩;have e:=sK c;simp [fJ,c,e]
 ·refine ⟨0,fun h=>?_⟩;simp [fJ,c]
theorem zD:∀ (zs:List PyData) (k:Nat),∀ z∈enumF k zs,∃ (i:Int) (y:PyData),z=.tuple [.int i,y]/\y∈zs
 | [],k,z,h=>nomatch h
 | y::r,k,z,h=>by
  rcases List.mem_cons.mp h with rfl | h
  ·exact ⟨_,y,rfl,List.mem_cons_self⟩
  ·obtain ⟨i,x,e,hx⟩:=zD r (k+1) z h;exact ⟨i,x,e,List.mem_cons_of_mem _ hx⟩
def bO6 (d:Nat) (h:aA) {y:PyData} (hy:noP (d+2) y) (w:Nat):lS (d+18) [.d y,.d (.int w)] h=some (.bool true,h):=by
 have h1:aZ0 (d+2) [.d y,.d (.int w)]:=⟨y,w,rfl,hy⟩;show (open Classical in if aZ0 (d+2) [.d y,.d (.int w)] then some (PyData.bool true,h) else none)=_;rw [if_pos h1]
def cB7 (d:Nat) (h:aA) {b:Pb} (hb:b.ok) (h6:b.its.length<=6) {ns:List aU} (S:List Int) (w:Nat) (x3 x4 x5 x6 x7 x8 x9 x11 x12:Option W) :
  ∃ δ2,zC (d+18) (dL S b ns x3 x4 x5 x6 x7 x8 x9 (some (.d (.int w))) x11 x12) h=some (.nx δ2,h)/\IL S b ns δ2:=by
 have e1:aE T (d+18) (Str.ofString "_law_bad") [.d b.dat] h=some (.list (bdL b),h):=cB6 (d+17) h hb h6;have bd:=cB5 (d+2) hb h6;generalize bdL b=zs at e1 bd;obtain ⟨c,ec⟩:=aZ2 (d+17) S 11;have ec:∀ h,aE T (d+18) (Str.ofString "_law_cell_at") [.d (.list (S.map .int)),.d (.int 11)] h=some (.int c,h):=ec;have d3:bA 3=true:=by decide
 have kk:∀ (g:XG) (tb:XS) (all:List PyData),(∀ (i:Int) (y:PyData) x11 x12,g (.d (.tuple [.int i,y])) (dL S b ns x3 x4 x5 x6 x7 x8 x9 (some (.d (.int w))) x11 x12) h=some (dL S b ns x3 x4 x5 x6 x7 x8 x9 (some (.d (.int w))) (some (.d (.int i))) (some (.d y)),h)) ->
   (∀ (i:Int) (y:PyData),y∈zs->tb (dL S b ns x3 x4 x5 x6 x7 x8 x9 (some (.d (.int w))) (some (.d (.int i))) (some (.d y))) h=some (.nx (dL S b ns x3 x4 x5 x6 x7 x8 x9 (some (.d (.int w))) (some (.d (.int i))) (some (.d y))),h)) ->
   ∃ x11' x12',aW g tb none all (bF zs) (dL S b ns x3 x4 x5 x6 x7 x8 x9 (some (.d (.int w))) x11 x12) h=some (.nx (dL S b ns x3 x4 x5 x6 x7 x8 x9 (some (.d (.int w))) x11' x12'),h):=fun g tb all hg ht=>by
  obtain ⟨δ',h',e,x11',x12',rfl,rfl⟩:=lE (g:=g) (tb:=tb) (all:=all) (fun δ H=>∃ x11 x12,δ=dL S b ns x3 x4 x5 x6 x7 x8 x9 (some (.d (.int w))) x11 x12/\H=h) (bF zs) (fun z hz δ H=>by
   rintro ⟨x11,x12,rfl,rfl⟩;obtain ⟨i,y,rfl,hy⟩:=zD zs 0 z hz;exact ⟨_,_,hg i y x11 x12,_,_,ht i y hy,_,_,rfl,rfl⟩) _ _ ⟨x11,x12,rfl,rfl⟩
  exact ⟨x11',x12',e⟩
 unfold zC;have go:=kk (bK [YG 11,YG 12]) (bC2 (d+18)) (bF zs) (fun i y x11 x12=>by simp [dL,bK,tG]) (fun i y hy=>?_)
 ·obtain ⟨x11',x12',e⟩:=go;refine ⟨dL S b ns x3 x4 x5 x6 x7 x8 x9 (some (.d (.int w))) x11' x12',?_,_,_,_,_,_,_,_,_,_,_,rfl⟩;refine sq (.nx (dL S b ns x3 x4 x5 x6 x7 x8 x9 (some (.d (.int w))) x11' x12'),h) ?_ rfl;refine sq ((bF zs,none),h) (by simp [dL,e1,jK,jJ]) ?_;exact e
 ·have rf:=bO6 d h (bd y hy) w
  by_cases q:(i+c)%3=w
  ·simp [dL,ec,d3,rf,q,xC1]
  ·simp [dL,ec,d3,q,xC1]
def RT (x:Option (Fl×aA)):Prop:=∃ L,x=some (Fl.rt (.d (.bool true)),L)
def er1 {x:Option (Fl×aA)} {f:DSt->Fl×aA->Option (Fl×aA)} (δ:DSt) (H:aA) (e:x=some (.nx δ,H)) (k:RT (f δ (.nx δ,H))):RT (YP x (YQ f)):=by
 rw [e];exact k
def er2 {x:Option (Fl×aA)} {f:DSt->Fl×aA->Option (Fl×aA)} (P:DSt->Prop) (e:∃ δ H,x=some (.nx δ,H)/\P δ) (k:∀ δ H,P δ->RT (f δ (.nx δ,H))):RT (YP x (YQ f)):=by
 obtain ⟨δ,H,e,p⟩:=e;rw [e];exact k δ H p
def cP7 {x:Option (Fl×aA)} (e:RT x):∃ h',x.bind (aR [])=some (.bool true,h'):=by
 obtain ⟨L,e⟩:=e;have ok:okP [] L:=fun i c hi e'=>absurd hi (by simp);rw [e];simp [ok]
def bO7 (S:List Int) (d:Nat):∃ h',mE T (d+18) "_law_refused" (lS (d+18)) "law" [.d (.list (S.map .int))] []=some (.bool true,h'):=by
 have g0:aE T (d+18) (Str.ofString "_law_cell_at") [.d (.list (S.map .int)),.d (.int 0)] []=_:=aW2 (d+17) [] S;have hb:=bN0 (S.head?.getD 0) (m:=6) (by decide);have h6:(pbF (S.head?.getD 0) 6).its.length<=6:=by
  show (pI _ 6).length<=6;rw [wQ];exact aO8 _ 6
 have g1:aE T (d+18) (Str.ofString "_law_problem") [.d (.int (S.head?.getD 0)),.d (.int 6)] []=_:=aC5 (d+11) [] (S.head?.getD 0) (m:=6) (by decide);generalize pbF (S.head?.getD 0) 6=b at hb h6 g1;obtain ⟨ns,nl,g2⟩:=aQ1 (d+1) [] hb h6;have g2:aE T (d+18) (Str.ofString "_law_nodes") [.d b.dat] []=_:=g2;rw [bO4];refine cP7 ?_;refine er1 [some (.d (.list (S.map .int))),some (.d b.dat),none,none,none,none,none,none,none,none,none,none,none] [] (by simp [g0,g1]) ?_;refine er1 (dL S b ns none none none none none none none none none none) [] (by simp [dL,g2]) ?_;refine er2 (IL S b ns) ?_ ?_
 ·have hall:∀ z∈cut (S.map PyData.int) (some 1) (some 11),∃ c,z=.int c:=fun z hz=>by
   unfold cut at hz;obtain ⟨c,_,rfl⟩:=List.mem_map.mp (List.mem_of_mem_drop (List.mem_of_mem_take hz));exact ⟨c,rfl⟩
  obtain ⟨zs,ezs⟩:∃ zs,zs=cut (S.map PyData.int) (some 1) (some 11):=⟨_,rfl⟩;rw [<- ezs] at hall;have e1:∀ H,xSl (.d (.list (S.map .int))) (some 1) (some 11) H=some (.d (.list zs),H):=fun H=>by rw [ezs];rfl
  obtain ⟨δ',h',e,i⟩:=lE (g:=YG 3) (tb:=jI (d+18)) (all:=zs) (fun δ H=>IL S b ns δ) zs (fun z hz δ H=>by
   rintro ⟨x3,x4,x5,x6,x7,x8,x9,x10,x11,x12,rfl⟩;obtain ⟨c,rfl⟩:=hall z hz;obtain ⟨δ2,h2,e,i⟩:=aZ1 d H hb h6 nl S c x4 x5 x6 x7 x8 x9 x10 x11 x12;exact ⟨_,H,rfl,δ2,h2,e,i⟩) (dL S b ns none none none none none none none none none none) [] ⟨_,_,_,_,_,_,_,_,_,_,rfl⟩
  refine ⟨δ',h',?_,i⟩;refine sq ((zs,none),[]) (by simp [dL,aZ,ezs]) ?_;exact e
 ·intro δ H i;refine er2 (IL S b ns) ?_ ?_
  ·have er:fN 0 3=true:=bO (by omega) (by omega);obtain ⟨δ',h',e,i⟩:=lE (g:=YG 10) (tb:=zC (d+18)) (all:=rng 0 3) (fun δ H=>IL S b ns δ) (rng 0 3) (fun z hz δ H=>by
    rintro ⟨x3,x4,x5,x6,x7,x8,x9,x10,x11,x12,rfl⟩;obtain ⟨w,rfl⟩:∃ w:Nat,z=.int w:=by
     have hz:z∈[PyData.int (0:Nat),.int (1:Nat),.int (2:Nat)]:=hz;simp only [List.mem_cons,List.not_mem_nil,or_false] at hz;rcases hz with rfl | rfl | rfl<;>exact ⟨_,rfl⟩
    obtain ⟨δ2,e,i⟩:=cB7 d H hb h6 (ns:=ns) S w x3 x4 x5 x6 x7 x8 x9 x11 x12;exact ⟨_,H,rfl,δ2,H,e,i⟩) δ H i
   refine ⟨δ',h',?_,i⟩;obtain ⟨x3,x4,x5,x6,x7,x8,x9,x10,x11,x12,rfl⟩:=i;refine sq ((rng 0 3,none),H) (by simp [er]) ?_;exact e
  ·rintro _ H ⟨x3,x4,x5,x6,x7,x8,x9,x10,x11,x12,rfl⟩;have f1:aE T (d+18) (Str.ofString "stands_fault") [.d b.dat,.d .none] H=some (.tuple [.str (Str.ofString "form"),.int 0],H):=qR (d+3) H hb (z:=.none) ⟨rfl,rfl⟩;have f2:aE T (d+18) (Str.ofString "stands_fault") [.d b.dat,.d (.str (Str.ofString "nodes"))] H=some (.tuple [.str (Str.ofString "form"),.int 0],H):=qR (d+3) H hb (z:=.str (Str.ofString "nodes")) ⟨rfl,rfl⟩;have eqf:∀ H,xEq (.d (.tuple [.str (Str.ofString "form"),.int 0])) (.d (.tuple [.str (Str.ofString "form"),.int 0])) H=some true:=PF.eq ⟨rfl,by simp [PyData.eqv,PyData.eqvAll]⟩;exact ⟨H,by simp [dL,f1,f2,xC1,eqf,szl]⟩
end K24

namespace K24
open PySem PySem.Spec PyProof.Rows L2 DL CI SJ
def top (k:Nat):Stmt:=PySem.Challenge.pw_storejudge_k24_the_fault_of_a_list.main.body.getD k (.Pass ⟨0,0,0,0⟩)
abbrev sC:Stmt:=top 48
abbrev sW:Stmt:=top 49
abbrev sN:Stmt:=top 57
abbrev sH:Stmt:=top 59
abbrev sE:Stmt:=top 63
abbrev sR:Stmt:=top 84
abbrev bmV:List Value:=[.type "ValueError",.type "Exception",.type "BaseException",.type "object"]
structure Er (S:Sx) (C:Addr):Prop where
 O:OwnCls "NoProblem" C bmV "ValueError.__new__" S.mg S.base
 mC:S.mg "NoProblem"=some (.ref C)
 hJ:PySem.W.exmOne S.K (.ref C) (.ref C)=some true
def noQ (k:Nat) (x:PyData):Prop:=∀ h,aE T k "is_problem" [.d x] h=some (.bool false,h)
def cB8 (k:Nat) (ws:List W) (_:aA):Prop:=∃ x,ws=[.d x]/\noQ k x
def bO8 (k:Nat) (ws:List W) (_:aA):Prop:=∃ x w,ws=[.d x,w]/\noQ k x
def qS {S:Sx} {st:Stmt} {q:Str} {L f:Addr} {cd:Value} {A:Around} {κ:Kp} {M:Mp} {δ:DSt} (F:Fra (cxF S st q L f cd A) κ M δ):∃ l,(cxF S st q L f cd A).A.frames=some ((cxF S st q L f cd A).env::l):=by
 obtain ⟨l,e,_⟩:=F.frs;have e:(A.deeper (cxF S st q L f cd A).env).frames=some l:=e;cases h:A.frames with
 | none=>simp [Around.deeper,h] at e
 | some l'=>exact ⟨l',show (A.deeper (cxF S st q L f cd A).env).frames=_ by simp [Around.deeper,h]⟩
def bO9 {K:PySem.W.Frag} {h:Heap} {x:Str} {C:Addr} {mg:Str->Option Value} {bmB:List Value} {newId:String} (X:K.In h) (hm:mg x=some (.ref C)) (q:PySem.W.excIn K C bmB newId=true):OwnCls x C bmB newId mg h:=by
 refine ⟨hm,?_⟩;unfold PySem.W.excIn at q;split at q
 ·rename_i d0 c0 s0 lk;split at q
  ·rename_i D tl r0 r1 r2 r3 ni r5 em es;obtain ⟨q5,q6⟩:=Bool.and_eq_true_iff.mp q;obtain ⟨q4,q7⟩:=Bool.and_eq_true_iff.mp q5;obtain ⟨q3,q8⟩:=Bool.and_eq_true_iff.mp q4;obtain ⟨q2,q9⟩:=Bool.and_eq_true_iff.mp q3;obtain ⟨q1,q0⟩:=Bool.and_eq_true_iff.mp q2;have e1:D=C:=eq_of_beq q1;have e2:ni=newId:=eq_of_beq q0;subst e1 e2;obtain ⟨v1,v2,v3,v4,v5,v6,v7,v8,v9,v10,v11⟩:=c0;simp only [Bool.not_eq_true'] at q9;dsimp only at em q7 q6 q9;subst em q9;have e3:s0=#[r0,r1,r2,r3,some (.builtin ni),r5]:=by
    obtain ⟨ll⟩:=s0;dsimp only at es;rw [es]
   subst e3;exact ⟨tl,v4,v1,v5,v2,v6,v7,v8,v9,v10,d0,r0,r1,r2,r3,r5,_,X _ _ lk,.of_isNs (PySem.W.isNs_of_in X q7),PySem.W.nsMap_none_of_in X q7 (eq_of_beq q6),PySem.W.tail_of_in X q8⟩
  ·cases q
 ·cases q
def bC:∃ p1 p2 p3 p4 p5 p6 p7 p8 p9,aX sC=[.If (.UnaryOp .Not (.Call (.Name "is_problem" p1) [.Name "problem" p2] [] p3) p4) [.Raise (some (.Call (.Name "NoProblem" p5) [.Constant (.str "this is no problem") 0 p6] [] p7)) none p8] [] p9]:=⟨_,_,_,_,_,_,_,_,_,rfl⟩
def bW:∃ p1 p2 p3 p4 r,aX sW=.Expr (.Call (.Name "check_problem" p1) [.Name "problem" p2] [] p3) p4::r:=⟨_,_,_,_,_,rfl⟩
def bN:∃ p1 p2 p3 p4 p5 p6 p7 r,aX sN=.Return (some (.Call (.Name "nodes_fault" p1) [.Call (.Name "ways_of" p2) [.Name "problem" p3] [] p4,.Name "nodes" p5] [] p6)) p7::r:=⟨_,_,_,_,_,_,_,_,rfl⟩
def bH:∃ p1 p2 p3 p4 p5 p6 p7 r,aX sH=.Return (some (.Call (.Name "searched" p1) [.Call (.Name "ways_of" p2) [.Name "problem" p3] [] p4,.Name "most" p5] [] p6)) p7::r:=⟨_,_,_,_,_,_,_,_,rfl⟩
def bE:∃ p0 p1 p2 p3 p4 p5 p6 p7 r,aX sE=.Assign [.Name "found" p0] (.Call (.Name "rows_to_ends" p1) [.Call (.Name "ways_of" p2) [.Name "problem" p3] [] p4,.Name "most" p5] [] p6) p7::r:=⟨_,_,_,_,_,_,_,_,_,rfl⟩
def bRf:∃ a1 a2 a3 p1 p2 p3 p4 p5 p6 p7 p8 p9 q1 q2 q3 q4 q5 q6 q7 q8 q9 r1 r2 r3 r4 r5 r6 r7 t1 t2 t3 t4 t5 t6,aX sR=[.Assign [.Name "_law_found" a1] (.Constant (.bool false) 0 a2) a3,
 .Try [.If (.Compare (.Name "_law_way" p1) [.Eq] [.Constant (.int 0) 0 p2] p3) [.Expr (.Call (.Name "stands_fault" p4) [.Name "_law_thing" p5,.List [] p6] [] p7) p8]
  [.If (.Compare (.Name "_law_way" q1) [.Eq] [.Constant (.int 1) 0 q2] q3) [.Expr (.Call (.Name "search" q4) [.Name "_law_thing" q5,.Constant (.int 5) 0 q6] [] q7) q8]
   [.Expr (.Call (.Name "ends" r4) [.Name "_law_thing" r5,.Constant (.int 5) 0 r6] [] r7) r1] q9] p9]
  [.ExceptHandler (some (.Name "NoProblem" t1)) none [.Assign [.Name "_law_found" t2] (.Constant (.bool true) 0 t3) t4] t5] [] [] t6,
 .Return (some (.Name "_law_found" r2)) r3]:=⟨_,_,_,_,_,_,_,_,_,_,_,_,_,_,_,_,_,_,_,_,_,_,_,_,_,_,_,_,_,_,_,_,_,_,rfl⟩
def dC:T.defs "check_problem"=some sC:=by kernel_rfl
def dW:T.defs "ways_of"=some sW:=by kernel_rfl
def dNf:T.defs "stands_fault"=some sN:=by kernel_rfl
def dH:T.defs "search"=some sH:=by kernel_rfl
def dE:T.defs "ends"=some sE:=by kernel_rfl
def dR:T.defs "_law_refused"=some sR:=by kernel_rfl
def d1:T.defs "nodes_fault"=some (top 58):=by kernel_rfl
def d2:T.defs "searched"=some (top 60):=by kernel_rfl
def d3:T.defs "rows_to_ends"=some (top 64):=by kernel_rfl
section
variable {S:Sx} {C:Addr} {k:Nat} (TT:TopOk T S) (XE:Er S C)
abbrev stA (d:Nat) (x:Str) (s:Stmt):Sta:=T.sta (fnT T fun y=>aE T d y) (obT T (fun y=>callW T d y) (fun y=>callI T d y) fun y=>callM T d y) x s
include TT XE
def aR3 {f:Addr} {fd:FuncData} (F:Fun S.K "check_problem" "check_problem" sC f fd):FnR S (k+1) f fd (parsOf sC) C (cB8 k):=by
 refine iF F (by kernel_rfl) (fun ws h ⟨x,e,_⟩=>by subst e;kernel_rfl) fun {A κ M h s L cd ws} hr hp R Fr=>?_;obtain ⟨x,rfl,hx⟩:=hp;obtain ⟨l,hA⟩:=qS Fr;have G:=gK (st:=sC) (q:="check_problem") (L:=L) (f:=f) (cd:=cd) (x:="check_problem") TT (gL TT k) hr (fun _ z=>nomatch z);obtain ⟨p1,p2,p3,p4,p5,p6,p7,p8,p9,eb⟩:=bC;rw [eb];refine cN (bX0 (cQ 60) G R Fr (b:=true) (h1:=h) ?_ fun R1 F1=>?_)
 ·have e:(evs 60).T (stA k "check_problem" sC) (.UnaryOp .Not (.Call (.Name "is_problem" p1) [.Name "problem" p2] [] p3) p4) (dI (bY sC) [.d x]) h=xb (xb (xb (Y1 (aB 0)) (YF k "is_problem")) YD) (fun (b:Bool)=>aD !b) [some (.d x)] h:=by kernel_rfl
  refine e.trans ?_;simp [hx h]
 ·refine cN (aK2 (ws:=[.d (.str "this is no problem")]) XE.O PySem.F.excBase_ValueError (cD (cQ 60) G _) G.rm.hd (by decide) (show Env.kindOf _ _=_ by kernel_rfl) hA (by kernel_rfl) R1 F1 (by kernel_rfl) (by decide))
def aZ3 {f:Addr} {fd:FuncData} (F:Fun S.K "ways_of" "ways_of" sW f fd):FnR S (k+2) f fd (parsOf sW) C (cB8 k):=by
 refine iF F (by kernel_rfl) (fun ws h ⟨x,e,_⟩=>by subst e;kernel_rfl) fun {A κ M h s L cd ws} hr hp R Fr=>?_;obtain ⟨x,rfl,hx⟩:=hp;obtain ⟨l,hA⟩:=qS Fr;have G:=gK (st:=sW) (q:="ways_of") (L:=L) (f:=f) (cd:=cd) (x:="ways_of") TT (gL TT (k+1)) hr (fun _ z=>nomatch z);obtain ⟨p1,p2,p3,p4,r,eb⟩:=bW;obtain ⟨fc,fdc,Fc,mc,bc⟩:=TT.defs _ _ dC;rw [eb];exact cN (mS Fr (dO rfl _ _ _) (wpAny_mono (jY (aR3 TT XE Fc) G.rm mc Fc.kp bc (cD (cQ 60) G _) (by decide) (show Env.kindOf _ _=_ by kernel_rfl) hA (by kernel_rfl) R Fr (show _=some ([.d x],h) by kernel_rfl) ⟨x,rfl,hx⟩) (fun _ _ z=>z) fun _ _ z=>z.rz Fr))
def bP0 {g y:Str} {κ:Kp} {M:Mp} {h:aA} {s:Shared} {δ:DSt} {x:PyData} {st:Sta} {X:Cx} {fg:Addr} {fdg:FuncData} {sg:Stmt} {l:List Env} {p1 p2 p3 p4 p5 p6:Pos} (hS:X.S=S) (G:Good X st (k+2)) (R:Mem X.S κ M h s) (Fr:Fra X κ M δ) (hA:X.A.frames=some (X.env::l)) (hx:noQ k x) (e1:aV (evs 60) st [.Name "problem" p3] δ h=some ([.d x],h))
  (Fg:Fun S.K g g sg fg fdg) (mg:S.mg g=some (.ref fg)) (hn:cG g=true) (hg:Gl X g) (hw:Gl X "ways_of"):Wp X.S X.A (eval (.Call (.Name g p1) [.Call (.Name "ways_of" p2) [.Name "problem" p3] [] p4,.Name y p5] [] p6) X.env) (fun _ _=>False) (Rz X κ M h C) s:=by
 subst hS;obtain ⟨fw,fdw,Fw,mw,bw⟩:=TT.defs _ _ dW;exact bJ5 mg Fg.kp hn hg rfl R Fr (wpAny_mono (jY (aZ3 TT XE Fw) G.rm mw Fw.kp bw (cD (cQ 60) G _) (by decide) hw hA rfl R Fr e1 ⟨x,rfl,hx⟩) (fun _ _ z=>z) fun _ _ z=>z.rz Fr)
def cB9 {f:Addr} {fd:FuncData} (F:Fun S.K "stands_fault" "stands_fault" sN f fd):FnR S (k+3) f fd (parsOf sN) C (bO8 k):=by
 refine iF F (by kernel_rfl) (fun ws h ⟨x,w,e,_⟩=>by subst e;kernel_rfl) fun {A κ M h s L cd ws} hr hp R Fr=>?_;obtain ⟨x,w,rfl,hx⟩:=hp;obtain ⟨l,hA⟩:=qS Fr;have G:=gK (st:=sN) (q:="stands_fault") (L:=L) (f:=f) (cd:=cd) (x:="stands_fault") TT (gL TT (k+2)) hr (fun _ z=>nomatch z);obtain ⟨p1,p2,p3,p4,p5,p6,p7,r,eb⟩:=bN;obtain ⟨fg,fdg,Fg,mg,_⟩:=TT.defs _ _ d1;rw [eb];exact cN (aK3 (bP0 TT XE rfl G R Fr hA hx (by kernel_rfl) Fg mg (by decide) (show Env.kindOf _ _=_ by kernel_rfl) (show Env.kindOf _ _=_ by kernel_rfl)))
def cC0 {f:Addr} {fd:FuncData} (F:Fun S.K "search" "search" sH f fd):FnR S (k+3) f fd (parsOf sH) C (bO8 k):=by
 refine iF F (by kernel_rfl) (fun ws h ⟨x,w,e,_⟩=>by subst e;kernel_rfl) fun {A κ M h s L cd ws} hr hp R Fr=>?_;obtain ⟨x,w,rfl,hx⟩:=hp;obtain ⟨l,hA⟩:=qS Fr;have G:=gK (st:=sH) (q:="search") (L:=L) (f:=f) (cd:=cd) (x:="search") TT (gL TT (k+2)) hr (fun _ z=>nomatch z);obtain ⟨p1,p2,p3,p4,p5,p6,p7,r,eb⟩:=bH;obtain ⟨fg,fdg,Fg,mg,_⟩:=TT.defs _ _ d2;rw [eb];exact cN (aK3 (bP0 TT XE rfl G R Fr hA hx (by kernel_rfl) Fg mg (by decide) (show Env.kindOf _ _=_ by kernel_rfl) (show Env.kindOf _ _=_ by kernel_rfl)))
def cC1 {f:Addr} {fd:FuncData} (F:Fun S.K "ends" "ends" sE f fd):FnR S (k+3) f fd (parsOf sE) C (bO8 k):=by
 refine iF F (by kernel_rfl) (fun ws h ⟨x,w,e,_⟩=>by subst e;kernel_rfl) fun {A κ M h s L cd ws} hr hp R Fr=>?_;obtain ⟨x,w,rfl,hx⟩:=hp;obtain ⟨l,hA⟩:=qS Fr;have G:=gK (st:=sE) (q:="ends") (L:=L) (f:=f) (cd:=cd) (x:="ends") TT (gL TT (k+2)) hr (fun _ z=>nomatch z);obtain ⟨p0,p1,p2,p3,p4,p5,p6,p7,r,eb⟩:=bE;obtain ⟨fg,fdg,Fg,mg,_⟩:=TT.defs _ _ d3;rw [eb];exact cN (bJ6 (dO rfl _ _ _) (bP0 TT XE rfl G R Fr hA hx (by kernel_rfl) Fg mg (by decide) (show Env.kindOf _ _=_ by kernel_rfl) (show Env.kindOf _ _=_ by kernel_rfl)))
def bP1 {k:Nat} {f:Addr} {fd:FuncData} (F:Fun S.K "_law_refused" "_law_refused" sR f fd):FnS S (k+16) f fd (parsOf sR) (toW (lS (k+16))):=by
 have hR:∀ ws h w h',toW (lS (k+16)) ws h=some (w,h')->aZ0 k ws/\w=.d (.bool true)/\h=h':=fun ws h w h' e=>by
  obtain ⟨⟨z,h2⟩,e0,e⟩:=bind_some e;cases e;unfold lS at e0;dsimp only at e0;split at e0
  ·rename_i hp;cases e0;exact ⟨hp,rfl,rfl⟩
  ·cases e0
 refine bX1 F (by kernel_rfl) (fun ws h ⟨w,h'⟩ e=>by obtain ⟨⟨x,y,rfl,_⟩,_⟩:=hR _ _ _ _ e;kernel_rfl) fun {A κ M h h' s L cd ws w} hr e R Fr=>?_;obtain ⟨⟨x,y,rfl,hx⟩,rfl,rfl⟩:=hR _ _ _ _ e;have hx:noQ (k+12) x:=hx;have G:=gK (st:=sR) (q:="_law_refused") (L:=L) (f:=f) (cd:=cd) (x:="_law_refused") TT (gL TT (k+15)) hr (fun _ z=>nomatch z);obtain ⟨a1,a2,a3,p1,p2,p3,p4,p5,p6,p7,p8,p9,q1,q2,q3,q4,q5,q6,q7,q8,q9,r1,r2,r3,r4,r5,r6,r7,t1,t2,t3,t4,t5,t6,eb⟩:=bRf;rw [eb];obtain ⟨X,hX⟩:∃ X,X=cxF S sR "_law_refused" L f cd A:=⟨_,rfl⟩;have g1:Gl (cxF S sR "_law_refused" L f cd A) "stands_fault":=show Env.kindOf _ _=_ by kernel_rfl
 have g2:Gl (cxF S sR "_law_refused" L f cd A) "search":=show Env.kindOf _ _=_ by kernel_rfl
 have g3:Gl (cxF S sR "_law_refused" L f cd A) "ends":=show Env.kindOf _ _=_ by kernel_rfl
 have g4:Gl (cxF S sR "_law_refused" L f cd A) "NoProblem":=show Env.kindOf _ _=_ by kernel_rfl
 refine wpAny_execs_cons (wpAny_mono ((cQ 60).S G _ R Fr (show _=some (.nx [some (.d x),some (.d (.int y)),some (.d (.bool false))],h) by kernel_rfl)) (fun fl s1 ⟨κ1,M1,o1,l1,R1,q⟩=>?_) fun _ _ z=>z.elim);cases fl with
 | next =>
  have F1:Fra (cxF S sR "_law_refused" L f cd A) κ1 M1 [some (.d x),some (.d (.int y)),some (.d (.bool false))]:=q;obtain ⟨l,hA⟩:=qS F1;refine aK5 (bJ7 (C:=C) (CJ:=C) (h':=h) F1 ?_ XE.mC XE.hJ (by decide) g4 rfl fun {M2 s2 ea} l2 R2 F2=>?_)
  ·obtain ⟨f1,fd1,E1,m1,b1⟩:=TT.defs _ _ dNf;obtain ⟨f2,fd2,E2,m2,b2⟩:=TT.defs _ _ dH;obtain ⟨f3,fd3,E3,m3,b3⟩:=TT.defs _ _ dE;refine cN (bA6 (cQ 60) G R1 F1 (b:=decide ((y:Int)=0)) (h1:=h) (by kernel_rfl) fun R3 F3=>?_)
   by_cases c0:(y:Int)=0
   ·rw [if_pos (decide_eq_true c0)];exact cN (mS F3 (dO rfl _ _ _) (jY (cB9 TT XE E1) G.rm m1 E1.kp b1 (cD (cQ 60) G _) (by decide) g1 hA rfl R3 F3 (show _=some ([.d x,.d (.list [])],h) by kernel_rfl) ⟨x,_,rfl,hx⟩))
   rw [if_neg (by simpa using c0)];refine cN (bA6 (cQ 60) G R3 F3 (b:=decide ((y:Int)=1)) (h1:=h) (by kernel_rfl) fun R4 F4=>?_)
   by_cases c1:(y:Int)=1
   ·rw [if_pos (decide_eq_true c1)];exact cN (mS F4 (dO rfl _ _ _) (jY (cC0 TT XE E2) G.rm m2 E2.kp b2 (cD (cQ 60) G _) (by decide) g2 hA rfl R4 F4 (show _=some ([.d x,.d (.int 5)],h) by kernel_rfl) ⟨x,_,rfl,hx⟩))
   rw [if_neg (by simpa using c1)];exact cN (mS F4 (dO rfl _ _ _) (jY (cC1 TT XE E3) G.rm m3 E3.kp b3 (cD (cQ 60) G _) (by decide) g3 hA rfl R4 F4 (show _=some ([.d x,.d (.int 5)],h) by kernel_rfl) ⟨x,_,rfl,hx⟩))
  ·refine wpAny_mono (bJ8 (i:=2) G F2 R2 (by kernel_rfl) (by kernel_rfl) (dO rfl _ _ _)) (fun fl s3 ⟨e3,κ3,o3,R3,F3⟩=>⟨e3,?_⟩) fun _ _ z=>z;refine wpAny_execs_cons (wpAny_mono ((cQ 60).S G _ R3 F3 (show _=some (.rt (.d (.bool true)),h) by kernel_rfl)) (fun fl s4 ⟨κ4,M4,o4,l4,R4,q⟩=>?_) fun _ _ z=>z.elim);cases fl with
   | ret u=>exact ⟨u,κ4,M4,rfl,o1.trans (o3.trans o4),l1.trans (l2.trans l4),R4,q⟩
   | _=>exact q.elim
 | _=>exact q.elim
def bP2 {k:Nat}:FnG S (k+16) "_law_refused" (toW (lS (k+16))):=by
 obtain ⟨f,fd,F,mf,bf⟩:=TT.defs _ _ dR;exact .inr ⟨f,fd,_,mf,F.kp,bf,bP1 TT XE F⟩
end
end K24

namespace K24
open PySem PySem.Spec PyProof.Rows L2 DL CI
abbrev s_0:Stmt:=top 1
abbrev s_1:Stmt:=top 2
abbrev s_2:Stmt:=top 3
abbrev s_3:Stmt:=top 4
abbrev s_4:Stmt:=top 5
abbrev s_5:Stmt:=top 10
abbrev s_6:Stmt:=top 11
abbrev s_7:Stmt:=top 12
abbrev s_8:Stmt:=top 13
abbrev s_9:Stmt:=top 14
abbrev cC2:Stmt:=top 15
abbrev cC3:Stmt:=top 16
abbrev cC4:Stmt:=top 17
abbrev cC5:Stmt:=top 18
abbrev cC6:Stmt:=top 19
abbrev cC7:Stmt:=top 20
abbrev cC8:Stmt:=top 21
abbrev cC9:Stmt:=top 22
abbrev cD0:Stmt:=top 28
abbrev cD1:Stmt:=top 29
abbrev cD2:Stmt:=top 30
abbrev cD3:Stmt:=top 31
abbrev cD4:Stmt:=top 32
abbrev cD5:Stmt:=top 33
abbrev cD6:Stmt:=top 39
abbrev cD7:Stmt:=top 40
abbrev cD8:Stmt:=top 41
abbrev cD9:Stmt:=top 42
abbrev cE0:Stmt:=top 43
abbrev cE1:Stmt:=top 44
abbrev cE2:Stmt:=top 45
abbrev cE3:Stmt:=top 47
abbrev cE4:Stmt:=top 48
abbrev cE5:Stmt:=top 49
abbrev cE6:Stmt:=top 50
abbrev cE7:Stmt:=top 51
abbrev cE8:Stmt:=top 53
abbrev cE9:Stmt:=top 54
abbrev cF0:Stmt:=top 55
abbrev cF1:Stmt:=top 56
abbrev cF2:Stmt:=top 57
abbrev cF3:Stmt:=top 58
abbrev cF4:Stmt:=top 59
abbrev cF5:Stmt:=top 60
abbrev cF6:Stmt:=top 61
abbrev cF7:Stmt:=top 62
abbrev cF8:Stmt:=top 63
abbrev cF9:Stmt:=top 64
abbrev cG0:Stmt:=top 65
abbrev cG1:Stmt:=top 67
abbrev cG2:Stmt:=top 68
abbrev cG3:Stmt:=top 69
abbrev cG4:Stmt:=top 70
abbrev cG5:Stmt:=top 71
abbrev cG6:Stmt:=top 72
abbrev cG7:Stmt:=top 73
abbrev cG8:Stmt:=top 74
abbrev cG9:Stmt:=top 75
abbrev cH0:Stmt:=top 76
abbrev cH1:Stmt:=top 77
abbrev cH2:Stmt:=top 78
abbrev cH3:Stmt:=top 79
abbrev cH4:Stmt:=top 80
abbrev cH5:Stmt:=top 81
abbrev cH6:Stmt:=top 82
abbrev cH7:Stmt:=top 83
abbrev cH8:Stmt:=top 84
abbrev uR:Stmt:=top 85
def cH9:gcl body=([(Str.ofString "LAST_KEY",PyData.int 7),(Str.ofString "MOST_PARTS",PyData.int 4),(Str.ofString "FIRST",PyData.tuple [PyData.int 0,PyData.int 0,PyData.int 0,PyData.int 0,PyData.int 0,PyData.int 0,PyData.int 0,PyData.int 0]),(Str.ofString "WORDS",PyData.tuple [PyData.str (Str.ofString "must"),PyData.str (Str.ofString "may"),PyData.str (Str.ofString "out")]),(Str.ofString "MOST_ITEMS",PyData.int 120),(Str.ofString "MOST_PAIRS",PyData.int 4000),(Str.ofString "MOST_TRIPLES",PyData.int 4000)]:List (Str×PyData)):=by kernel_rfl
def cI0:tkl body=([(Str.ofString "NUMBERS_BEHIND",[(Str.ofString "read",0),(Str.ofString "write",1),(Str.ofString "add",1),(Str.ofString "swap",2)])]:List (Str×List (Str×Int))):=by kernel_rfl
abbrev DFL:List (Str×Stmt):=[(Str.ofString "is_whole",s_0),(Str.ofString "is_between",s_1),(Str.ofString "is_tuple_of",s_2),(Str.ofString "are_whole",s_3),(Str.ofString "are_rising",s_4),(Str.ofString "is_key",s_5),(Str.ofString "word_of",s_6),(Str.ofString "is_worded",s_7),(Str.ofString "is_single",s_8),(Str.ofString "is_span",s_9),(Str.ofString "is_deal",cC2),(Str.ofString "is_call",cC3),(Str.ofString "is_look",cC4),(Str.ofString "is_value_pair",cC5),(Str.ofString "is_lay",cC6),(Str.ofString "is_step",cC7),(Str.ofString "is_answer",cC8),(Str.ofString "is_own_answer",cC9),(Str.ofString "is_stand",cD0),(Str.ofString "with_value",cD1),(Str.ofString "done",cD2),(Str.ofString "single_done",cD3),(Str.ofString "deal_done",cD4),(Str.ofString "laid",cD5),(Str.ofString "is_item",cD6),(Str.ofString "are_items",cD7),(Str.ofString "are_numbers",cD8),(Str.ofString "are_unlike",cD9),(Str.ofString "are_pairs",cE0),(Str.ofString "are_triples",cE1),(Str.ofString "is_problem",cE2),(Str.ofString "marked",cE3),(Str.ofString "check_problem",cE4),(Str.ofString "ways_of",cE5),(Str.ofString "may_come",cE6),(Str.ofString "behind",cE7),(Str.ofString "is_node",cE8),(Str.ofString "first_node",cE9),(Str.ofString "is_last",cF0),(Str.ofString "nodes_behind",cF1),(Str.ofString "stands_fault",cF2),(Str.ofString "nodes_fault",cF3),(Str.ofString "search",cF4),(Str.ofString "searched",cF5),(Str.ofString "waiting",cF6),(Str.ofString "urgency",cF7),(Str.ofString "ends",cF8),(Str.ofString "rows_to_ends",cF9),(Str.ofString "way_to",cG0),(Str.ofString "_law_cell_at",cG1),(Str.ofString "_law_digit",cG2),(Str.ofString "_law_value",cG3),(Str.ofString "_law_plain_call",cG4),(Str.ofString "_law_step",cG5),(Str.ofString "_law_altered",cG6),(Str.ofString "_law_items",cG7),(Str.ofString "_law_pairs",cG8),(Str.ofString "_law_triples",cG9),(Str.ofString "_law_problem",cH0),(Str.ofString "_law_nexts",cH1),(Str.ofString "_law_whole_row",cH2),(Str.ofString "_law_nodes",cH3),(Str.ofString "_law_due",cH4),(Str.ofString "_law_bent",cH5),(Str.ofString "_law_bad_nodes",cH6),(Str.ofString "_law_bad",cH7),(Str.ofString "_law_refused",cH8),(Str.ofString "law",uR)]
def cI1:dfl body=DFL:=by kernel_rfl
def clsB:List Stmt:=match top 46 with
 | .ClassDef _ _ _ b _ _ _ _ _ _ _=>b
 | _=>[]
abbrev sI:Stmt:=clsB.getD 0 (.Pass ⟨0,0,0,0⟩)
abbrev sM0:Stmt:=clsB.getD 3 (.Pass ⟨0,0,0,0⟩)
abbrev sM1:Stmt:=clsB.getD 1 (.Pass ⟨0,0,0,0⟩)
abbrev sM2:Stmt:=clsB.getD 2 (.Pass ⟨0,0,0,0⟩)
abbrev sM3:Stmt:=clsB.getD 4 (.Pass ⟨0,0,0,0⟩)
def mI:methOf "__init__"=some sI:=by kernel_rfl
def mM0:methOf "stand_behind"=some sM0:=by kernel_rfl
def mM1:methOf "may_follow"=some sM1:=by kernel_rfl
def mM2:methOf "followers"=some sM2:=by kernel_rfl
def mM3:methOf "missing"=some sM3:=by kernel_rfl
def aZ4:T.defs "law"=some uR:=by kernel_rfl
def cI2:parsOf uR=([Str.ofString "_law_script"]:List Str):=by kernel_rfl
def bC3 {x:Str} {C:Addr} {s:Stmt} (h:T.mt x=some (C,s)):C=280/\((x="stand_behind"/\s=sM0)\/(x="may_follow"/\s=sM1)\/(x="followers"/\s=sM2)\/(x="missing"/\s=sM3)):=by
 have h:mt x=some (C,s):=h;unfold mt at h;split at h
 ·rename_i e;try rw [e] at h
  rw [mM0] at h;cases h;exact ⟨rfl,.inl ⟨e,rfl⟩⟩
 split at h
 ·rename_i e;try rw [e] at h
  rw [mM1] at h;cases h;exact ⟨rfl,.inr (.inl ⟨e,rfl⟩)⟩
 split at h
 ·rename_i e;try rw [e] at h
  rw [mM2] at h;cases h;exact ⟨rfl,.inr (.inr (.inl ⟨e,rfl⟩))⟩
 split at h
 ·rename_i e;try rw [e] at h
  rw [mM3] at h;cases h;exact ⟨rfl,.inr (.inr (.inr (⟨e,rfl⟩)))⟩
 cases h
def all_mk {l:PySem.W.OpenLaw} {w:World} {os:OsState} {K:PySem.W.Frag} {h:Heap} {mg:Str->Option Value} {fa:Addr} (X:K.In h) (G:h.Ns mainGlobals mg) (hfa:mg "law"=some (.ref fa))
  (a0:FI K "is_whole" s_0)
  (a1:FI K "is_between" s_1)
  (a2:FI K "is_tuple_of" s_2)
  (a3:FI K "are_whole" s_3)
  (a4:FI K "are_rising" s_4)
  (a5:FI K "is_key" s_5)
  (a6:FI K "word_of" s_6)
  (a7:FI K "is_worded" s_7)
  (a8:FI K "is_single" s_8)
  (a9:FI K "is_span" s_9)
  (a10:FI K "is_deal" cC2)
  (a11:FI K "is_call" cC3)
  (a12:FI K "is_look" cC4)
  (a13:FI K "is_value_pair" cC5)
  (a14:FI K "is_lay" cC6)
  (a15:FI K "is_step" cC7)
  (a16:FI K "is_answer" cC8)
  (a17:FI K "is_own_answer" cC9)
  (a18:FI K "is_stand" cD0)
  (a19:FI K "with_value" cD1)
  (a20:FI K "done" cD2)
  (a21:FI K "single_done" cD3)
  (a22:FI K "deal_done" cD4)
  (a23:FI K "laid" cD5)
  (a24:FI K "is_item" cD6)
  (a25:FI K "are_items" cD7)
  (a26:FI K "are_numbers" cD8)
  (a27:FI K "are_unlike" cD9)
  (a28:FI K "are_pairs" cE0)
  (a29:FI K "are_triples" cE1)
  (a30:FI K "is_problem" cE2)
  (a31:FI K "marked" cE3)
  (a32:FI K "check_problem" cE4)
  (a33:FI K "ways_of" cE5)
  (a34:FI K "may_come" cE6)
  (a35:FI K "behind" cE7)
  (a36:FI K "is_node" cE8)
  (a37:FI K "first_node" cE9)
  (a38:FI K "is_last" cF0)
  (a39:FI K "nodes_behind" cF1)
  (a40:FI K "stands_fault" cF2)
  (a41:FI K "nodes_fault" cF3)
  (a42:FI K "search" cF4)
  (a43:FI K "searched" cF5)
  (a44:FI K "waiting" cF6)
  (a45:FI K "urgency" cF7)
  (a46:FI K "ends" cF8)
  (a47:FI K "rows_to_ends" cF9)
  (a48:FI K "way_to" cG0)
  (a49:FI K "_law_cell_at" cG1)
  (a50:FI K "_law_digit" cG2)
  (a51:FI K "_law_value" cG3)
  (a52:FI K "_law_plain_call" cG4)
  (a53:FI K "_law_step" cG5)
  (a54:FI K "_law_altered" cG6)
  (a55:FI K "_law_items" cG7)
  (a56:FI K "_law_pairs" cG8)
  (a57:FI K "_law_triples" cG9)
  (a58:FI K "_law_problem" cH0)
  (a59:FI K "_law_nexts" cH1)
  (a60:FI K "_law_whole_row" cH2)
  (a61:FI K "_law_nodes" cH3)
  (a62:FI K "_law_due" cH4)
  (a63:FI K "_law_bent" cH5)
  (a64:FI K "_law_bad_nodes" cH6)
  (a65:FI K "_law_bad" cH7)
  (a66:FI K "_law_refused" cH8)
  (a67:FI K "law" uR)
  {tg0:Tok} (cg0:PySem.W.nsIn K mainGlobals "LAST_KEY"=some (some (.int 7 tg0)))
  {tg1:Tok} (cg1:PySem.W.nsIn K mainGlobals "MOST_PARTS"=some (some (.int 4 tg1)))
  {q2:Addr} {nq2:Nat} {tq2_0 tq2_1 tq2_2 tq2_3 tq2_4 tq2_5 tq2_6 tq2_7:Tok} (aQ2:PySem.W.nsIn K mainGlobals "FIRST"=some (some (.ref q2))) (lQ2:K.lookup q2=some ⟨.type "tuple",none,.seq #[.int 0 tq2_0,.int 0 tq2_1,.int 0 tq2_2,.int 0 tq2_3,.int 0 tq2_4,.int 0 tq2_5,.int 0 tq2_6,.int 0 tq2_7] nq2,#[]⟩)
  {q3:Addr} {nq3:Nat} {tq3_0 tq3_1 tq3_2:Tok} (aQ3:PySem.W.nsIn K mainGlobals "WORDS"=some (some (.ref q3))) (lQ3:K.lookup q3=some ⟨.type "tuple",none,.seq #[.str "must" tq3_0,.str "may" tq3_1,.str "out" tq3_2] nq3,#[]⟩)
  {tg4:Tok} (cg4:PySem.W.nsIn K mainGlobals "MOST_ITEMS"=some (some (.int 120 tg4)))
  {tg5:Tok} (cg5:PySem.W.nsIn K mainGlobals "MOST_PAIRS"=some (some (.int 4000 tg5)))
  {tg6:Tok} (cg6:PySem.W.nsIn K mainGlobals "MOST_TRIPLES"=some (some (.int 4000 tg6)))
  {p0:Addr} {n0:Nat} {hh0_0 hh0_1 hh0_2 hh0_3:Int} {tk0_0 tv0_0 tk0_1 tv0_1 tk0_2 tv0_2 tk0_3 tv0_3:Tok} (aT0:PySem.W.nsIn K mainGlobals "NUMBERS_BEHIND"=some (some (.ref p0))) (lT0:K.lookup p0=some ⟨.type "dict",none,.dict #[⟨hh0_0,.str "read" tk0_0,.int 0 tv0_0⟩,⟨hh0_1,.str "write" tk0_1,.int 1 tv0_1⟩,⟨hh0_2,.str "add" tk0_2,.int 1 tv0_2⟩,⟨hh0_3,.str "swap" tk0_3,.int 2 tv0_3⟩] n0,#[]⟩) (kT0:PySem.W.KeysLit w.params [⟨hh0_0,.str "read" tk0_0,.int 0 tv0_0⟩,⟨hh0_1,.str "write" tk0_1,.int 1 tv0_1⟩,⟨hh0_2,.str "add" tk0_2,.int 1 tv0_2⟩,⟨hh0_3,.str "swap" tk0_3,.int 2 tv0_3⟩]) (sT0:(p0==sysModules)=false)
  (m0:FM K 280 "__init__" "Ways.__init__" sI)
  (m1:FM K 280 "stand_behind" "Ways.stand_behind" sM0)
  (m2:FM K 280 "may_follow" "Ways.may_follow" sM1)
  (m3:FM K 280 "followers" "Ways.followers" sM2)
  (m4:FM K 280 "missing" "Ways.missing" sM3)
  (cW:PySem.W.nsIn K mainGlobals "Ways"=some (some (.ref 280))) (mkW:PySem.W.makesIn K 280=true) (kpW:PySem.W.keepIn K (.ref 280)=true) (clW:Cls K 280) (noW:∀ f∈(["first","listed","musts","ahead","later","gaps"]:List Str),PySem.W.findIn K (.ref 280) f=some none)
  {C:Addr} (aC:PySem.W.nsIn K mainGlobals "NoProblem"=some (some (.ref C))) (qX:PySem.W.excIn K C bmV "ValueError.__new__"=true) (hJ:PySem.W.exmOne K (.ref C) (.ref C)=some true)
  (zb:∀ b∈blAll,PySem.W.nsIn K mainGlobals b=some none) :
  ∃ fd:FuncData,(∀ (s:Shared) (v:Value),BindsTo s fd ⟨[v],[]⟩ [("_law_script",v)])/\FnS ⟨l.prog,w,K,mg,h,os,#[],0⟩ 19 fa fd ["_law_script"] (toW (mE T 18 "_law_refused" (lS 18) "law")):=by
 have aL:=a67;obtain ⟨f67,od67,an67,sl67,oc67,kV67,dc67,pm67,cd67,ct67,b67,l67,c67,kk67⟩:=aL;have e:=hfa.symm.trans (PySem.W.mg_of X G b67);cases e;have F67:=vV (st:=uR) l67 c67 kk67;refine ⟨PySem.W.fnOf "law" "law" (cP uR) (aX uR) (defScope uR) .none kV67 dc67 pm67 an67 cd67 ct67,fun s v=>.of_eq rfl,?_⟩;have TT:TopOk T ⟨l.prog,w,K,mg,h,os,#[],0⟩:=by
  refine ⟨fun x hx=>?_,fun x z hz=>?_,fun x f hf=>?_,fun x s hs=>?_,fun x C s hs=>?_,fun x C s hs=>?_,fun C f hf=>?_,fun x q hs=>?_⟩
  ·have hx:blAll.contains x=true:=hx;rw [List.contains_iff_mem] at hx;exact PySem.W.mg_none_of X G (zb x hx)
  ·have hm:=bI8 (show bI5 body x=some z from hz);rw [cH9] at hm;simp only [List.mem_cons,List.not_mem_nil,or_false,Prod.mk.injEq] at hm;rcases hm with ⟨rfl,rfl⟩ | ⟨rfl,rfl⟩ | ⟨rfl,rfl⟩ | ⟨rfl,rfl⟩ | ⟨rfl,rfl⟩ | ⟨rfl,rfl⟩ | ⟨rfl,rfl⟩
   ·exact ⟨_,PySem.W.mg_of X G cg0,rep_i.mpr ⟨tg0,rfl⟩⟩
   ·exact ⟨_,PySem.W.mg_of X G cg1,rep_i.mpr ⟨tg1,rfl⟩⟩
   ·exact ⟨_,PySem.W.mg_of X G aQ2,bJ1 (ws:=[0,0,0,0,0,0,0,0]) X lQ2 (.cons ⟨_,rfl⟩ (.cons ⟨_,rfl⟩ (.cons ⟨_,rfl⟩ (.cons ⟨_,rfl⟩ (.cons ⟨_,rfl⟩ (.cons ⟨_,rfl⟩ (.cons ⟨_,rfl⟩ (.cons ⟨_,rfl⟩ .nil)))))))) (show 8<=16777216 by decide)⟩
   ·exact ⟨_,PySem.W.mg_of X G aQ3,bJ2 (ws:=["must","may","out"]) X lQ3 (.cons ⟨⟨_,rfl⟩,by decide +kernel⟩ (.cons ⟨⟨_,rfl⟩,by decide +kernel⟩ (.cons ⟨⟨_,rfl⟩,by decide +kernel⟩ .nil))) (show 3<=16777216 by decide)⟩
   ·exact ⟨_,PySem.W.mg_of X G cg4,rep_i.mpr ⟨tg4,rfl⟩⟩
   ·exact ⟨_,PySem.W.mg_of X G cg5,rep_i.mpr ⟨tg5,rfl⟩⟩
   ·exact ⟨_,PySem.W.mg_of X G cg6,rep_i.mpr ⟨tg6,rfl⟩⟩
  ·obtain ⟨t,hm,rfl⟩:=bI9 (show bI7 body x=some f from hf);rw [cI0] at hm;simp only [List.mem_cons,List.not_mem_nil,or_false,Prod.mk.injEq] at hm;rcases hm with ⟨rfl,rfl⟩
   ·refine ⟨p0,PySem.W.mg_of X G aT0,⟨⟨_,n0,lT0,kT0,fun y i hy=>?_,fun y hy=>?_⟩,sT0⟩⟩
    ·repeat rw [tV]
     simp only [List.lookup] at hy
     repeat (first | (split at hy;(rename_i q;rw [if_pos (eq_of_beq q).symm];cases hy;exact ⟨_,rfl⟩);(rename_i q;rw [if_neg (fun z=>(beq_eq_false_iff_ne.mp q) z.symm)])) | cases hy)
    ·repeat rw [tV]
     simp only [List.lookup] at hy
     repeat (split at hy;(cases hy);(rename_i q;rw [if_neg (fun z=>(beq_eq_false_iff_ne.mp q) z.symm)]))
     rfl
  ·have hm:=bJ0 (show vU body x=some s from hs);rw [cI1] at hm;have key:∀ p∈DFL,FR K mg p.1 p.2:=by
    repeat (refine cL3 (P:=FR K mg) ?_ ?_;(first | exact FI.ok1 (by assumption) X G (by kernel_rfl) (fun _=>fun _ _ _ _ _ _=>rfl) | exact FI.ok2 (by assumption) X G (by kernel_rfl) (fun _ _=>fun _ _ _ _ _ _=>rfl) | exact FI.ok3 (by assumption) X G (by kernel_rfl) (fun _ _ _=>fun _ _ _ _ _ _=>rfl)))
    exact cL2
   exact key _ hm
  ·have h:(if x="Ways" then (methOf "__init__").map fun s=>((280:Addr),s) else none)=some (C,s):=hs;rw [mI] at h;split at h
   ·rename_i e;cases h;subst e;obtain ⟨f,fd,F,M,B⟩:=m0.ok2 (x:="self") (y:="problem") (by kernel_rfl) fun _ _ _ _ _ _ _ _=>rfl;exact ⟨_,_,f,fd,F,⟨mkW,M.at_,M.fn,kpW⟩,PySem.W.mg_of X G cW,B⟩
   ·cases h
  ·refine ⟨?_,?_⟩
   ·obtain ⟨e,_⟩:=bC3 hs;rw [e];exact clW
   ·obtain ⟨e,hm⟩:=bC3 hs;subst e;rcases hm with ⟨rfl,rfl⟩ | ⟨rfl,rfl⟩ | ⟨rfl,rfl⟩ | ⟨rfl,rfl⟩
    ·obtain ⟨f,fd,F,M,B⟩:=m1.ok3 (x:="self") (y:="stand") (z:="x") (by kernel_rfl) fun _ _ _ _ _ _ _ _ _=>rfl;exact ⟨_,_,f,fd,F,M,B⟩
    ·obtain ⟨f,fd,F,M,B⟩:=m2.ok3 (x:="self") (y:="placed") (z:="x") (by kernel_rfl) fun _ _ _ _ _ _ _ _ _=>rfl;exact ⟨_,_,f,fd,F,M,B⟩
    ·obtain ⟨f,fd,F,M,B⟩:=m3.ok2 (x:="self") (y:="placed") (by kernel_rfl) fun _ _ _ _ _ _ _ _=>rfl;exact ⟨_,_,f,fd,F,M,B⟩
    ·obtain ⟨f,fd,F,M,B⟩:=m4.ok2 (x:="self") (y:="placed") (by kernel_rfl) fun _ _ _ _ _ _ _ _=>rfl;exact ⟨_,_,f,fd,F,M,B⟩
  ·have h:(decide (C=280)&&(["first","listed","musts","ahead","later","gaps"]:List Str).contains f)=true:=hf;rw [Bool.and_eq_true,decide_eq_true_eq,List.contains_iff_mem] at h;obtain ⟨rfl,h⟩:=h;exact ⟨clW,noW f h⟩
  ·have h:(none:Option (Str×Pos))=some q:=hs;cases h
 have XE:Er ⟨l.prog,w,K,mg,h,os,#[],0⟩ C:=⟨bO9 X (PySem.W.mg_of X G aC) qX,PySem.W.mg_of X G aC,hJ⟩;have q:=aU4 (k:=18) (m:=lS 18) TT aZ4 F67 (bP2 (k:=2) TT XE);rw [cI2] at q;exact q
def walk {l:PySem.W.OpenLaw} {q:Program} {loose:List Str} {XP:(Str->Option Value)->Heap->Prop} {YP:World->Heap->Prop} {d:DefRec} {K:Params->PySem.W.Frag} (hn:l.most=some 63) (hdf:d.params.defaults=[])
  (hY:∀ (w:World) (h:Heap),YP w h->(K w.params).In h)
  (F:∀ (w:World) (mg:Str->Option Value) (fa:Addr) (h:Heap) (os:OsState),(K w.params).In h->h.Ns mainGlobals mg->mg d.name=some (.ref fa) ->
   ∃ fd:FuncData,(∀ (s:Shared) (u:Value),BindsTo s fd ⟨[u],[]⟩ [("_law_script",u)])/\FnS ⟨l.prog,w,K w.params,mg,h,os,#[],0⟩ 19 fa fd ["_law_script"] (toW (mE T 18 "_law_refused" (lS 18) "law"))) :
  PySem.W.WalkO q loose XP YP l.row.toRowW d [] (fun f vs=>PySem.call f vs) :=
 aU3 (n:=63) (k:=19) (x:="_law_script") (m:=mE T 18 "_law_refused" (lS 18) "law") hn (by decide) hdf ⟨rfl,by decide,by decide⟩ hY F fun ns _=>bO7 ns 0
end K24

open PySem PySem.W PyProof.Rows
theorem PySem.Challenge.cw_storejudge_k24_the_fault_of_a_list_holds : PySem.Challenge.rw_storejudge_k24_the_fault_of_a_list.Holds := by
 refine hd ?_
 k_fill
 refine K24.walk (l:=PySem.Challenge.rw_storejudge_k24_the_fault_of_a_list) rfl rfl (fun w h Y=>PySem.W.km_in_of Y) ?F
 case F =>
  intro w mg fa h os KX G hmg;refine' K24.all_mk KX G hmg ?a0 ?a1 ?a2 ?a3 ?a4 ?a5 ?a6 ?a7 ?a8 ?a9 ?a10 ?a11 ?a12 ?a13 ?a14 ?a15 ?a16 ?a17 ?a18 ?a19 ?a20 ?a21 ?a22 ?a23 ?a24 ?a25 ?a26 ?a27 ?a28 ?a29 ?a30 ?a31 ?a32 ?a33 ?a34 ?a35 ?a36 ?a37 ?a38 ?a39 ?a40 ?a41 ?a42 ?a43 ?a44 ?a45 ?a46 ?a47 ?a48 ?a49 ?a50 ?a51 ?a52 ?a53 ?a54 ?a55 ?a56 ?a57 ?a58 ?a59 ?a60 ?a61 ?a62 ?a63 ?a64 ?a65 ?a66 ?a67 ?cg0 ?cg1 ?aQ2 ?lQ2 ?aQ3 ?lQ3 ?cg4 ?cg5 ?cg6 ?aT0 ?lT0 ?kT0 ?sT0 ?m0 ?m1 ?m2 ?m3 ?m4 ?cW ?mkW ?kpW ?clW ?noW ?aC ?qX ?hJ ?zb
  all_goals try (refine' CI.fi_mk ?a ?l ?c ?k;(case a=>k_is);(case l=>k_is);(case c=>k_is);(case k=>k_is))
  (case cg0=>k_is)
  (case cg1=>k_is)
  (case aQ2=>k_is);(case lQ2=>k_is)
  (case aQ3=>k_is);(case lQ3=>k_is)
  (case cg4=>k_is)
  (case cg5=>k_is)
  (case cg6=>k_is)
  (case aT0=>k_is);(case lT0=>k_is);(case kT0=>k_keys);(case sT0=>first | rfl | decide | k_is)
  (case m0=>refine' CI.fm_mk (f:=253) ?a ?i ?l ?c ?k;(case a=>kernel_rfl);(case i=>kernel_rfl);(case l=>k_is);(case c=>k_is);(case k=>k_is))
  (case m1=>refine' CI.fm_mk (f:=272) ?a ?i ?l ?c ?k;(case a=>kernel_rfl);(case i=>kernel_rfl);(case l=>k_is);(case c=>k_is);(case k=>k_is))
  (case m2=>refine' CI.fm_mk (f:=260) ?a ?i ?l ?c ?k;(case a=>kernel_rfl);(case i=>kernel_rfl);(case l=>k_is);(case c=>k_is);(case k=>k_is))
  (case m3=>refine' CI.fm_mk (f:=265) ?a ?i ?l ?c ?k;(case a=>kernel_rfl);(case i=>kernel_rfl);(case l=>k_is);(case c=>k_is);(case k=>k_is))
  (case m4=>refine' CI.fm_mk (f:=277) ?a ?i ?l ?c ?k;(case a=>kernel_rfl);(case i=>kernel_rfl);(case l=>k_is);(case c=>k_is);(case k=>k_is))
  (case cW=>k_is);(case mkW=>kernel_rfl);(case kpW=>k_is);(case clW=>exact ⟨by kernel_rfl,by kernel_rfl,by kernel_rfl,by kernel_rfl⟩)
  (case noW=>intro f hf;simp only [List.mem_cons,List.not_mem_nil,or_false] at hf;rcases hf with rfl | rfl | rfl | rfl | rfl | rfl<;>kernel_rfl)
  (case aC=>k_is);(case qX=>k_exc);(case hJ=>kts_exm)
  (case zb=>intro b hb;simp only [CI.blAll,List.mem_cons,List.not_mem_nil,or_false] at hb;rcases hb with rfl | rfl | rfl | rfl | rfl | rfl | rfl | rfl | rfl | rfl | rfl | rfl | rfl | rfl | rfl | rfl | rfl | rfl | rfl | rfl<;>k_is)
