import PyProof.Rows.All
import Wide.All
import OpenK.AllK
import Wide.FinOn
import Lean
import PyProof.EqAt
import PyProof.EqKinds
import PyProof.TupleCall
import PyProof.TupleKey
import PyProof.Rows.TupTab
import PyProof.ListRange
import PyProof.Conv_int_bool
import PyProof.SetRoads
import PyProof.Rows.SetFrom
import PyProof.WalksMore
import KE.KLam
import KE.KNestM
import PyProof.DictWalks
import KE.KDictList
import PyProof.Rows.SortShell
import KE.KRevSl
import PyProof.ZipIter
import PyProof.EnumIter
import PyProof.EnumFor
import PyProof.EnumStmt
import KE.KSortTup
import PyProof.EqLayable
import PyProof.TupleOfSeq
import PySem.Challenge.RW_storejudge_k26_whole_closed_lists_hold
set_option genInjectivity false
set_option compiler.extract_closed false
set_option bootstrap.genMatcherCode false
set_option genSizeOf false
section
open PySem PySem.W PyProof.Rows
set_option Elab.async false
set_option maxRecDepth 100000
set_option maxHeartbeats 0
structure PySem.W.Fast:Prop where
 (tw12043601559966384358 tw861502493610598483 tw1277184138009114285 tw7774113678449685934 tw16430232756884227355 tw2342662150080004651 tw11954087425409555486 tw3636596134837014001 tw17426987436379436081 tw10390936311373634846 tw13284263994228856263 tw3998647374267775353 tw3365755272349913518 tw9496870631314116199 tw9757595895972200118 tw17710873009340938204 tw18150448366888777194 tw9368122197164973604 tw8448305426059154538 tw17590705303994421779 tw2407462832516094465 tw8997383693586321770 tw9615563845995560447 tw9592521066531166775 tw15621415185263527259 tw7374399212775623666 tw5725222548895626118 tw140001813534094272 tw8498532028676091811 tw209982475168477708 tw18262670878535919901 tw2567597102152627588 tw3303267245142563540 tw5323657890516693427 tw2259672571474061568 tw11481637867367846703 tw9630203353718772412 tw11429584451438056573 tw13462424878891718212 tw14963028359598502718 tw18146532975450069615 tw18157406047293677543 tw9331231397406362311 tw16217903435359918192 tw4483904966330829159 tw1835071406663858368 tw11513857634932158529 tw15925456577456769635 tw5002640475654186023 tw18031968618487185184 tw12917704675397863716 tw890339118813698166 tw17318462890700432884 tw6690350156832105676 tw3520257249291928256 tw10295913840692754127 tw3215387988796971590 tw7212858340449540239 tw17339309145561079191 tw4436474186459923750 tw7086961617601330827 tw14961746396406840608 tw17170472223608059050 tw16108870410212019532 tw5622701340561072331 tw9646623106273453227 tw13385558918117058561 tw13135312941875745310 tw5101696844757716304 tw5467331546851215429 tw16873086082458093902 tw8331849164307833061 tw6162269159774324313 tw8285278889055680438 tw15240619367488684849 tw247591363613054380 tw8080008513338510535 tw3238445694619138142 tw2827255003249426055 tw15541240446876304647 tw7921390202802761869 tw3300257896294614128 tw2931988195819169919 tw8318101203651539667 tw8186657734068701312 tw15227483606004533461 tw15685335758407661847 tw9689729476882780088 tw17435391645217708394 tw9947508896943372755 tw14022695629967993375 tw12297992134047619483 tw5362036446546632119 tw10551173667578312727 tw6822071536725586909 tw11373181179767321252 tw10698057553749749337 tw8222940686941784037 tw13674586047789940208 tw16203965252921439515 tw8157277791214410489 tw14424681132571578402 tw12431713363859531893 tw12727641955093265886 tw8733291241859026926 tw5344687154915797982 tw14226173905949225808 tw14243238205550065757 tw14958820412457663293 tw17013487888433625170 tw6278996535519779258 tw866717566613908145 tw772564365185477556 tw11898673842065290130 tw8422229294311615681 tw4635989785427082552 tw16864618592142003386 tw1717767836212652739 tw13437419889732721216 tw740290905518256060 tw4884199854448574 tw3721919958574915784 tw15235614512728720 tw12954591660760965231 tw11907897558876765624 tw13622603851894308203 tw1725486776273817318 tw6170744672141170255 tw12099505692703838030 tw14993981098963755598 tw6472337539984862722 tw6549852094080907030 tw5217270863462422736 tw3985964047577975286 tw5000232492035539693 tw10510056951384868246 tw896239598344801917 tw4039707410889071942 tw4490611911172417597 tw5832305185047221409 tw3308634892276815127 tw11024694936033576346 tw2694234056635809718 tw10842938092177581297 tw10826640976665885199 tw15401437161963490237 tw14842496431369740429 tw615563214671542189 tw10258873121960336067 tw18328257000508772394 tw13547939009206843870 tw2295934692909999376 tw1864683662541468164 tw10792498714594961201 tw523537741815420091 tw8949853181751564097 tw3235425350174046738 tw16140922888777852060 tw18293242582946804979 tw855453113358079251 tw384561282630992784 tw16919654943277366748 tw2358075552688931204 tw1207101557538958131 tw17691633702590694504 tw2144661209622563809 tw6128106870883400570 tw3919386906821981792 tw17613222154834848340 tw539538531456391632 tw13810262117814702294 tw12903330217458380548 tw17260811203177919210 tw12652081859355081885 tw15402603294489630176 tw4562827626845409882 tw726351398001015727 tw14404928986312190071 tw7046044490832178742 tw8565224436197482051 tw15831126876759372255 tw14074196154385387334 tw6105849179199505303 tw2080317491765294665 tw13855379610559885079 tw14592624751514493413 tw14664691819916384248 tw1000662321505670351 tw11153475782318119604 tw8535803893964050539 tw2353497105660221152 tw9461873434466728008 tw2340837018749705212 tw5072417060200589145 tw16756451883985382160 tw13160504802963445071 tw2595585439558603231 tw3681537716864247207 tw15895094517606616290 tw17334828202450815106 tw4804111812005502284 tw819570635367399668 tw12330612334027959195 tw7322748291113730364 tw14611616552423853409 tw9919008367099125623 tw15554417296805563061 tw8760152093665844161 tw14904681115217272601 tw16053306600634468012 tw13769103115541136327 tw16226643914720891334 tw6030501089693204938 tw6858818405166986180 tw7933485763601977624 tw5444512763150141072 tw8159993647027272844 tw2400638427578300857 tw16721508838639397229 tw14261769069557060686 tw256976265262469064 tw1142673529048489019 tw11502921971960690029 tw10988312798546598065 tw17267597263503486738 tw6798380500665416597 tw12843764043397292189 tw17483705464198625004 tw11066385474520676512 tw15166322114958858414 tw14703100239697439463 tw4849480874435393781 tw5872530126848033075 tw6248682570935725439 tw2646887283097553488 tw9806118890596472461 tw547895379624588593 tw15861351967447197489 tw6607644564249050058 tw8297923619242306668 tw3953844824629472508 tw16682895059504647277 tw1708089923452030704 tw18367749455379333440 tw16409965706819354750 tw16822532161544500889 tw8219003486749837733 tw7943549864190904611 tw1950803216711332702 tw9387514328989991554 tw2314633323536394700 tw12887044766017154078 tw8972062959192195235 tw14219159868682941630 tw2403389108928632939 tw12740759652641322565 tw1383625962624193546 tw7867829370405329436 tw13946496683202179788 tw2576523973992343609 tw10876078143196172821 tw2692750590507578028 tw2941924889016668590 tw13421457143807847188 tw1293241653719404408 tw5890639436620234070 tw6056707288978253535 tw16279288168775177219 tw1825952489489211193 tw5537553045615171315 tw3778530596728393105 tw11662115353561507501 tw14689541978594310382 tw3543459598558145280 tw9784134513789038367 tw938635154573522699 tw3049343062529576306 tw10624116801336726872 tw13053770412826190925 tw4015202173357781934 tw14727194681476072466 tw17678831435119133177 tw9860861378791804195 tw15779231459743154856 tw2261719852989239553 tw14520296925931582552 tw18101783494082082527 tw4953865588907285216 tw1599053048872161195 tw16728255500844073214 tw12770481643036789091 tw14172470266813156586 tw8926787621470276720 tw643336161829623379 tw10374632558016547081 tw10741264400317747893 tw12768989823518198380 tw8737599933303070863 tw14935467056822913822 tw12269216009862288129 tw8002303944043701648 tw3300454383303005205 tw17760279517084355780 tw2950685276103557050 tw11161164713144168021 tw11401859456886640639 tw11766667032028208565 tw3419001889969749887 tw2570914705882880060 tw6420159726195949164 tw11266997524610791606 tw6953138203311097117 tw9536688357841153863 tw12459912946257978736 tw4171853373547519906:True)
open_top hd for PySem.Challenge.rw_storejudge_k26_whole_closed_lists_hold
end
noncomputable section
theorem ZR0 (h:True:=by rfl):True:=h
def ZR:Lean.Syntax:=ZR0._auto_1
theorem ZD0 (h:True:=by decide):True:=h
def ZD:Lean.Syntax:=ZD0._auto_1
theorem ZI0 (h:True:=by intro _;rfl):True:=h
def ZI:Lean.Syntax:=ZI0._auto_1
theorem ZW0 (h:True:=by with_unfolding_all rfl):True:=h
def ZW:Lean.Syntax:=ZW0._auto_1
set_option Elab.async false
set_option linter.all false
set_option maxRecDepth 100000
set_option maxHeartbeats 4000000
namespace L2
open PySem PySem.Spec PyProof.Rows

abbrev Key:=Sum Int Str
noncomputable def pC:Key->Value->Bool
 | .inl k,v=>Value.isInt k v
 | .inr x,v=>Value.isStrOf x v
noncomputable def cN7 (w:World):Key->Int
 | .inl k=>hashInt k
 | .inr x=>hashStr w x
theorem keyIs_shape:∀ {k:Key} {v:Value},pC k v=true->(∃ i t,k=Sum.inl i/\v=Value.int i t)\/(∃ x t,k=Sum.inr x/\v=Value.str x t)
 | .inl i,v,h=>by
  obtain ⟨t,e⟩:=Value.isInt_shape (k:=i) (v:=v) h;exact .inl ⟨i,t,rfl,e⟩
 | .inr x,v,h=>by
  obtain ⟨t,e⟩:=Value.isStrOf_shape (x:=x) (v:=v) h;exact .inr ⟨x,t,rfl,e⟩
def jS (i:Int) (t:Tok):pC (.inl i) (.int i t)=true:=by simp [pC,Value.isInt]
def jT (x:Str) (t:Tok):pC (.inr x) (.str x t)=true:=by simp [pC,Value.isStrOf]
def bH6 (a b:Int):decide ((Sum.inl a:Key)=Sum.inl b)=(a==b):=by
 by_cases e:a=b
 ·subst e;simp
 ·have h:¬ (Sum.inl a:Key)=Sum.inl b:=fun q=>e (Sum.inl.inj q);rw [decide_eq_false h];exact (beq_eq_false_iff_ne.mpr e).symm
def bH7 (a b:Str):decide ((Sum.inr a:Key)=Sum.inr b)=decide (a=b):=by
 by_cases e:a=b
 ·subst e;simp
 ·have h:¬ (Sum.inr a:Key)=Sum.inr b:=fun q=>e (Sum.inr.inj q);rw [decide_eq_false h,decide_eq_false e]
def bH8 (a:Int) (b:Str):decide ((Sum.inl a:Key)=Sum.inr b)=false:=decide_eq_false (fun q=>nomatch q)
def bH9 (a:Str) (b:Int):decide ((Sum.inr a:Key)=Sum.inl b)=false:=decide_eq_false (fun q=>nomatch q)

def bF (prog:Program) (w:World):PySem.KeyKind prog w Key where
 is:=pC
 hash:=cN7 w
 inj:=fun v a b ha hb=>by
  rcases keyIs_shape ha with ⟨i,t,rfl,rfl⟩ | ⟨x,t,rfl,rfl⟩
  ·rcases keyIs_shape hb with ⟨j,u,rfl,e⟩ | ⟨y,u,rfl,e⟩
   ·injection e with e1 _;rw [e1]
   ·exact nomatch e
  ·rcases keyIs_shape hb with ⟨j,u,rfl,e⟩ | ⟨y,u,rfl,e⟩
   ·exact nomatch e
   ·injection e with e1 _;rw [e1]
 byValue:=fun k v h=>by
  rcases keyIs_shape h with ⟨i,t,rfl,rfl⟩ | ⟨x,t,rfl,rfl⟩<;>rfl
 pyHash:=fun hv h=>by
  rcases keyIs_shape hv with ⟨i,t,rfl,rfl⟩ | ⟨x,t,rfl,rfl⟩
  ·exact wpAny_pyHash_int h
  ·exact wpAny_pyHash_str h
 eqBool:=fun hu hv h=>by
  rcases keyIs_shape hu with ⟨i,t,rfl,rfl⟩ | ⟨x,t,rfl,rfl⟩
  ·rcases keyIs_shape hv with ⟨j,u,rfl,rfl⟩ | ⟨y,u,rfl,rfl⟩
   ·rw [bH6] at h;exact wpAny_eqBool_int h
   ·rw [bH8] at h;exact SeqAt.EqAt.int_str i t y u _ _ _ _ h
  ·rcases keyIs_shape hv with ⟨j,u,rfl,rfl⟩ | ⟨y,u,rfl,rfl⟩
   ·rw [bH9] at h;exact SeqAt.EqAt.str_int x t j u _ _ _ _ h
   ·rw [bH7] at h;exact wpAny_eqBool_str h
 «strs»:=fun k x t v h=>by
  rcases keyIs_shape h with ⟨i,u,rfl,e⟩ | ⟨y,u,rfl,e⟩
  ·exact nomatch e
  ·injection e with e1 _
   subst e1;cases v<;>rfl

def kU (prog:Program) (w:World) (i:Int) (t:Tok):(bF prog w).is (.inl i) (.int i t)=true:=jS i t
def sZ (prog:Program) (w:World) (x:Str) (t:Tok):(bF prog w).is (.inr x) (.str x t)=true:=jT x t
end L2

namespace HT
open PySem PyProof.Rows

section
open PySem.SeqAt
open PySem.AutoSeq1 (wpAny_loadPart')
open PySem.MeetsSeq PySem.MeetsSeq2 PySem.MeetsSeq3

end

section
variable {prog:Program} {w:World} {A:Around} {E:Value->Shared->Prop} {s:Shared}

def cat_tup {t b:Addr} {vs ws:List Value} {Q:Value->Shared->Prop} (ht:IsTup s.heap t vs.toArray) (hb:IsTup s.heap b ws.toArray) (hv:vs≠[])
  (h1:ws=[]->Q (.ref t) s) (h2:ws≠[]->Q (.ref s.heap.objs.size) { s with heap:=s.heap.push { cls:=.type "tuple",data:=.seq (vs++ws).toArray } })
  (hsz:vs.length+ws.length<=sizeLine):wpAny (model prog w) A (binaryOp .Add (.ref t) (.ref b)) Q E s:=by
 obtain ⟨⟨cls,dd,data,sl⟩,ho,hc,n,hd⟩:=id ht;obtain ⟨⟨cls2,dd2,data2,sl2⟩,ho2,hc2,n2,hd2⟩:=id hb;simp only at hc hd hc2 hd2;subst hc hd hc2 hd2;have e:vs.toArray++ws.toArray=(vs++ws).toArray:=by simp
 by_cases hw:ws=[]
 ·exact concat_meets ⟨_,ho,rfl⟩ ⟨_,ho2,rfl⟩ noFill_tuple_add seq_tuple_add PySem.F.slot_tuple_add PySem.F.entry_tuple_add (PySem.F.args_tuple_add_2 _ _)
   (tuple_addW1 t b vs.toArray ws.toArray n n2 dd dd2 sl sl2 (by simpa using hv) (by simp [hw])) ⟨ho,ho2,h1 hw⟩
 ·refine concat_meets ⟨_,ho,rfl⟩ ⟨_,ho2,rfl⟩ noFill_tuple_add seq_tuple_add PySem.F.slot_tuple_add PySem.F.entry_tuple_add (PySem.F.args_tuple_add_2 _ _)
   (tuple_addW2 t b vs.toArray ws.toArray n n2 dd dd2 sl sl2 (by simpa using hv) (by simpa using hw) (by rw [List.size_toArray,List.size_toArray];exact hsz)) ⟨ho,ho2,?_⟩
  rw [e];exact h2 hw

noncomputable def sIx (n d:Nat):Option Int->Nat
 | none=>d
 | some v=>if v < 0 then (v+(n:Int)).toNat else min v.toNat n
def sIx_none (n d:Nat):sIx n d none=d:=rfl
def sIx_nat (n d k:Nat):sIx n d (some (k:Int))=min k n:=by
 show (if (k:Int) < 0 then ((k:Int)+(n:Int)).toNat else min (k:Int).toNat n)=min k n;rw [if_neg (by omega),Int.toNat_natCast]
def bI0 (n d:Nat) (hd:d<=n) (o:Option Int):sIx n d o<=n:=by
 cases o with
 | none=>exact hd
 | some v =>
  show (if v < 0 then (v+(n:Int)).toNat else min v.toNat n)<=n
  by_cases hv:v < 0
  ·rw [if_pos hv];omega
  ·rw [if_neg hv];exact Nat.min_le_right _ _
def xW (v:Int) (n d:Nat):(if v < 0 then max (v+(n:Int)) 0 else min v (n:Int))=((sIx n d (some v):Nat):Int):=by
 show (if v < 0 then max (v+(n:Int)) 0 else min v (n:Int))=(((if v < 0 then (v+(n:Int)).toNat else min v.toNat n):Nat):Int)
 by_cases hv:v < 0
 ·simp only [if_pos hv];omega
 ·simp only [if_neg hv];omega
def vJ (lo hi:Option Int) (n:Nat):Builtin.Slice.sliceAdjust lo hi 1 (n:Int)=(((sIx n 0 lo:Nat):Int),((sIx n n hi:Nat):Int)):=by
 have h1:¬ ((1:Int) < 0):=by omega
 unfold Builtin.Slice.sliceAdjust;simp only [h1,if_false];refine Prod.ext ?_ ?_
 ·cases lo with
  | none=>rfl
  | some v=>exact xW v n 0
 ·cases hi with
  | none=>rfl
  | some v=>exact xW v n n
def vK (i j:Nat):Builtin.Slice.slicePlaces (i:Int) (j:Int) 1=j - i:=by
 unfold Builtin.Slice.slicePlaces;have h1:(1:Int) > 0:=by omega
 simp only [h1,if_true,Int.ediv_one];split<;>omega
def mK {v:Value} {o:Option Int} {Q:Option Int->Shared->Prop} (p:IsPart v o) (h:Q o s):wpAny (model prog w) A (Builtin.Slice.slicePartIndex v) Q E s:=by
 cases p with
 | none=>exact slicePart_none h
 | int i t=>exact slicePart_int h
def sliceApplied_gen {sl:Addr} {vl vu:Value} {lo hi:Option Int} {n:Nat} {Q:Int×Int×Nat->Shared->Prop} (hs:s.heap.IsSliceOf sl vl vu .none) (pl:IsPart vl lo) (pu:IsPart vu hi)
  (h:Q (((sIx n 0 lo:Nat):Int),1,sIx n n hi - sIx n 0 lo) s):wpAny (model prog w) A (Builtin.Slice.sliceApplied (.ref sl) (pure (n:Int))) Q E s:=by
 obtain ⟨os,hos,hcs,hds⟩:=id hs;unfold Builtin.Slice.sliceApplied Builtin.Slice.sliceFields;refine wpAny_bind (wpAny_bind (wpAny_field hos hds (x:=vl) rfl (wpAny_bind (wpAny_field hos hds (x:=vu) rfl (wpAny_bind (wpAny_field hos hds (x:=.none) rfl (wpAny_pure ?_)))))));refine wpAny_bind (slicePart_none ?_);show wpAny _ _ (if ((1:Int)==0)=true then _ else _) _ _ s;rw [if_neg (by decide)];refine wpAny_bind (mK pl (wpAny_bind (mK pu (wpAny_bind (wpAny_pure ?_)))));show wpAny _ _ (match Builtin.Slice.sliceAdjust lo hi 1 (n:Int) with | (lo,hi)=>pure (lo,(1:Int),Builtin.Slice.slicePlaces lo hi 1)) _ _ s;rw [vJ lo hi n];show wpAny _ _ (pure (((sIx n 0 lo:Nat):Int),(1:Int),Builtin.Slice.slicePlaces ((sIx n 0 lo:Nat):Int) ((sIx n n hi:Nat):Int) 1)) _ _ s;rw [vK];exact wpAny_pure h
def aG5 (xs:Array Value) (i k:Nat):((List.range k).filterMap fun (m:Nat)=>xs[((i:Int)+(m:Int)*1).toNat]?).toArray=((xs.toList.drop i).take k).toArray:=by
 have e:(fun (m:Nat)=>xs[((i:Int)+(m:Int)*1).toNat]?)=fun m=>xs[i+m]?:=by
  funext m
  have:((i:Int)+(m:Int)*1).toNat=i+m:=by omega
  rw [this]
 rw [e];have:=pick_run xs i k;rw [List.filterMap_map] at this;have e2:((fun x=>xs[x]?) ∘ fun x=>i+x)=fun m=>xs[i+m]?:=rfl;rw [e2] at this;rw [this]

def getItem_tuple_cut {t sl:Addr} {items:Array Value} {vl vu:Value} {lo hi:Option Int} {Q:Value->Shared->Prop} (ht:IsTup s.heap t items) (hs:s.heap.IsSliceOf sl vl vu .none) (pl:IsPart vl lo) (pu:IsPart vu hi)
  (hw:¬ (sIx items.size 0 lo=0/\sIx items.size items.size hi=items.size))
  (h:Q (.ref s.heap.objs.size) { s with heap:=s.heap.push { cls:=.type "tuple",data:=.seq ((items.toList.drop (sIx items.size 0 lo)).take (sIx items.size items.size hi - sIx items.size 0 lo)).toArray } })
  (hsz:items.size<=sizeLine):wpAny (model prog w) A (getItem (.ref t) (.ref sl)) Q E s:=by
 have htake:sizeOk (.seq ((items.toList.drop (sIx items.size 0 lo)).take (sIx items.size items.size hi - sIx items.size 0 lo)).toArray):=by
  show ((items.toList.drop (sIx items.size 0 lo)).take (sIx items.size items.size hi - sIx items.size 0 lo)).toArray.size<=sizeLine;rw [List.size_toArray,List.length_take,List.length_drop,Array.length_toList];omega
 have hj:sIx items.size items.size hi<=items.size:=bI0 _ _ (Nat.le_refl _) hi;obtain ⟨os,hos,hcs,hds⟩:=id hs;have hTs:s.TypeIs (.ref sl) "slice":=⟨os,hos,hcs⟩;unfold getItem;try with_reducible refine wpAny_holding ?_
 first | refine wpAny_bind (wpAny_pure ?_) | skip
 refine wpAny_bind (wpAny_sequenceKey ht.typeIs (by decide) ?_);refine wpAny_bind (wpAny_callSpecial?_slot (name:=Str.ofString "__getitem__") ht.typeIs PyProof.Rows.slot_tuple_getitem
  (wpAny_call_entry PyProof.Rows.slot_tuple_getitem ht.typeIs entry_tuple_getitem ?_ (args_tuple_getitem _ _)))
 show wpAny _ _ (Builtin.Tuple.tupleItemsOf (.ref t) >>= _) _ _ s;refine wpAny_bind (tupleItemsOf_ ht ?_);refine wpAny_bind (wpAny_typeOf hTs ?_);rw [if_pos (by decide)];refine wpAny_bind (sliceApplied_gen hs pl pu ?_);have hno:¬ ((((sIx items.size 0 lo:Nat):Int)==0&&(1:Int)==1&&(sIx items.size items.size hi - sIx items.size 0 lo)==items.size)=true):=by
  intro q;rw [Bool.and_eq_true,Bool.and_eq_true] at q;have q1:((sIx items.size 0 lo:Nat):Int)=0:=eq_of_beq q.1.1;have q2:sIx items.size items.size hi - sIx items.size 0 lo=items.size:=eq_of_beq q.2;exact hw ⟨by omega,by omega⟩
 show wpAny _ _ (if (((sIx items.size 0 lo:Nat):Int)==0&&(1:Int)==1&&(sIx items.size items.size hi - sIx items.size 0 lo)==items.size)=true then _ else _) _ _ s;rw [if_neg hno,aG5]
 first
  | exact wpAny_bind (m:=Builtin.Tuple.tupleExact _) (wpAny_newObj_type (wpAny_pure ⟨_,rfl,wpAny_pure h⟩) htake)
  | exact wpAny_bind (m:=Builtin.Tuple.tupleExact _) (wpAny_newObj_type (wpAny_bind (wpAny_pure (wpAny_pure ⟨_,rfl,wpAny_pure h⟩))) htake)
  | exact wpAny_bind (wpAny_bind (m:=Builtin.Tuple.tupleExact _) (wpAny_newObj_type (wpAny_pure (wpAny_pure ⟨_,rfl,wpAny_pure h⟩)) htake))
  | exact wpAny_bind (wpAny_bind (m:=Builtin.Tuple.tupleExact _) (wpAny_newObj_type (wpAny_pure ⟨_,rfl,wpAny_pure h⟩) htake))
end
end HT

namespace DL
open PySem PySem.Spec PyProof.Rows L2
set_option genInjectivity true in
inductive W where
 | d (x:PyData)
 | c (i:Nat)
set_option genInjectivity true in
inductive Cell where
 | l (xs:List PyData)
 | k (kvs:List (PyData×PyData))
 | o (C:Addr) (fs:List (Str×W))
 | r (is:List Nat)
 | n (kvs:List (PyData×PyData))
 | t (qs:List (Pos×Str))
abbrev aA:=List Cell
abbrev DSt:=List (Option W)
noncomputable def bU:PyData->Option Key
 | .int i=>some (.inl i)
 | .str x=>if PyData.strOk x=true then some (.inr x) else none
 | _=>none
section
variable {α β γ:Type} {F G:α->β->Prop}
theorem rA (f:∀ a b,F a b->G a b):∀ {l:List α} {r:List β},Paired F l r->Paired G l r
 | _,_,.nil=>.nil
 | _,_,.cons h t=>.cons (f _ _ h) (rA f t)
theorem hU:∀ {l:List α} {r:List β} {i:Nat} {a:α},Paired F l r->l[i]?=some a->∃ b,r[i]?=some b/\F a b
 | _,_,_,_,.nil,e=>by simp at e
 | _,_,0,_,.cons h _,e=>by simp at e;subst e;exact ⟨_,rfl,h⟩
 | _,_,i+1,a,.cons _ t,e=>by
  obtain ⟨b,h1,h2⟩:=hU (i:=i) (a:=a) t (by simpa using e);exact ⟨b,by simpa using h1,h2⟩
theorem bV6 {a:α} {b:β} (h:F a b):∀ {l:List α} {r:List β} (i:Nat),Paired F l r->Paired F (l.set i a) (r.set i b)
 | _,_,_,.nil=>.nil
 | _,_,0,.cons _ t=>.cons h t
 | _,_,i+1,.cons q t=>.cons q (bV6 h i t)
theorem vL:∀ {l l':List α} {r r':List β},Paired F l r->Paired F l' r'->Paired F (l++l') (r++r')
 | _,_,_,_,.nil,s=>s
 | _,_,_,_,.cons h t,s=>.cons h (vL t s)
theorem tA:∀ {l:List α} {r:List β} (n:Nat),Paired F l r->Paired F (l.take n) (r.take n)
 | _,_,0,_=>.nil
 | _,_,_+1,.nil=>.nil
 | _,_,n+1,.cons h t=>.cons h (tA n t)
theorem xX:∀ {l:List α} {r:List β} (n:Nat),Paired F l r->Paired F (l.drop n) (r.drop n)
 | _,_,0,h=>h
 | _,_,_+1,.nil=>.nil
 | _,_,n+1,.cons _ t=>xX n t
theorem aG6:∀ {l:List α} {r:List β} (n:Nat),Paired F l r->Paired F (l.eraseIdx n) (r.eraseIdx n)
 | _,_,_,.nil=>.nil
 | _,_,0,.cons _ t=>t
 | _,_,n+1,.cons h t=>.cons h (aG6 n t)
theorem xY {f:γ->α}:∀ {l:List γ} {r:List β},Paired (fun a b=>F (f a) b) l r->Paired F (l.map f) r
 | _,_,.nil=>.nil
 | _,_,.cons h t=>.cons h (xY t)
theorem tB {f:γ->α}:∀ {l:List γ} {r:List β},Paired F (l.map f) r->Paired (fun a b=>F (f a) b) l r
 | [],_,h=>by cases h;exact .nil
 | _::_,_,h=>by cases h with | cons h t=>exact .cons h (tB t)
end
structure Sx where
 P:Program
 w:World
 K:PySem.W.Frag
 mg:Str->Option Value
 base:Heap
 os:OsState
 tb:Array Value
 tp:Addr
abbrev Zm:=Addr->Option Obj
structure Mp where
 Z:Zm
 m:List (Addr×Addr)
abbrev Kp:=Addr->Option (Bool×Obj)
def SqO (n:String) (o:Obj) (us:List Value):Prop:=(∃ k,o={ cls:=.type n,data:=.seq us.toArray k })/\us.length<=sizeLine
def DcO (S:Sx) (a:Addr) (o:Obj) (vs:List (Key×Value)):Prop:=(a==sysModules)=false/\vs.length<=sizeLine/\∀ h:Heap,h.get? a=some o->h.DictOf (bF S.P S.w) a vs
mutual
noncomputable def Rep (S:Sx) (Z:Zm):PyData->Value->Prop
 | .none,u=>u=.none
 | .bool b,u=>u=.bool b
 | .int i,u=>∃ t,u=.int i t
 | .str x,u=>(∃ t,u=.str x t)/\PyData.strOk x=true
 | .list xs,u=>∃ a o us,u=.ref a/\Z a=some o/\SqO "list" o us/\Reps S Z xs us
 | .tuple xs,u=>∃ a o us,u=.ref a/\Z a=some o/\SqO "tuple" o us/\Reps S Z xs us
 | .dict kvs,u=>∃ a o vs,u=.ref a/\Z a=some o/\DcO S a o vs/\RepKs S Z kvs vs
noncomputable def Reps (S:Sx) (Z:Zm):List PyData->List Value->Prop
 | [],us=>us=[]
 | x::xs,us=>∃ u r,us=u::r/\Rep S Z x u/\Reps S Z xs r
noncomputable def RepKs (S:Sx) (Z:Zm):List (PyData×PyData)->List (Key×Value)->Prop
 | [],vs=>vs=[]
 | p::kvs,vs=>∃ q r,vs=q::r/\RepP S Z p q/\RepKs S Z kvs r
noncomputable def RepP (S:Sx) (Z:Zm):PyData×PyData->Key×Value->Prop
 | (k,x),q=>bU k=some q.1/\Rep S Z x q.2
end
section
variable {S:Sx} {Z Z':Zm}
theorem reps_iff:∀ {xs:List PyData} {us:List Value},Reps S Z xs us ↔ Paired (Rep S Z) xs us
 | [],us=>by rw [Reps];exact ⟨fun e=>e ▸ .nil,fun h=>by cases h;rfl⟩
 | x::xs,us=>by
  rw [Reps];exact ⟨fun ⟨u,r,e,h,t⟩=>e ▸ .cons h (reps_iff.mp t),fun h=>by cases h with | cons h t=>exact ⟨_,_,rfl,h,reps_iff.mpr t⟩⟩
abbrev RepK (S:Sx) (Z:Zm):List (PyData×PyData)->List (Key×Value)->Prop:=Paired fun p q=>bU p.1=some q.1/\Rep S Z p.2 q.2
theorem repks_iff:∀ {xs:List (PyData×PyData)} {us:List (Key×Value)},RepKs S Z xs us ↔ RepK S Z xs us
 | [],us=>by rw [RepKs];exact ⟨fun e=>e ▸ .nil,fun h=>by cases h;rfl⟩
 | (k,x)::xs,us=>by
  rw [RepKs];exact ⟨fun ⟨u,r,e,h,t⟩=>by rw [RepP] at h;exact e ▸ .cons h (repks_iff.mp t),fun h=>by cases h with | cons h t=>exact ⟨_,_,rfl,by rw [RepP];exact h,repks_iff.mpr t⟩⟩
def rep_l {xs:List PyData} {u:Value}:Rep S Z (.list xs) u ↔ ∃ a o us,u=.ref a/\Z a=some o/\SqO "list" o us/\Paired (Rep S Z) xs us:=by rw [Rep];simp only [reps_iff]
def rep_t {xs:List PyData} {u:Value}:Rep S Z (.tuple xs) u ↔ ∃ a o us,u=.ref a/\Z a=some o/\SqO "tuple" o us/\Paired (Rep S Z) xs us:=by rw [Rep];simp only [reps_iff]
def rep_d {xs:List (PyData×PyData)} {u:Value}:Rep S Z (.dict xs) u ↔ ∃ a o vs,u=.ref a/\Z a=some o/\DcO S a o vs/\RepK S Z xs vs:=by rw [Rep];simp only [repks_iff]
def bV7 {u:Value}:Rep S Z .none u ↔ u=.none:=by rw [Rep]
def rep_b {b:Bool} {u:Value}:Rep S Z (.bool b) u ↔ u=.bool b:=by rw [Rep]
def rep_i {i:Int} {u:Value}:Rep S Z (.int i) u ↔ ∃ t,u=.int i t:=by rw [Rep]
def rep_s {x:Str} {u:Value}:Rep S Z (.str x) u ↔ (∃ t,u=.str x t)/\PyData.strOk x=true:=by rw [Rep]
mutual
theorem Rep.go (hs:∀ a o,Z a=some o->Z' a=some o):∀ {d:PyData} {v:Value},Rep S Z d v->Rep S Z' d v
 | .none,_,h=>by rw [Rep] at h ⊢;exact h
 | .bool _,_,h=>by rw [Rep] at h ⊢;exact h
 | .int _,_,h=>by rw [Rep] at h ⊢;exact h
 | .str _,_,h=>by rw [Rep] at h ⊢;exact h
 | .list xs,_,h=>by rw [Rep] at h ⊢;obtain ⟨a,o,us,e,z,q,r⟩:=h;exact ⟨a,o,us,e,hs _ _ z,q,Reps.go hs r⟩
 | .tuple xs,_,h=>by rw [Rep] at h ⊢;obtain ⟨a,o,us,e,z,q,r⟩:=h;exact ⟨a,o,us,e,hs _ _ z,q,Reps.go hs r⟩
 | .dict xs,_,h=>by rw [Rep] at h ⊢;obtain ⟨a,o,us,e,z,q,r⟩:=h;exact ⟨a,o,us,e,hs _ _ z,q,RepKs.go hs r⟩
theorem Reps.go (hs:∀ a o,Z a=some o->Z' a=some o):∀ {ds:List PyData} {vs:List Value},Reps S Z ds vs->Reps S Z' ds vs
 | [],_,h=>by rw [Reps] at h ⊢;exact h
 | x::xs,_,h=>by rw [Reps] at h ⊢;obtain ⟨v,r,e,h1,h2⟩:=h;exact ⟨v,r,e,Rep.go hs h1,Reps.go hs h2⟩
theorem RepKs.go (hs:∀ a o,Z a=some o->Z' a=some o):∀ {ds:List (PyData×PyData)} {vs:List (Key×Value)},RepKs S Z ds vs->RepKs S Z' ds vs
 | [],_,h=>by rw [RepKs] at h ⊢;exact h
 | x::xs,_,h=>by rw [RepKs] at h ⊢;obtain ⟨v,r,e,h1,h2⟩:=h;exact ⟨v,r,e,RepP.go hs h1,RepKs.go hs h2⟩
theorem RepP.go (hs:∀ a o,Z a=some o->Z' a=some o):∀ {p:PyData×PyData} {q:Key×Value},RepP S Z p q->RepP S Z' p q
 | (k,x),q,h=>by rw [RepP] at h ⊢;exact ⟨h.1,Rep.go hs h.2⟩
end
end
def RepW (S:Sx) (M:Mp):W->Value->Prop
 | .d x,u=>Rep S M.Z x u
 | .c i,u=>∃ p,M.m[i]?=some p/\u=.ref p.1
abbrev Reps' (S:Sx) (M:Mp):List PyData->List Value->Prop:=Paired (Rep S M.Z)
abbrev RepWs (S:Sx) (M:Mp):List W->List Value->Prop:=Paired (RepW S M)
structure Le (M M':Mp):Prop where
 z:∀ a o,M.Z a=some o->M'.Z a=some o
 m:∃ n,M'.m=M.m++n
def Le.refl {M:Mp}:Le M M:=⟨fun _ _ e=>e,[],by simp⟩
def Le.trans {M N O:Mp} (a:Le M N) (b:Le N O):Le M O:=⟨fun x o e=>b.z x o (a.z x o e),let ⟨n,e⟩:=a.m;let ⟨k,q⟩:=b.m;⟨n++k,by rw [q,e,List.append_assoc]⟩⟩
def Le.at {M M':Mp} (l:Le M M') {i:Nat} {p:Addr×Addr} (e:M.m[i]?=some p):M'.m[i]?=some p:=by
 obtain ⟨n,q⟩:=l.m;rw [q,List.getElem?_append_left (List.getElem?_eq_some_iff.mp e).1,e]
section
variable {S:Sx} {M M':Mp}
def RepW.go (l:Le M M') {w:W} {u:Value} (r:RepW S M w u):RepW S M' w u:=by
 cases w with
 | d x=>exact Rep.go l.z r
 | c i=>obtain ⟨p,e,q⟩:=r;exact ⟨p,l.at e,q⟩
def RepWs.go (l:Le M M') {w:List W} {u:List Value} (r:RepWs S M w u):RepWs S M' w u:=rA (fun _ _ h=>h.go l) r
def Reps'.go (l:Le M M') {w:List PyData} {u:List Value} (r:Reps' S M w u):Reps' S M' w u:=rA (fun _ _ h=>Rep.go l.z h) r
def RepK.go (l:Le M M') {w:List (PyData×PyData)} {u:List (Key×Value)} (r:RepK S M.Z w u):RepK S M'.Z w u:=rA (fun _ _ h=>⟨h.1,Rep.go l.z h.2⟩) r
end
def RelO (S:Sx) (M:Mp):Option W->Option Value->Prop
 | some v,some u=>RepW S M v u
 | none,none=>True
 | _,_=>False
theorem RelO.go {S:Sx} {M M':Mp} (l:Le M M'):∀ {a:Option W} {b:Option Value},RelO S M a b->RelO S M' a b
 | some _,some _,h=>RepW.go l h
 | none,none,h=>h
 | some _,none,h=>h.elim
 | none,some _,h=>h.elim
end DL

namespace CI
open PySem
mutual
noncomputable def aI:Nat->PyData->Bool
 | _,.none=>true
 | _,.bool _=>true
 | _,.int _=>true
 | _,.str _=>true
 | n+1,.list xs=>plainsB n xs
 | n+1,.tuple xs=>plainsB n xs
 | _,_=>false
noncomputable def plainsB:Nat->List PyData->Bool
 | _,[]=>true
 | n,x::xs=>aI n x&&plainsB n xs
end
mutual
noncomputable def peq:PyData->PyData->Bool
 | .none,.none=>true
 | .bool a,.bool b=>a==b
 | .int a,.int b=>a==b
 | .str a,.str b=>a==b
 | .list a,.list b=>peqs a b
 | .tuple a,.tuple b=>peqs a b
 | _,_=>false
noncomputable def peqs:List PyData->List PyData->Bool
 | [],[]=>true
 | x::a,y::b=>peq x y&&peqs a b
 | _,_=>false
end
end CI
namespace DL
open PySem PySem.Spec PyProof.Rows L2 CI
section
variable {S:Sx}
mutual
theorem Rep.reads {Z:Zm} {hp:Heap} (k:∀ a o,Z a=some o->hp.get? a=some o):∀ {d:PyData} {u:Value} (n:Nat),Rep S Z d u->aI n d=true->(∃ as,Reads hp u d as)/\d.canLay0=true/\d.depth<=n
 | .none,_,n,h,_=>by rw [Rep] at h;subst h;exact ⟨⟨_,Reads.none⟩,by simp [PyData.canLay0,PyData.depth]⟩
 | .bool _,_,n,h,_=>by rw [Rep] at h;subst h;exact ⟨⟨_,Reads.bool _⟩,by simp [PyData.canLay0,PyData.depth]⟩
 | .int _,_,n,h,_=>by rw [Rep] at h;obtain ⟨t,rfl⟩:=h;exact ⟨⟨_,Reads.int _ _⟩,by simp [PyData.canLay0,PyData.depth]⟩
 | .str _,_,n,h,_=>by rw [Rep] at h;obtain ⟨⟨t,rfl⟩,z⟩:=h;exact ⟨⟨_,Reads.str _ _⟩,by simp [PyData.canLay0,PyData.depth,z]⟩
 | .list xs,_,0,_,p=>by cases p
 | .tuple xs,_,0,_,p=>by cases p
 | .list xs,_,n+1,h,p=>by
  rw [Rep] at h;obtain ⟨a,o,us,rfl,z,⟨⟨m,rfl⟩,_⟩,r⟩:=h;obtain ⟨⟨as,q⟩,c,l⟩:=Reps.reads k n r (show plainsB n xs=true from p);exact ⟨⟨_,Reads.list (k _ _ z) rfl rfl (by simpa using q)⟩,by simp [PyData.canLay0,PyData.depth,c,l]⟩
 | .tuple xs,_,n+1,h,p=>by
  rw [Rep] at h;obtain ⟨a,o,us,rfl,z,⟨⟨m,rfl⟩,_⟩,r⟩:=h;obtain ⟨⟨as,q⟩,c,l⟩:=Reps.reads k n r (show plainsB n xs=true from p);exact ⟨⟨_,Reads.tuple (k _ _ z) rfl rfl (by simpa using q)⟩,by simp [PyData.canLay0,PyData.depth,c,l]⟩
 | .dict _,_,n,_,p=>by cases n<;>cases p
theorem Reps.reads {Z:Zm} {hp:Heap} (k:∀ a o,Z a=some o->hp.get? a=some o):∀ {d:List PyData} {u:List Value} (n:Nat),Reps S Z d u->plainsB n d=true->(∃ as,ReadsAll hp u d as)/\PyData.canLayAll0 d=true/\PyData.depthAll d<=n
 | [],_,n,h,_=>by rw [Reps] at h;subst h;exact ⟨⟨_,ReadsAll.nil⟩,by simp [PyData.canLayAll0,PyData.depthAll]⟩
 | x::xs,_,n,h,p=>by
  rw [Reps] at h;obtain ⟨v,r,rfl,h1,h2⟩:=h
  replace p:(aI n x&&plainsB n xs)=true:=p
  rw [Bool.and_eq_true] at p;obtain ⟨⟨as,q1⟩,c1,l1⟩:=Rep.reads k n h1 p.1;obtain ⟨⟨bs,q2⟩,c2,l2⟩:=Reps.reads k n h2 p.2;refine ⟨⟨_,ReadsAll.cons q1 q2⟩,?_⟩;simp [PyData.canLayAll0,PyData.depthAll,c1,c2];omega
end
end
end DL

namespace DL
open PySem PySem.Spec PyProof.Rows L2 CI
mutual
noncomputable def hkB:Nat->PyData->Bool
 | _,.int _=>true
 | _,.str x=>PyData.strOk x
 | n+1,.tuple xs=>hksB n xs
 | _,_=>false
noncomputable def hksB:Nat->List PyData->Bool
 | _,[]=>true
 | n,x::xs=>hkB n x&&hksB n xs
end
theorem rB {n:Nat} {x:PyData}:∀ {xs:List PyData},hksB n xs=true->x∈xs->hkB n x=true
 | y::ys,h,m=>by
  rw [hksB,Bool.and_eq_true] at h;rcases List.mem_cons.mp m with rfl | m
  ·exact h.1
  ·exact rB h.2 m
mutual
theorem gB:∀ {n m:Nat} {a b:PyData},hkB n a=true->hkB m b=true->PyData.eqv a b=peq a b/\(peq a b=true ↔ a=b)
 | _,_,.int i,.int j,_,_=>⟨rfl,by show (i==j)=true ↔ _;simp⟩
 | _,_,.int i,.str j,_,_=>⟨rfl,fun h=>(by cases h),fun h=>(by cases h)⟩
 | _,_,.int i,.tuple j,_,_=>⟨rfl,fun h=>(by cases h),fun h=>(by cases h)⟩
 | _,_,.str i,.int j,_,_=>⟨rfl,fun h=>(by cases h),fun h=>(by cases h)⟩
 | _,_,.str i,.str j,_,_=>⟨rfl,by show (i==j)=true ↔ _;simp⟩
 | _,_,.str i,.tuple j,_,_=>⟨rfl,fun h=>(by cases h),fun h=>(by cases h)⟩
 | _,_,.tuple i,.int j,_,_=>⟨rfl,fun h=>(by cases h),fun h=>(by cases h)⟩
 | _,_,.tuple i,.str j,_,_=>⟨rfl,fun h=>(by cases h),fun h=>(by cases h)⟩
 | n+1,m+1,.tuple i,.tuple j,h1,h2=>by
  rw [hkB] at h1 h2;obtain ⟨e1,e2⟩:=hks_peq h1 h2;exact ⟨e1,by show peqs i j=true ↔ _;rw [e2];simp⟩
 | 0,_,.tuple _,_,h,_=>by simp [hkB] at h
 | _,0,_,.tuple _,_,h=>by simp [hkB] at h
 | _,_,.none,_,h,_=>by simp [hkB] at h
 | _,_,.bool _,_,h,_=>by simp [hkB] at h
 | _,_,.list _,_,h,_=>by simp [hkB] at h
 | _,_,.dict _,_,h,_=>by simp [hkB] at h
 | _,_,_,.none,_,h=>by simp [hkB] at h
 | _,_,_,.bool _,_,h=>by simp [hkB] at h
 | _,_,_,.list _,_,h=>by simp [hkB] at h
 | _,_,_,.dict _,_,h=>by simp [hkB] at h
theorem hks_peq:∀ {n m:Nat} {a b:List PyData},hksB n a=true->hksB m b=true->PyData.eqvAll a b=peqs a b/\(peqs a b=true ↔ a=b)
 | _,_,[],[],_,_=>⟨rfl,fun _=>rfl,fun _=>rfl⟩
 | _,_,[],_::_,_,_=>⟨rfl,fun h=>(by cases h),fun h=>(by cases h)⟩
 | _,_,_::_,[],_,_=>⟨rfl,fun h=>(by cases h),fun h=>(by cases h)⟩
 | n,m,x::xs,y::ys,h1,h2=>by
  rw [hksB,Bool.and_eq_true] at h1 h2;obtain ⟨e1,e2⟩:=gB h1.1 h2.1;obtain ⟨e3,e4⟩:=hks_peq h1.2 h2.2;show (PyData.eqv x y&&PyData.eqvAll xs ys)=(peq x y&&peqs xs ys)/\((peq x y&&peqs xs ys)=true ↔ _);rw [e1,e3];exact ⟨rfl,by rw [Bool.and_eq_true,e2,e4,List.cons.injEq]⟩
end
abbrev HK:={ d:PyData // hkB 4 d=true }
noncomputable instance:DecidableEq HK:=fun x y=>if h:peq x.1 y.1=true then isTrue (Subtype.ext ((gB x.2 y.2).2.mp h)) else isFalse fun e=>h ((gB x.2 y.2).2.mpr (congrArg Subtype.val e))
def bV8 (x y:HK):PyData.eqv x.1 y.1=decide (x=y):=by
 rw [(gB x.2 y.2).1,Bool.eq_iff_iff,(gB x.2 y.2).2,decide_eq_true_iff];exact Subtype.ext_iff.symm
mutual
theorem mL:∀ {n:Nat} {a:PyData},hkB n a=true->aI n a=true
 | _,.int _,_=>by simp [aI]
 | _,.str _,_=>by simp [aI]
 | n+1,.tuple xs,h=>by rw [hkB] at h;rw [aI];exact hks_plain h
 | 0,.tuple _,h=>by simp [hkB] at h
 | _,.none,h=>by simp [hkB] at h
 | _,.bool _,h=>by simp [hkB] at h
 | _,.list _,h=>by simp [hkB] at h
 | _,.dict _,h=>by simp [hkB] at h
theorem hks_plain:∀ {n:Nat} {a:List PyData},hksB n a=true->plainsB n a=true
 | _,[],_=>by simp [plainsB]
 | n,x::xs,h=>by
  rw [hksB,Bool.and_eq_true] at h;rw [plainsB,mL h.1,hks_plain h.2];rfl
end
mutual
noncomputable def hkH (w:World):PyData->Int
 | .int i=>hashInt i
 | .str x=>hashStr w x
 | .tuple xs=>reduceHash (Builtin.Tuple.tupleHashOf (hksH w xs))
 | _=>0
noncomputable def hksH (w:World):List PyData->List Int
 | []=>[]
 | x::xs=>hkH w x::hksH w xs
end
mutual
noncomputable def hkD:PyData->Nat
 | .tuple xs=>hksD xs+1
 | _=>1
noncomputable def hksD:List PyData->Nat
 | []=>0
 | x::xs=>hkD x+hksD xs
end
theorem mM (w:World) (x:PyData):∀ xs:List PyData,hksH w (xs++[x])=hksH w xs++[hkH w x]
 | []=>by simp [hksH]
 | y::ys=>by rw [List.cons_append,hksH,hksH,mM w x ys];rfl
theorem mN (x:PyData):∀ xs:List PyData,hksD (xs++[x])=hksD xs+hkD x
 | []=>by simp [hksD]
 | y::ys=>by rw [List.cons_append,hksD,hksD,mN x ys];omega
section
variable {S:Sx} {A:Around} {E:Value->Shared->Prop} {s:Shared}
def rC {Z:Zm} {xs:List PyData} {v:Value} (r:Rep S Z (.tuple xs) v):∃ a n us,v=.ref a/\Z a=some { cls:=.type "tuple",data:=.seq us.toArray n }/\Paired (Rep S Z) xs us:=by
 obtain ⟨a,o,us,rfl,z,⟨⟨n,rfl⟩,_⟩,rr⟩:=rep_t.mp r;exact ⟨a,n,us,rfl,z,rr⟩
def aU8:∀ (n:Nat) {d:PyData} {v:Value} {A:Around} {s:Shared} {Q:Int->Shared->Prop},hkB n d=true->Rep S s.heap.get? d v->A.units+n < cLine->Q (hkH S.w d) { s with toks:=s.toks+hkD d }->wpAny (model S.P S.w) A (pyHash v) Q E s:=by
 intro n;induction n with
 | zero =>
  intro d v A s Q hd r hu h;cases d with
  | int i=>obtain ⟨t,rfl⟩:=rep_i.mp r;exact (bF S.P S.w).pyHash (k:=.inl i) (jS i t) (by simp only [hkD,hkH] at h;exact h)
  | str x=>obtain ⟨⟨t,rfl⟩,_⟩:=rep_s.mp r;exact (bF S.P S.w).pyHash (k:=.inr x) (jT x t) (by simp only [hkD,hkH] at h;exact h)
  | _=>simp [hkB] at hd
 | succ n ih =>
  intro d v A s Q hd r hu h;cases d with
  | int i=>obtain ⟨t,rfl⟩:=rep_i.mp r;exact (bF S.P S.w).pyHash (k:=.inl i) (jS i t) (by simp only [hkD,hkH] at h;exact h)
  | str x=>obtain ⟨⟨t,rfl⟩,_⟩:=rep_s.mp r;exact (bF S.P S.w).pyHash (k:=.inr x) (jT x t) (by simp only [hkD,hkH] at h;exact h)
  | tuple xs =>
   rw [hkB] at hd;obtain ⟨a,k,us,rfl,ho,rr⟩:=rC r;have hT:s.TypeIs (.ref a) "tuple":=⟨_,ho,rfl⟩;unfold pyHash
   first | unfold pyHashByItsType | skip
   first | refine wpAny_bind (wpAny_cRoomFor_or (.inr (by omega)) ?_) | skip
   refine wpAny_bind (wpAny_specialOf hT F.slot_tuple_hash.lookup ?_);show wpAny _ _ (if (some (Value.builtin "tuple.__hash__")==some Value.none)=true then _ else _) Q E s;rw [if_neg (by rw [beq_builtin_none];exact Bool.false_ne_true)];refine wpAny_bind (wpAny_specialOf hT F.slot_tuple_hash.lookup ?_);show wpAny _ _ (callSpecialIfBoundUnlessNone? (.ref a) "__hash__" _ >>= _) Q E s;refine wpAny_bind (wpAny_callSpecialIfBoundUnlessNone?_slot hT F.slot_tuple_hash (wpAny_call_entry F.slot_tuple_hash hT F.entry_tuple_hash ?_ (F.args_tuple_hash_1 _)));show wpAny _ _ (Builtin.Tuple.tupleItemsOf (.ref a) >>= _) _ _ s;refine wpAny_bind (wpAny_tupleItemsOf ho rfl ?_);refine wpAny_bind ?_;rw [<- Array.forIn_toList];refine wpAny_forIn_list _
    (fun rest (b:Array Int) s'=>∃ done left,xs=done++left/\Paired (Rep S s.heap.get?) left rest/\b.toList=hksH S.w done/\s'={ s with toks:=s.toks+hksD done })
    _ ?_ ?_ _ _ ⟨[],xs,rfl,rr,by simp [hksH],by simp [hksD]⟩
   ·rintro x rest b s' ⟨done,left,rfl,hl,hb,rfl⟩;cases hl with
    | @cons y _ ys _ h1 hl' =>
     refine wpAny_bind (ih (rB hd (by simp)) h1 (by first | exact Nat.lt_of_le_of_lt (Nat.le_of_eq (by show A.units+1+n=A.units+(n+1);omega)) hu | omega) ?_)
     first
      | exact wpAny_pure ⟨done++[y],ys,by simp,hl',by rw [mM];simp [hb],by rw [mN,Nat.add_assoc]⟩
      | exact wpAny_bind (wpAny_pure (wpAny_pure ⟨done++[y],ys,by simp,hl',by rw [mM];simp [hb],by rw [mN,Nat.add_assoc]⟩))
   ·rintro b s' ⟨done,left,rfl,hl,hb,rfl⟩;cases hl;rw [List.append_nil] at h;show wpAny _ _ (retInt (Builtin.Tuple.tupleHashOf b.toList)) _ _ _;rw [hb];refine wpAny_ret_mkInt ?_;show wpAny _ _ (if (decide (-(2:Int)^63<=Builtin.Tuple.tupleHashOf (hksH S.w done))&&decide (Builtin.Tuple.tupleHashOf (hksH S.w done) < 2^63))=true then _ else _) Q E _;rw [hkH,hkD] at h;unfold reduceHash at h
    by_cases hr:(decide (-(2:Int)^63<=Builtin.Tuple.tupleHashOf (hksH S.w done))&&decide (Builtin.Tuple.tupleHashOf (hksH S.w done) < 2^63))=true
    ·rw [if_pos hr];rw [if_pos hr] at h;exact wpAny_pure (by simpa [Nat.add_assoc] using h)
    ·rw [if_neg hr];rw [if_neg hr] at h;exact wpAny_bind (wpAny_rule (wpAny_pure (by simpa [Nat.add_assoc] using h)))
  | _=>simp [hkB] at hd
def aG7:∀ (n m:Nat) {d:PyData} {v:Value} {s:Shared} {Q:Bool->Shared->Prop},n<=m->hkB n d=true->Rep S s.heap.get? d v->Q true s->wpAny (model S.P S.w) A (eqIsQuiet m v) Q E s:=by
 intro n;induction n with
 | zero =>
  intro m d v s Q _ hd r h;cases d with
  | int i=>obtain ⟨t,rfl⟩:=rep_i.mp r;rw [eqIsQuiet_byValue _ rfl];exact wpAny_pure h
  | str x=>obtain ⟨⟨t,rfl⟩,_⟩:=rep_s.mp r;rw [eqIsQuiet_byValue _ rfl];exact wpAny_pure h
  | _=>simp [hkB] at hd
 | succ n ih =>
  intro m d v s Q hm hd r h;cases d with
  | int i=>obtain ⟨t,rfl⟩:=rep_i.mp r;rw [eqIsQuiet_byValue _ rfl];exact wpAny_pure h
  | str x=>obtain ⟨⟨t,rfl⟩,_⟩:=rep_s.mp r;rw [eqIsQuiet_byValue _ rfl];exact wpAny_pure h
  | tuple xs =>
   rw [hkB] at hd;obtain ⟨a,k,us,rfl,ho,rr⟩:=rC r;have hT:s.TypeIs (.ref a) "tuple":=⟨_,ho,rfl⟩;obtain ⟨m,rfl⟩:∃ k,m=k+1:=⟨m - 1,by omega⟩;unfold eqIsQuiet;refine wpAny_bind (wpAny_specialOf hT F.slot_tuple_eq.lookup ?_);show wpAny _ _ (isInstance (.ref a) (.type "tuple") >>= _) _ _ s;refine wpAny_bind (wpAny_isInstance hT isSubtype_tuple_tuple ?_);simp only [Bool.not_true,Bool.false_eq_true,if_false];refine wpAny_bind (wpAny_seqItems ho rfl ?_);refine wpAny_bind ?_;show wpAny _ _ (forIn us.toArray _ _) _ _ s;rw [<- Array.forIn_toList];refine wpAny_forIn_list _ (fun rest r s'=>r.1=none/\s'=s/\∃ done left,xs=done++left/\Paired (Rep S s.heap.get?) left rest) _ ?_ ?_ _ _ ⟨rfl,rfl,[],xs,rfl,rr⟩
   ·rintro v rest r s' ⟨hr,rfl,done,left,rfl,hl⟩;cases hl with
    | @cons y _ ys _ h1 hl' =>
     refine wpAny_bind (ih m (by omega) (rB hd (by simp)) h1 ?_);simp only [Bool.not_true,Bool.false_eq_true,if_false];exact wpAny_pure ⟨rfl,rfl,done++[y],ys,by simp,hl'⟩
   ·rintro ⟨r1,r2⟩ s' ⟨hr,rfl,_⟩;simp only at hr;subst hr;exact wpAny_pure h
  | _=>simp [hkB] at hd
def aU9 {Z Z':Zm} (k:∀ a o us n,Z a=some o->o.data=.seq us n->Z' a=some o):∀ (n:Nat) {d:PyData} {v:Value},hkB n d=true->Rep S Z d v->Rep S Z' d v:=by
 intro n;induction n with
 | zero =>
  intro d v hd r;cases d with
  | int i=>exact rep_i.mpr (rep_i.mp r)
  | str x=>exact rep_s.mpr (rep_s.mp r)
  | _=>simp [hkB] at hd
 | succ n ih =>
  intro d v hd r;cases d with
  | int i=>exact rep_i.mpr (rep_i.mp r)
  | str x=>exact rep_s.mpr (rep_s.mp r)
  | tuple xs =>
   rw [hkB] at hd;obtain ⟨a,o,us,rfl,z,⟨⟨m,rfl⟩,hz⟩,rr⟩:=rep_t.mp r;refine rep_t.mpr ⟨a,_,us,rfl,k _ _ _ _ z rfl,⟨⟨m,rfl⟩,hz⟩,?_⟩;clear r z hz;induction rr with
   | nil=>exact .nil
   | cons h1 _ ih2 =>
    rw [hksB,Bool.and_eq_true] at hd;exact .cons (ih hd.1 h1) (ih2 hd.2)
  | _=>simp [hkB] at hd
def bI1 {Z:Zm}:∀ (n m:Nat) {a b:PyData} {v:Value},hkB n a=true->hkB m b=true->Rep S Z a v->Rep S Z b v->a=b:=by
 intro n;induction n with
 | zero =>
  intro m a b v ha hb ra rb;cases a with
  | int i =>
   obtain ⟨t,rfl⟩:=rep_i.mp ra;cases b with
   | int j=>obtain ⟨t',e⟩:=rep_i.mp rb;cases e;rfl
   | str x=>obtain ⟨⟨t',e⟩,_⟩:=rep_s.mp rb;cases e
   | tuple x=>obtain ⟨_,_,_,e,_⟩:=rep_t.mp rb;cases e
   | _=>simp [hkB] at hb
  | str x =>
   obtain ⟨⟨t,rfl⟩,_⟩:=rep_s.mp ra;cases b with
   | int j=>obtain ⟨t',e⟩:=rep_i.mp rb;cases e
   | str x=>obtain ⟨⟨t',e⟩,_⟩:=rep_s.mp rb;cases e;rfl
   | tuple x=>obtain ⟨_,_,_,e,_⟩:=rep_t.mp rb;cases e
   | _=>simp [hkB] at hb
  | _=>simp [hkB] at ha
 | succ n ih =>
  intro m a b v ha hb ra rb;cases a with
  | int i =>
   obtain ⟨t,rfl⟩:=rep_i.mp ra;cases b with
   | int j=>obtain ⟨t',e⟩:=rep_i.mp rb;cases e;rfl
   | str x=>obtain ⟨⟨t',e⟩,_⟩:=rep_s.mp rb;cases e
   | tuple x=>obtain ⟨_,_,_,e,_⟩:=rep_t.mp rb;cases e
   | _=>simp [hkB] at hb
  | str x =>
   obtain ⟨⟨t,rfl⟩,_⟩:=rep_s.mp ra;cases b with
   | int j=>obtain ⟨t',e⟩:=rep_i.mp rb;cases e
   | str x=>obtain ⟨⟨t',e⟩,_⟩:=rep_s.mp rb;cases e;rfl
   | tuple x=>obtain ⟨_,_,_,e,_⟩:=rep_t.mp rb;cases e
   | _=>simp [hkB] at hb
  | tuple xs =>
   obtain ⟨a,k,us,rfl,z,rr⟩:=rC ra;cases b with
   | int j=>obtain ⟨t',e⟩:=rep_i.mp rb;cases e
   | str x=>obtain ⟨⟨t',e⟩,_⟩:=rep_s.mp rb;cases e
   | tuple ys =>
    cases m with
    | zero=>simp [hkB] at hb
    | succ m =>
     rw [hkB] at ha hb;obtain ⟨a',k',us',e,z',rr'⟩:=rC rb;cases e;rw [z] at z';injection z' with z'
     injection z' with _ _ z' _
     injection z' with z' _
     have e2:us=us':=by have:=congrArg Array.toList z';simpa using this
     subst e2;clear z z' ra rb
     congr 1
     induction rr generalizing ys with
     | nil=>cases rr';rfl
     | cons h1 _ ih2 =>
      cases rr' with
      | cons h2 t2 =>
       rw [hksB,Bool.and_eq_true] at ha hb;rw [ih m ha.1 hb.1 h1 h2,ih2 ha.2 _ hb.2 t2]
   | _=>simp [hkB] at hb
  | _=>simp [hkB] at ha
def cS (S:Sx):HeapKind S.P S.w HK where
 is:=fun h k a=>Rep S h.get? k.1 (.ref a)
 hash:=fun k=>hkH S.w k.1
 draws:=fun k=>hkD k.1
 room:=fun A=>A.units+5 < cLine
 inj:=fun {h a x y} hx hy=>Subtype.ext (bI1 4 4 x.2 y.2 hx hy)
 keeps:=fun {h h' k a d o es ep} hk ho hd hs=>aU9 (fun b ob us n e q=>(hs.2 b fun z=>by rw [z,ho] at e;cases e;rw [hd] at q;cases q).trans e) 4 k.2 hk
 pyHash:=fun {A E s k a Q} hu hk h=>aU8 4 k.2 hk (by omega) h
 eqBool:=fun {A E s x y a b Q} hu hx hy h=>by
  obtain ⟨⟨as,r1⟩,c1,d1⟩:=Rep.reads (hp:=s.heap) (fun _ _ e=>e) 4 hx (mL x.2);obtain ⟨⟨bs,r2⟩,c2,d2⟩:=Rep.reads (hp:=s.heap) (fun _ _ e=>e) 4 hy (mL y.2);exact SeqAt.eqBoolOverData _ _ A E s _ _ _ _ as bs Q r1 r2 c1 c2 (by have:=Nat.min_le_left x.1.depth y.1.depth;omega) (by rw [bV8];exact h)
 quiet:=fun {A E s k a Q} hk h=>aG7 4 8 (by decide) k.2 hk h
end
end DL

namespace DL
open PySem PySem.Spec PyProof.Rows L2
noncomputable def dQ:List (Pos×Str)->List Addr->List Value
 | q::qs,c::cs=>rawInt q.1.line::rawInt q.1.col::.ref c::dQ qs cs
 | _,_=>[]
def bE7 (Z:Zm) (q:Pos×Str) (c:Addr):Prop:=∃ o vs t,Z c=some o/\o.data=.fields vs/\vs[1]?=some (.str q.2 t)
def NdO (S:Sx) (h:Heap) (d:Addr) (xs:List (HK×Addr×Value)):Prop:=∃ o es ep,h.get? d=some o/\o.ExactDict/\o.data=.dict es ep/\es.toList=xs.map (entryOfKey (cS S))/\(xs.map (·.1)).Nodup
def hV (S:Sx) (Z:Zm):List (PyData×PyData)->List (HK×Addr×Value)->Prop:=Paired fun q x=>q.1=x.1.1/\Rep S Z q.1 (.ref x.2.1)/\Rep S Z q.2 x.2.2
abbrev bB (us:List Value) (n:Nat):Obj:={ cls:=.type "list",data:=.seq us.toArray n }
def CellOk (S:Sx) (M:Mp) (h:Heap) (p:Addr×Addr):Cell->Prop
 | .l xs=>∃ us n,h.get? p.1=some (bB us n)/\us.length<=sizeLine/\Reps' S M xs us
 | .r is=>∃ us n,h.get? p.1=some (bB us n)/\us.length<=sizeLine/\RepWs S M (is.map .c) us
 | .k kvs=>∃ vs,h.DictOf (bF S.P S.w) p.1 vs/\RepK S M.Z kvs vs/\(p.1==sysModules)=false/\vs.length<=sizeLine
 | .n kvs=>∃ xs,NdO S h p.1 xs/\hV S M.Z kvs xs/\(p.1==sysModules)=false/\xs.length<=sizeLine
 | .t qs=>∃ cs,h.get? p.1=some { cls:=.none,data:=.fields (S.tb++(dQ qs cs).toArray) }/\Paired (bE7 M.Z) qs cs/\p=(S.tp,S.tp)
 | .o C fs=>p.2≠p.1/\fs.length<=1000/\h.get? p.1=some (PySem.W.instObj C p.2)/\∃ mA,h.Ns1 p.2 mA/\(∀ f,RelO S M (fs.lookup f) (mA f))/\PySem.Within mA (fs.map (·.1))
def CellOk.go {S:Sx} {M M':Mp} {h h':Heap} {p:Addr×Addr} {c:Cell} (l:Le M M') (k:∀ a o,(a=p.1\/a=p.2)->h.get? a=some o->h'.get? a=some o) (x:CellOk S M h p c):CellOk S M' h' p c:=by
 cases c with
 | l xs=>obtain ⟨us,n,e,z,r⟩:=x;exact ⟨us,n,k _ _ (.inl rfl) e,z,r.go l⟩
 | r xs=>obtain ⟨us,n,e,z,r⟩:=x;exact ⟨us,n,k _ _ (.inl rfl) e,z,r.go l⟩
 | k xs=>obtain ⟨vs,⟨o,es,ep,e,q⟩,r,z⟩:=x;exact ⟨vs,⟨o,es,ep,k _ _ (.inl rfl) e,q⟩,r.go l,z⟩
 | t qs=>obtain ⟨cs,e,r,ep⟩:=x;exact ⟨cs,k _ _ (.inl rfl) e,rA (fun _ _ ⟨o,vs,t,a,b⟩=>⟨o,vs,t,l.z _ _ a,b⟩) r,ep⟩
 | n xs=>obtain ⟨vs,⟨o,es,ep,e,q⟩,r,z⟩:=x;exact ⟨vs,⟨o,es,ep,k _ _ (.inl rfl) e,q⟩,rA (fun _ _ t=>⟨t.1,Rep.go l.z t.2.1,Rep.go l.z t.2.2⟩) r,z⟩
 | o C fs=>obtain ⟨a,b,e,mA,⟨o,es,ep,e2,q⟩,r,z⟩:=x;exact ⟨a,b,k _ _ (.inl rfl) e,mA,⟨o,es,ep,k _ _ (.inr rfl) e2,q⟩,fun f=>(r f).go l,z⟩
def bK (κ:Kp) (M:Mp) (a:Addr):Prop:=M.Z a=none/\κ a=none/\∀ p∈M.m,p.1≠a/\p.2≠a
structure Mem (S:Sx) (κ:Kp) (M:Mp) (h:aA) (s:Shared):Prop where
 z:∀ a o,M.Z a=some o->s.heap.get? a=some o
 k:∀ a b o,κ a=some (b,o)->(b=true->s.heap.get? a=some o)/\(∃ sl,s.heap.get? a=some { o with slots:=sl })/\M.Z a=none
 len:M.m.length=h.length
 ap:∀ (i j:Nat) (p q:Addr×Addr),M.m[i]?=some p->M.m[j]?=some q->i≠j->p.1≠q.1/\p.1≠q.2/\p.2≠q.1/\p.2≠q.2
 off:∀ p∈M.m,∀ a,a=p.1\/a=p.2->M.Z a=none/\κ a=none/\∃ o,s.heap.get? a=some o
 cel:∀ (i:Nat) p c,M.m[i]?=some p->h[i]?=some c->CellOk S M s.heap p c
 base:∀ a o,S.base.get? a=some o->M.Z a=some o
 bare:AllBare s.gens
 os:s.os=S.os
section
variable {S:Sx} {κ:Kp} {M M':Mp} {h:aA} {s s':Shared} {h':Heap} {a:Addr} {o:Obj}
def Mem.bk (R:Mem S κ M h s):∀ b o,S.base.get? b=some o->s.heap.get? b=some o:=fun b o e=>R.z b o (R.base b o e)
def Mem.new (R:Mem S κ M h s) (e:s.heap.get? a=none):bK κ M a:=by
 refine ⟨?_,?_,fun p hp=>?_⟩
 ·cases q:M.Z a with
  | none=>rfl
  | some o=>rw [R.z a o q] at e;cases e
 ·cases q:κ a with
  | none=>rfl
  | some x=>obtain ⟨_,⟨_,z⟩,_⟩:=R.k a x.1 x.2 q;rw [z] at e;cases e
 ·refine ⟨fun z=>?_,fun z=>?_⟩
  ·obtain ⟨_,_,_,q⟩:=R.off p hp a (.inl z.symm);rw [q] at e;cases e
  ·obtain ⟨_,_,_,q⟩:=R.off p hp a (.inr z.symm);rw [q] at e;cases e
def Mem.size (R:Mem S κ M h s):bK κ M s.heap.objs.size:=R.new (Heap.get?_none_of_le (Nat.le_refl _))
def Mem.keep (R:Mem S κ M h s) (k:∀ b o,s.heap.get? b=some o->¬ bK κ M b->s'.heap.get? b=some o) (hg:AllBare s'.gens) (ho:s'.os=s.os):Mem S κ M h s' where
 z:=fun b o e=>k b o (R.z b o e) fun f=>by rw [f.1] at e;cases e
 k:=fun b t o e=>by
  have nf:¬ bK κ M b:=fun f=>by rw [f.2.1] at e;cases e
  obtain ⟨h1,⟨sl,h2⟩,h3⟩:=R.k b t o e;exact ⟨fun z=>k b o (h1 z) nf,⟨sl,k b _ h2 nf⟩,h3⟩
 len:=R.len
 ap:=R.ap
 off:=fun p hp b hb=>by
  obtain ⟨h1,h2,o,h3⟩:=R.off p hp b hb;exact ⟨h1,h2,o,k b o h3 fun f=>by rcases hb with e | e;exact (f.2.2 p hp).1 e.symm;exact (f.2.2 p hp).2 e.symm⟩
 cel:=fun i p c e1 e2=>(R.cel i p c e1 e2).go .refl fun b o hb q=>k b o q fun f=>by
  have hp:=List.mem_of_getElem? e1;rcases hb with e | e;exact (f.2.2 p hp).1 e.symm;exact (f.2.2 p hp).2 e.symm
 base:=R.base
 bare:=hg
 os:=ho.trans R.os
def Mem.kept {t:Nat} (R:Mem S κ M h s) (k:∀ b o,s.heap.get? b=some o->h'.get? b=some o):Mem S κ M h { s with heap:=h',toks:=t }:=R.keep (fun b o e _=>k b o e) R.bare rfl
def Mem.tok (R:Mem S κ M h s) (t:Nat):Mem S κ M h { s with toks:=t }:=R.kept (h':=s.heap) fun _ _ e=>e
noncomputable def Mp.add (M:Mp) (a:Addr) (o:Obj):Mp:=⟨fun b=>if b=a then some o else M.Z b,M.m⟩
def iO:(M.add a o).Z a=some o:=if_pos rfl
def Le.add (f:M.Z a=none):Le M (M.add a o):=⟨fun b u e=>by
 show (if b=a then some o else M.Z b)=some u;rw [if_neg (fun z=>by rw [z,f] at e;cases e)];exact e,[],by simp [Mp.add]⟩
def Mem.frz (R:Mem S κ M h s) (f:bK κ M a) (e:s.heap.get? a=some o):Mem S κ (M.add a o) h s where
 z:=fun b u q=>by
  by_cases hb:b=a
  ·subst hb;rw [iO] at q;cases q;exact e
  ·exact R.z b u (by rw [<- q];exact (if_neg hb).symm)
 k:=fun b t u q=>by
  obtain ⟨h1,h2,h3⟩:=R.k b t u q;refine ⟨h1,h2,?_⟩;show (if b=a then some o else M.Z b)=none;rw [if_neg (fun z=>by rw [z,f.2.1] at q;cases q)];exact h3
 len:=R.len
 ap:=R.ap
 off:=fun p hp b hb=>by
  obtain ⟨h1,h2,h3⟩:=R.off p hp b hb;refine ⟨?_,h2,h3⟩;show (if b=a then some o else M.Z b)=none;rw [if_neg (fun z=>by rcases hb with e | e;exact (f.2.2 p hp).1 (e.symm.trans z);exact (f.2.2 p hp).2 (e.symm.trans z))];exact h1
 cel:=fun i p c e1 e2=>(R.cel i p c e1 e2).go (.add f.1) fun _ _ _ q=>q
 base:=fun b u q=>(Le.add f.1).z b u (R.base b u q)
 bare:=R.bare
 os:=R.os
noncomputable def Mp.cel (M:Mp) (p:Addr×Addr):Mp:=⟨M.Z,M.m++[p]⟩
def Le.cel {p:Addr×Addr}:Le M (M.cel p):=⟨fun _ _ e=>e,[p],rfl⟩
def snoc_at {α:Type} {l:List α} {x y:α} {i:Nat} (e:(l++[x])[i]?=some y):l[i]?=some y\/(i=l.length/\y=x):=by
 by_cases hi:i < l.length
 ·rw [List.getElem?_append_left hi] at e;exact .inl e
 ·rw [List.getElem?_append_right (by omega)] at e;have:i - l.length=0:=by
   have:=(List.getElem?_eq_some_iff.mp e).1;simp at this;omega
  rw [this] at e;exact .inr ⟨by omega,by simpa using e.symm⟩
def Mem.add {p:Addr×Addr} {c:Cell} (R:Mem S κ M h s) (f:bK κ M p.1) (g:bK κ M p.2) (ep:(∃ o,s.heap.get? p.1=some o)/\∃ o,s.heap.get? p.2=some o) (x:CellOk S (M.cel p) s.heap p c):Mem S κ (M.cel p) (h++[c]) s where
 z:=R.z
 k:=R.k
 len:=by show (M.m++[p]).length=_;simp [R.len]
 ap:=fun i j q r e1 e2 ne=>by
  rcases snoc_at (show (M.m++[p])[i]?=some q from e1) with z1 | ⟨z1,y1⟩<;>rcases snoc_at (show (M.m++[p])[j]?=some r from e2) with z2 | ⟨z2,y2⟩
  ·exact R.ap i j q r z1 z2 ne
  ·have hq:=List.mem_of_getElem? z1;rw [y2];exact ⟨(f.2.2 q hq).1,(g.2.2 q hq).1,(f.2.2 q hq).2,(g.2.2 q hq).2⟩
  ·have hq:=List.mem_of_getElem? z2;rw [y1];exact ⟨(f.2.2 r hq).1.symm,(f.2.2 r hq).2.symm,(g.2.2 r hq).1.symm,(g.2.2 r hq).2.symm⟩
  ·omega
 off:=fun q hq b hb=>by
  rcases List.mem_append.mp (show q∈M.m++[p] from hq) with hq | hq
  ·exact R.off q hq b hb
  ·rw [List.mem_singleton.mp hq] at hb;rcases hb with e | e
   ·subst e;exact ⟨f.1,f.2.1,ep.1⟩
   ·subst e;exact ⟨g.1,g.2.1,ep.2⟩
 cel:=fun i q d e1 e2=>by
  rcases snoc_at (show (M.m++[p])[i]?=some q from e1) with e3 | ⟨e3,rfl⟩
  ·rw [List.getElem?_append_left (by rw [<- R.len];exact (List.getElem?_eq_some_iff.mp e3).1)] at e2;exact (R.cel i q d e3 e2).go .cel fun _ _ _ q=>q
  ·rcases snoc_at e2 with e2 | ⟨e2,rfl⟩
   ·have:=(List.getElem?_eq_some_iff.mp e2).1;rw [<- R.len] at this;omega
   ·exact x
 base:=R.base
 bare:=R.bare
 os:=R.os
def Mem.wr {i:Nat} {p:Addr×Addr} {c:Cell} (R:Mem S κ M h s) (ei:M.m[i]?=some p) (k:∀ b o,b≠p.1->b≠p.2->s.heap.get? b=some o->s'.heap.get? b=some o) (ep:(∃ o,s'.heap.get? p.1=some o)/\∃ o,s'.heap.get? p.2=some o)
  (hg:AllBare s'.gens) (ho:s'.os=s.os) (x:CellOk S M s'.heap p c):Mem S κ M (h.set i c) s':=by
 have hp:=List.mem_of_getElem? ei;have o1:=R.off p hp p.1 (.inl rfl);have o2:=R.off p hp p.2 (.inr rfl);refine ⟨fun b u e=>k b u (fun z=>?_) (fun z=>?_) (R.z b u e),fun b t u e=>?_,by rw [List.length_set];exact R.len,R.ap,fun q hq b hb=>?_,fun j q d e1 e2=>?_,R.base,hg,ho.trans R.os⟩
 ·rw [z,o1.1] at e;cases e
 ·rw [z,o2.1] at e;cases e
 ·obtain ⟨h1,⟨sl,h2⟩,h3⟩:=R.k b t u e;have n1:b≠p.1:=fun z=>by rw [z,o1.2.1] at e;cases e
  have n2:b≠p.2:=fun z=>by rw [z,o2.2.1] at e;cases e
  exact ⟨fun z=>k b u n1 n2 (h1 z),⟨sl,k b _ n1 n2 h2⟩,h3⟩
 ·obtain ⟨h1,h2,u,h3⟩:=R.off q hq b hb;refine ⟨h1,h2,?_⟩
  by_cases z1:b=p.1
  ·rw [z1];exact ep.1
  by_cases z2:b=p.2
  ·rw [z2];exact ep.2
  exact ⟨u,k b u z1 z2 h3⟩
 ·by_cases ij:i=j
  ·subst ij;rw [ei] at e1;cases e1;rw [List.getElem?_set_self (by rw [<- R.len];exact (List.getElem?_eq_some_iff.mp ei).1)] at e2;cases e2;exact x
  ·rw [List.getElem?_set_ne ij] at e2;obtain ⟨a1,a2,a3,a4⟩:=R.ap i j p q ei e1 ij;refine (R.cel j q d e1 e2).go .refl fun b u hb e=>k b u ?_ ?_ e
   ·rcases hb with z | z;exact fun y=>a1 (y.symm.trans z);exact fun y=>a2 (y.symm.trans z)
   ·rcases hb with z | z;exact fun y=>a3 (y.symm.trans z);exact fun y=>a4 (y.symm.trans z)
def Mem.less {κ':Kp} (R:Mem S κ' M h s) (k:∀ a x,κ a=some x->κ' a=some x):Mem S κ M h s :=
 ⟨R.z,fun a b o e=>R.k a b o (k a _ e),R.len,R.ap,fun p hp a ha=>(by
  obtain ⟨h1,h2,h3⟩:=R.off p hp a ha;refine ⟨h1,?_,h3⟩;cases q:κ a with
  | none=>rfl
  | some x=>rw [k a x q] at h2;cases h2),R.cel,R.base,R.bare,R.os⟩
noncomputable def Kp.up (κ:Kp) (a:Addr) (x:Bool×Obj):Kp:=fun b=>if b=a then some x else κ b
def dJ {x:Bool×Obj}:κ.up a x a=some x:=if_pos rfl
def bL {x:Bool×Obj} {b:Addr} (h:b≠a):κ.up a x b=κ b:=if_neg h
def Mem.more {b:Bool} (R:Mem S κ M h s) (f:M.Z a=none/\∀ p∈M.m,p.1≠a/\p.2≠a) (e:s.heap.get? a=some o):Mem S (κ.up a (b,o)) M h s :=
 ⟨R.z,fun c t u q=>by
  by_cases hc:c=a
  ·subst hc;rw [dJ] at q;cases q;exact ⟨fun _=>e,⟨_,e⟩,f.1⟩
  ·rw [bL hc] at q;exact R.k c t u q,R.len,R.ap,fun p hp c hc=>(by
  obtain ⟨h1,h2,h3⟩:=R.off p hp c hc;refine ⟨h1,?_,h3⟩;rw [bL fun z=>?_];exact h2;rcases hc with q | q;exact (f.2 p hp).1 (q.symm.trans z);exact (f.2 p hp).2 (q.symm.trans z)),R.cel,R.base,R.bare,R.os⟩
def Mem.kc {x:Bool×Obj} (R:Mem S κ M h s) (ea:κ a=some x):∀ p∈M.m,p.1≠a/\p.2≠a:=fun p hp =>
 have t:∀ b,b=p.1\/b=p.2->b≠a:=fun b hb z=>by
  have:=(R.off p hp b hb).2.1;rw [z,ea] at this;cases this
 ⟨t _ (.inl rfl),t _ (.inr rfl)⟩
def Mem.own {x:Bool×Obj} {b:Bool} (R:Mem S κ M h s) (ea:κ a=some x) (k:∀ b o,b≠a->s.heap.get? b=some o->s'.heap.get? b=some o) (e:s'.heap.get? a=some o) (hg:AllBare s'.gens) (ho:s'.os=s.os):Mem S (κ.up a (b,o)) M h s':=by
 have za:=(R.k a x.1 x.2 ea).2.2;have ca:∀ p∈M.m,p.1≠a/\p.2≠a:=R.kc ea;refine ⟨fun c u q=>k c u (fun z=>by rw [z,za] at q;cases q) (R.z c u q),fun c t u q=>?_,R.len,R.ap,fun p hp c hc=>?_,fun i p d e1 e2=>?_,R.base,hg,ho.trans R.os⟩
 ·by_cases hc:c=a
  ·subst hc;rw [dJ] at q;cases q;exact ⟨fun _=>e,⟨_,e⟩,za⟩
  ·rw [bL hc] at q;obtain ⟨h1,⟨sl,h2⟩,h3⟩:=R.k c t u q;exact ⟨fun z=>k c u hc (h1 z),⟨sl,k c _ hc h2⟩,h3⟩
 ·obtain ⟨h1,h2,u,h3⟩:=R.off p hp c hc;have hca:c≠a:=by rcases hc with q | q;exact q ▸ (ca p hp).1;exact q ▸ (ca p hp).2
  exact ⟨h1,by rw [bL hca];exact h2,u,k c u hca h3⟩
 ·have hp:=List.mem_of_getElem? e1;refine (R.cel i p d e1 e2).go .refl fun c u hc q=>k c u ?_ q;rcases hc with q | q;exact q ▸ (ca p hp).1;exact q ▸ (ca p hp).2
end
end DL

namespace L2
open PySem
noncomputable def bM (s:Stmt):Arguments:=match s with
 | .FunctionDef _ a _ _ _ _ _ _ _ _=>a
 | _=>{ posonlyargs:=[],args:=[],vararg:=none,kwonlyargs:=[],kw_defaults:=[],kwarg:=none,defaults:=[] }
noncomputable def bA (s:Stmt):List Stmt:=match s with
 | .FunctionDef _ _ b _ _ _ _ _ _ _=>b
 | _=>[]
noncomputable def defScope (s:Stmt):Scope:=match s with
 | .FunctionDef _ _ _ _ _ _ sc _ _ _=>sc
 | _=>{ kind:=.module,names:=[],isGenerator:=false,isCoroutine:=false,more:=[] }
noncomputable def ixN (n:Nat) (i:Int):Option Nat:=if 0<=i then (if i < n then some i.toNat else none) else if -(n:Int)<=i then some (i+n).toNat else none
def atI {α:Type} (xs:List α) (i:Int):Option α:=(ixN xs.length i).bind fun j=>xs[j]?
end L2
namespace ST
open PySem PyProof.Rows
noncomputable def dd (ns:List Int):List Int:=ns.foldl step_dedup []
noncomputable def srt (ns:List Int):List Int:=ns.mergeSort fun a b=>decide (a<=b)
end ST
namespace DL
open PySem PySem.Spec PyProof.Rows L2
noncomputable def ref (h:aA):W->Option PyData
 | .d x=>some x
 | .c i=>match h[i]? with
  | some (.l xs)=>some (.list xs)
  | some (.k kvs)=>some (.dict kvs)
  | _=>none
noncomputable def bV9:W->List Nat
 | .c i=>[i]
 | _=>[]
def cRefs:Cell->List Nat
 | .o _ fs=>(fs.map fun p=>bV9 p.2).flatten
 | .r is=>is
 | _=>[]
def okP (h h1:aA):Prop:=∀ (i:Nat) (c:Cell),i < h.length->h1[i]?=some c->(∀ j∈cRefs c,j < h.length)\/h[i]?=some c
noncomputable def isSame:PyData->PyData->Option Bool
 | .none,.none=>some true
 | .bool a,.bool b=>some (a==b)
 | .none,.bool _=>some false
 | .bool _,.none=>some false
 | .int _,.none=>some false
 | .int _,.bool _=>some false
 | .str _,.none=>some false
 | .str _,.bool _=>some false
 | .list _,.none=>some false
 | .list _,.bool _=>some false
 | .tuple _,.none=>some false
 | .tuple _,.bool _=>some false
 | _,_=>none
noncomputable def eR:List PyData->Option (List Bool)
 | []=>some []
 | .bool b::r=>(eR r).map (b::·)
 | _::_=>none
noncomputable def fE:PyData->String
 | .none=>"NoneType"
 | .bool _=>"bool"
 | .int _=>"int"
 | .str _=>"str"
 | .list _=>"list"
 | .tuple _=>"tuple"
 | .dict _=>"dict"
def isi (d:PyData) (T:String):Bool:=fE d==T||(fE d=="bool"&&T=="int")
def lH (kvs:List (PyData×PyData)) (k v:PyData):List (PyData×PyData) :=
 if (kvs.any fun p=>decide (bU p.1=bU k))=true then kvs.map (fun p=>if bU p.1=bU k then (p.1,v) else p) else kvs++[(k,v)]
def putN (kvs:List (PyData×PyData)) (k v:PyData):List (PyData×PyData) :=
 if (kvs.any fun p=>CI.peq p.1 k)=true then kvs.map (fun p=>if CI.peq p.1 k=true then (p.1,v) else p) else kvs++[(k,v)]
noncomputable def cT:PyData->Bool
 | .tuple _=>true
 | _=>false
noncomputable def dY (f:Str) (w:W):List (Str×W)->List (Str×W)
 | []=>[(f,w)]
 | (g,x)::r=>if g=f then (g,w)::r else (g,x)::dY f w r
def cut (xs:List PyData) (lo hi:Option Int):List PyData:=(xs.drop (HT.sIx xs.length 0 lo)).take (HT.sIx xs.length xs.length hi - HT.sIx xs.length 0 lo)
noncomputable def aP (ixs:List (Option Nat)) (δ:DSt):DSt:=ixs.map fun o=>o.bind fun i=>(δ[i]?).bind id
noncomputable def dZ (N:List Str) (ws:List W):DSt:=ws.map some++List.replicate (N.length - ws.length) none
noncomputable def rng (lo:Int) (n:Nat):List PyData:=(List.range n).map fun (i:Nat)=>.int (lo+(i:Int))
noncomputable def gC:W->Option (List PyData)
 | .d (.list xs)=>some xs
 | .d (.tuple xs)=>some xs
 | _=>none
noncomputable def jU (xs ys:List PyData):List PyData:=List.zipWith (fun x y=>.tuple [x,y]) xs ys
noncomputable def gZ (k:Nat):List PyData->List PyData
 | []=>[]
 | x::r=>.tuple [.int k,x]::gZ (k+1) r
def eT (xs:List PyData):List PyData:=gZ 0 xs
noncomputable def dF:List PyData->Option (List Int)
 | []=>some []
 | .int i::r=>(dF r).map (i::·)
 | _=>none
noncomputable def gD:List W->Option (List PyData)
 | []=>some []
 | .d x::r=>(gD r).map (x::·)
 | _::_=>none
end DL

namespace CI
open PySem PySem.Spec PyProof.Rows L2 DL ST

abbrev XR (α:Type):=DSt->aA->Option (α×aA)
set_option genInjectivity true in
inductive Fl where
 | nx (δ:DSt) | rt (w:W) | bk (δ:DSt) | ct (δ:DSt)
abbrev XS:=DSt->aA->Option (Fl×aA)
abbrev XG:=W->DSt->aA->Option (DSt×aA)
abbrev XF:=List W->aA->Option (PyData×aA)
abbrev XFW:=List W->aA->Option (W×aA)
structure ObS where
 fnW:Str->Option XFW
 cls:Str->Option (Addr×XFW)
 om:Str->Option (Addr×XFW)
 fo:Addr->Str->Bool
noncomputable def xno {α:Type}:XR α:=fun _ _=>none
noncomputable def aC {α:Type} (a:α):XR α:=fun _ h=>some (a,h)
noncomputable def xb {α β:Type} (x:XR α) (f:α->XR β):XR β:=fun δ h=>(x δ h).bind fun p=>f p.1 δ p.2
structure Sta where
 bl:List Str
 gc:Str->Option PyData
 tk:Str->Option (Str->Option Int)
 fn:Str->Option XF
 ac:Str->List Nat
 cv:List Str
 N:List Str
 S:Scope
 top:Bool
 fuel:Nat
 ob:ObS
 qn:Option (Str×Pos)
structure Evs where
 E:Sta->Expr->XR W
 T:Sta->Expr->XR Bool
 F:Sta->Expr->XR (List PyData)
 G:Sta->Expr->XG
 S:Sta->Stmt->XS
def Evs.no:Evs:=⟨fun _ _=>xno,fun _ _=>xno,fun _ _=>xno,fun _ _ _ _ _=>none,fun _ _ _ _=>none⟩

noncomputable def eE (x:Str):Bool:=!(x==("__debug__":Str))&&(!(x==("__classdict__":Str))&&!(x==("__name__":Str)))
noncomputable def bI2 (S:Scope) (x:Str):Bool:=match S.names.lookup x with
 | some .local=>true
 | some .cell=>true
 | some .free=>true
 | _=>false
noncomputable def rD (S:Scope) (x:Str):Bool:=match S.names.lookup x with
 | some .local=>true
 | some .cell=>true
 | _=>false
noncomputable def cU (S:Scope) (x:Str):Bool:=match S.names.lookup x with
 | some .local=>true
 | _=>false
noncomputable def glB (S:Scope) (x:Str):Bool:=match S.names.lookup x with
 | some .globalImplicit=>true
 | _=>false
noncomputable def slot (st:Sta) (x:Str):Option Nat:=st.N.findIdx? (·==x)
noncomputable def aB (i:Nat):XR W:=fun δ h=>match δ[i]? with
 | some (some w)=>some (w,h)
 | _=>none
def cJ (st:Sta) (x:Str):Bool:=eE x&&glB st.S x
def aG8 (st:Sta) (x:Str):XR W:=if eE x=true then
  (match slot st x with
   | some i=>if bI2 st.S x=true then aB i else xno
   | none=>(match st.gc x with
    | some d=>if glB st.S x=true then aC (.d d) else xno
    | none=>xno))
 else xno
def aG9:Const->XR W
 | .none=>aC (.d .none)
 | .bool b=>aC (.d (.bool b))
 | .int i=>aC (.d (.int i))
 | .str x=>if PyData.strOk x=true then aC (.d (.str x)) else xno
 | _=>xno

noncomputable def fV (i j:Int):Bool:=(decide (-(2^64) < i)&&decide (i < 2^64))||(decide (-(2^64) < j)&&decide (j < 2^64))
noncomputable def aT (j:Int):Bool:=decide (0 < j)&&(decide (j < 1073741824)||decide (j.natAbs.log2 < 8000))
noncomputable def xZ (i j:Int):Bool:=decide (0<=j)&&(decide (j<=1000000)&&decide (i.natAbs < 2^64))
def aV0 (u w:W) (h:aA):Option (W×aA):=match u,w with
 | .d (.int i),.d (.int j)=>some (.d (.int (i+j)),h)
 | .d (.tuple xs),.d (.tuple ys)=>if xs.length+ys.length<=sizeLine then some (.d (.tuple (xs++ys)),h) else none
 | _,_=>(match ref h u,ref h w with
  | some (.list xs),some (.list ys)=>if xs.length+ys.length<=sizeLine then some (.d (.list (xs++ys)),h) else none
  | _,_=>none)
def bW0 (u w:W) (h:aA):Option (W×aA):=match u,w with
 | .d (.int i),.d (.int j)=>if fV i j=true then some (.d (.int (i*j)),h) else none
 | _,_=>none
def fM (op:Operator) (u w:W) (h:aA):Option (W×aA):=match op with
 | .Add=>aV0 u w h
 | .Mult=>bW0 u w h
 | _=>(match u,w with
  | .d (.int i),.d (.int j)=>(match op with
   | .Sub=>some (.d (.int (i - j)),h)
   | .FloorDiv=>if aT j=true then some (.d (.int (i / j)),h) else none
   | .Mod=>if 0 < j then some (.d (.int (i%j)),h) else none
   | .Pow=>if xZ i j=true then some (.d (.int (i^j.toNat)),h) else none
   | .RShift=>if 0<=j then some (.d (.int (i / 2^j.toNat)),h) else none
   | .BitAnd=>some (.d (.int (Builtin.bitAnd i j)),h)
   | _=>none)
  | _,_=>none)
noncomputable def cN8:CmpOp->Option (Int->Int->Bool)
 | .Lt=>some fun i j=>decide (i < j)
 | .LtE=>some fun i j=>decide (i<=j)
 | .Gt=>some fun i j=>decide (j < i)
 | .GtE=>some fun i j=>decide (j<=i)
 | _=>none
def xEq (u w:W) (h:aA):Option Bool:=match ref h u,ref h w with
 | some a,some b=>if (aI 64 a&&aI 64 b)=true then some (PyData.eqv a b) else none
 | _,_=>none
def xIs (u w:W):Option Bool:=match u,w with
 | .d a,.d b=>DL.isSame a b
 | _,_=>none
noncomputable def hW (w:W) (h:aA):Option (List (PyData×PyData)):=match w with
 | .c j=>(match h[j]? with
  | some (.n kvs)=>some kvs
  | _=>none)
 | _=>none
def aV1 (d:PyData) (w:W) (h:aA):Option Bool:=(hW w h).bind fun kvs=>if (cT d&&hkB 4 d)=true then some (kvs.any fun p=>peq p.1 d) else none
def cN9 (d:PyData) (w:W) (h:aA):Option (W×aA):=(hW w h).bind fun kvs=>if (cT d&&hkB 4 d)=true then (kvs.find? fun p=>peq p.1 d).map fun p=>(.d p.2,h) else none
def xIn (u w:W) (h:aA):Option Bool:=match ref h u,ref h w with
 | some d,some (.list xs)=>if (aI 64 (.list xs)&&aI 64 d)=true then some (xs.any fun z=>PyData.eqv z d) else none
 | some d,some (.tuple xs)=>if (aI 64 (.tuple xs)&&aI 64 d)=true then some (xs.any fun z=>PyData.eqv z d) else none
 | some d,some (.dict kvs)=>(match bU d with
  | some k=>some (kvs.any fun p=>decide (bU p.1=some k))
  | none=>if (kvs.isEmpty&&(cT d&&hkB 4 d))=true then some false else none)
 | some d,none=>aV1 d w h
 | _,_=>none
def dR (op:CmpOp) (u w:W) (h:aA):Option (Bool×aA):=match op with
 | .Eq=>(xEq u w h).map fun b=>(b,h)
 | .NotEq=>(xEq u w h).map fun b=>(!b,h)
 | .Is=>(xIs u w).map fun b=>(b,h)
 | .IsNot=>(xIs u w).map fun b=>(!b,h)
 | .In=>(xIn u w h).map fun b=>(b,h)
 | .NotIn=>(xIn u w h).map fun b=>(!b,h)
 | _=>(match u,w with
  | .d (.int i),.d (.int j)=>(cN8 op).map fun p=>(p i j,h)
  | _,_=>none)
noncomputable def asW (p:Bool×aA):W×aA:=(.d (.bool p.1),p.2)
def xIr (u:W) (k:Int) (h:aA):Option (W×aA):=match u with
 | .c j=>(match h[j]? with
  | some (.r is)=>(atI is k).map fun m=>(.c m,h)
  | _=>none)
 | _=>none
def xIx (u w:W) (h:aA):Option (W×aA):=match ref h u,w with
 | some (.list xs),.d (.int i)=>(atI xs i).map fun v=>(.d v,h)
 | some (.tuple xs),.d (.int i)=>(atI xs i).map fun v=>(.d v,h)
 | some (.dict kvs),.d d=>(match bU d with
  | some k=>(kvs.find? fun p=>decide (bU p.1=some k)).map fun p=>(.d p.2,h)
  | none=>none)
 | none,.d (.int k)=>xIr u k h
 | none,.d (.tuple ks)=>cN9 (.tuple ks) u h
 | _,_=>none
def xSl (u:W) (lo hi:Option Int) (h:aA):Option (W×aA):=match u with
 | .d (.tuple xs)=>some (.d (.tuple (cut xs lo hi)),h)
 | _=>(match ref h u with
  | some (.list xs)=>some (.d (.list (cut xs lo hi)),h)
  | _=>none)

noncomputable def aV2 (w:W) (h:aA):Option Nat:=match w with
 | .c j=>(match h[j]? with
  | some (.r is)=>some is.length
  | some (.n kvs)=>some kvs.length
  | _=>none)
 | _=>none
def aZ:List W->aA->Option (W×aA)
 | [w],h=>(match ref h w with
  | some (.list xs)=>some (.d (.int xs.length),h)
  | some (.tuple xs)=>some (.d (.int xs.length),h)
  | none=>(aV2 w h).map fun n=>(.d (.int n),h)
  | _=>none)
 | _,_=>none
def bG:List W->aA->Option (W×aA)
 | [w],h=>(match ref h w with
  | some (.list xs)=>some (.d (.tuple xs),h)
  | some (.tuple xs)=>some (.d (.tuple xs),h)
  | _=>none)
 | _,_=>none
def hX:List W->aA->Option (W×aA)
 | [w],h=>(match ref h w with
  | some (.list xs)=>(eR xs).map fun bs=>(.d (.bool (bs.all id)),h)
  | _=>none)
 | _,_=>none
noncomputable def aH0:List W->aA->Option (W×aA)
 | [.d (.bool b)],h=>some (.d (.int (if b then 1 else 0)),h)
 | _,_=>none
noncomputable def pdS:(x:PyData)->Option {y:Int×PyData // x=.tuple [.int y.1,y.2]}
 | .tuple [.int k,v]=>some ⟨(k,v),rfl⟩
 | _=>none
def gE:List PyData->Option (List (PyData×PyData))
 | []=>some []
 | x::r=>(pdS x).bind fun y=>(gE r).map ((.int y.1.1,y.1.2)::·)
def rE (kvs:List (PyData×PyData)):List (PyData×PyData):=kvs.foldl (fun a p=>lH a p.1 p.2) []
def bI3 (x:Str):Option (List W->aA->Option (W×aA)) :=
 if x="len" then some aZ else if x="tuple" then some bG else if x="all" then some hX else if x="int" then some aH0 else none
noncomputable def aV3 (T:Str):Option String :=
 if T="int" then some "int" else if T="bool" then some "bool" else if T="str" then some "str" else if T="tuple" then some "tuple" else if T="list" then some "list" else none

def condB:Option Nat->List PyData->aA->Bool
 | none,_,_=>true
 | some i,xs,h=>(match h[i]? with
  | some (.l ys)=>peqs ys xs
  | _=>false)

def aX (g:XG) (tb:XS) (c:Option Nat) (all:List PyData):List PyData->DSt->aA->Option (Fl×aA)
 | [],δ,h=>if condB c all h=true then some (.nx δ,h) else none
 | x::r,δ,h=>if condB c all h=true then
   (g (.d x) δ h).bind fun p=>(tb p.1 p.2).bind fun q=>(match q.1 with
    | .nx δ'=>aX g tb c all r δ' q.2
    | .ct δ'=>aX g tb c all r δ' q.2
    | .bk δ'=>some (.nx δ',q.2)
    | .rt w=>some (.rt w,q.2))
  else none
def aN (g:XG) (tt:XR Bool) (te:XR W) (c:Option Nat) (all:List PyData):List PyData->DSt->aA->List PyData->Option (List PyData×aA)
 | [],_,h,ac=>if condB c all h=true then some (ac,h) else none
 | x::r,δ,h,ac=>if condB c all h=true then
   (g (.d x) δ h).bind fun p=>(tt p.1 p.2).bind fun q=>if q.1=true then
     (te p.1 q.2).bind fun y=>(match y.1 with
      | .d z=>aN g tt te c all r p.1 y.2 (ac++[z])
      | _=>none)
    else aN g tt te c all r p.1 q.2 ac
  else none
noncomputable def bR (c:XR Bool) (tb:XS):Nat->DSt->aA->Option (Fl×aA)
 | 0,_,_=>none
 | n+1,δ,h=>(c δ h).bind fun p=>if p.1=true then
   (tb δ p.2).bind fun q=>(match q.1 with
    | .nx δ'=>bR c tb n δ' q.2
    | .ct δ'=>bR c tb n δ' q.2
    | .bk δ'=>some (.nx δ',q.2)
    | .rt w=>some (.rt w,q.2))
  else some (.nx δ,p.2)
noncomputable def aG:Expr->Bool
 | .Starred _ _=>false
 | _=>true
noncomputable def aS (x:XR (List PyData)):XR W:=fun δ h=>(x δ h).bind fun p=>some (.c p.2.length,p.2++[.l p.1])
noncomputable def aM (x:XR (List PyData)):XR W:=fun δ h=>(x δ h).bind fun p=>some (.d (.list p.1),p.2)
def kW (f:Str->Option Int) (x:XR W):XR Bool:=xb x fun w=>(match w with
 | .d (.str s)=>aC (!(f s).isSome)
 | .d .none=>aC true
 | _=>xno)
def xC1 (op:CmpOp) (x y:XR W):XR Bool:=xb x fun u=>xb y fun w=>fun _ h=>dR op u w h
def xC2 (op op':CmpOp) (x y z:XR W):XR Bool:=xb x fun u=>xb y fun w=>fun δ h=>(dR op u w h).bind fun p=>if p.1=true then (z δ p.2).bind fun q=>dR op' w q.1 q.2 else some (false,p.2)
def xC3 (op op' op'':CmpOp) (x y z t:XR W):XR Bool:=xb x fun u=>xb y fun w=>fun δ h=>(dR op u w h).bind fun p =>
 if p.1=true then (z δ p.2).bind fun q=>(dR op' w q.1 q.2).bind fun p'=>if p'.1=true then (t δ p'.2).bind fun q'=>dR op'' q.1 q'.1 q'.2 else some (false,p'.2) else some (false,p.2)
def cG (x:XR Bool):XR W:=fun δ h=>(x δ h).map asW
noncomputable def jV:List XG->List PyData->DSt->aA->Option (DSt×aA)
 | [],[],δ,h=>some (δ,h)
 | g::gs,x::xs,δ,h=>(g (.d x) δ h).bind fun p=>jV gs xs p.1 p.2
 | _,_,_,_=>none
def bV (gs:List XG):XG:=fun w δ h=>(match w with
 | .d (.tuple xs)=>jV gs xs δ h
 | _=>none)
section
variable (v:Evs) (st:Sta)
def aR:List Expr->XR (List W)
 | []=>aC []
 | e::es=>if aG e=true then xb (v.E st e) fun w=>xb (aR es) fun ws=>aC (w::ws) else xno
noncomputable def aH1:Expr->Bool
 | .Name _ _=>true
 | _=>false
def hZ (l:List Nat):Nat->List Expr->XR (List W)
 | _,[]=>aC []
 | n,e::es=>if aG e=true then xb (if (l.contains n&&!aH1 e)=true then aS (v.F st e) else v.E st e) fun w=>xb (hZ l (n+1) es) fun ws=>aC (w::ws) else xno
def mO:Option Expr->XR (Option Int)
 | none=>aC none
 | some e=>xb (v.E st e) fun w=>(match w with
  | .d (.int i)=>aC (some i)
  | _=>xno)
def aH2:List Expr->XR W
 | []=>xno
 | [a]=>v.E st a
 | a::b::r=>xb (v.E st a) fun w=>(match w with
  | .d (.bool true)=>aH2 (b::r)
  | .d (.bool false)=>aC (.d (.bool false))
  | _=>xno)
def bI4:List Expr->XR W
 | []=>xno
 | [a]=>v.E st a
 | a::b::r=>xb (v.E st a) fun w=>(match w with
  | .d (.bool true)=>aC (.d (.bool true))
  | .d (.bool false)=>bI4 (b::r)
  | _=>xno)
def aH3:List Expr->XR Bool
 | []=>xno
 | [a]=>v.T st a
 | a::b::r=>xb (v.T st a) fun c=>if c=true then aH3 (b::r) else aC false
def bI5:List Expr->XR Bool
 | []=>xno
 | [a]=>v.T st a
 | a::b::r=>xb (v.T st a) fun c=>if c=true then aC true else bI5 (b::r)
def iP:Expr->Option (Str->Option Int)
 | .Name x _=>if cJ st x&&(slot st x).isNone then st.tk x else none
 | _=>none
def fF (a:Expr) (ops:List CmpOp) (cs:List Expr):XR Bool:=match ops,cs with
 | [op],[b]=>(match iP st b with
  | some f=>if op=.NotIn then kW f (v.E st a) else xno
  | none=>if behindInMarks op b=true then xno else xC1 op (v.E st a) (v.E st b))
 | [op,op'],[b,c]=>if lastMarks [op,op'] [b,c]=true then xno else xC2 op op' (v.E st a) (v.E st b) (v.E st c)
 | _,_=>xno
def jW (a:Expr) (ops:List CmpOp) (cs:List Expr):XR Bool:=match ops,cs with
 | [op,op',op''],[b,c,d]=>if lastMarks [op,op',op''] [b,c,d]=true then xno else xC3 op op' op'' (v.E st a) (v.E st b) (v.E st c) (v.E st d)
 | _,_=>fF v st a ops cs
noncomputable def fB (i j:Int):Bool:=decide (j - i<=16000000)&&(decide (-(2^62)<=i)&&(decide (i < 2^62)&&(decide (-(2^62)<=j)&&decide (j < 2^62))))
def aU (x:XR W):XR (List PyData×Option Nat):=xb x fun w=>fun _ h=>(match w with
 | .d (.list xs)=>some ((xs,none),h)
 | .d (.tuple xs)=>some ((xs,none),h)
 | .c i=>(match h[i]? with
  | some (.l xs)=>some ((xs,some i),h)
  | _=>none)
 | _=>none)
noncomputable def iQ:Expr->Bool
 | .Set _ _ _=>true
 | _=>false
noncomputable def yA:Expr->Bool
 | .Tuple _ _ _=>true
 | _=>false
noncomputable def itS:(e:Expr)->Option {y:Str×Expr×Option Expr // ∃ p q,e=.Call (.Name y.1 p) (y.2.1::y.2.2.toList) [] q}
 | .Call (.Name x p) [a] [] q=>some ⟨(x,a,none),p,q,rfl⟩
 | .Call (.Name x p) [a,b] [] q=>some ⟨(x,a,some b),p,q,rfl⟩
 | _=>none
def pD (tg e:Expr):XR (List PyData×Option Nat):=match itS e with
 | some ⟨(x,a,none),_⟩=>if x="range" then (if cJ st x&&(slot st x).isNone&&st.bl.contains x&&aG a then xb (v.E st a) fun w=>fun _ h=>(match w with
   | .d (.int j)=>if fB 0 j=true then some ((rng 0 j.toNat,none),h) else none
   | _=>none) else xno)
  else if x="enumerate" then (if cJ st x&&(slot st x).isNone&&st.bl.contains x&&aG a&&yA tg then xb (v.E st a) fun u=>fun _ h=>(match gC u with
   | some xs=>some ((eT xs,none),h)
   | none=>none) else xno)
  else aU (v.E st e)
 | some ⟨(x,a,some b),_⟩=>if x="range" then (if cJ st x&&(slot st x).isNone&&st.bl.contains x&&aG a&&aG b then xb (v.E st a) fun u=>xb (v.E st b) fun w=>fun _ h=>(match u,w with
   | .d (.int i),.d (.int j)=>if fB i j=true then some ((rng i (j - i).toNat,none),h) else none
   | _,_=>none) else xno)
  else if x="zip" then (if cJ st x&&(slot st x).isNone&&st.bl.contains x&&aG a&&aG b&&yA tg then xb (v.E st a) fun u=>xb (v.E st b) fun w=>fun _ h=>(match gC u,gC w with
   | some xs,some ys=>some ((jU xs ys,none),h)
   | _,_=>none) else xno)
  else aU (v.E st e)
 | none=>if iQ e=true then xno else aU (v.E st e)
noncomputable def iR (sc:Scope):List Str:=(sc.names.filter fun p=>(p.2==.local||p.2==.free)&&!(p.1==(".0":Str))).map (·.1)
def fW (N:List Str) (sc:Scope):List (Option Nat):=(iR sc).map fun x=>if sc.names.lookup x=some .free then N.findIdx? (·==x) else none
noncomputable def bI6 (sc S:Scope):Scope:={ sc with names:=sc.names.map fun (n,k)=>if (k==.free&&S.kind==.function&&S.names.lookup n==some .cell) then (n,.cell) else (n,k) }
def pE (N:List Str) (sc S:Scope):Bool :=
 decide (sc.kind=.function)&&((sc.names.all fun y=>!(y.2==.cell))&&((sc.names.all fun y=>!(y.2==.local)||(sc.names.lookup y.1==some .local)) &&
  ((sc.names.all fun y=>!(y.2==.free)||(S.names.lookup y.1==some .cell||S.names.lookup y.1==some .free))&&(decide (iR sc).Nodup &&
   (((fW N sc).zip (iR sc)).all fun p=>match p.1 with
    | none=>true
    | some i=>decide (N[i]?=some p.2)&&decide (sc.names.lookup p.2=some NameKind.free))))))
def Sta.blk (sc:Scope):Sta:={ st with N:=iR sc,S:=bI6 sc st.S,top:=false,qn:=none }
def aV4:List Expr->XR Bool
 | []=>aC true
 | [c]=>v.T st c
 | _=>xno
def kX (elt tg iter:Expr) (ifs:List Expr) (sc:Scope):XR (List PyData) :=
 if pE st.N sc st.S&&!iQ iter then xb (pD v st tg iter) fun p=>fun δ h=>aN (v.G (st.blk sc) tg) (aV4 v (st.blk sc) ifs) (v.E (st.blk sc) elt) p.2 p.1 p.1 (aP (fW st.N sc) δ) h [] else xno
def rF:List W->aA->Option (List PyData×aA)
 | [w],h=>(match ref h w with
  | some (.list xs)=>(dF xs).bind fun ns=>if ns.length < 64 then some ((ST.srt ns).map .int,h) else none
  | some (.tuple xs)=>(dF xs).bind fun ns=>if ns.length < 64 then some ((ST.srt ns).map .int,h) else none
  | _=>none)
 | _,_=>none
noncomputable def bI7:(z:PyData)->Option {k:Int // ∃ a b i,z=.tuple [.bool a,.bool b,.int i]/\(0<=i/\i < 1000000)/\k=(if a=true then 2000000 else 0)+(if b=true then 1000000 else 0)+i}
 | .tuple [.bool a,.bool b,.int i]=>if h:0<=i/\i < 1000000 then some ⟨(if a=true then 2000000 else 0)+(if b=true then 1000000 else 0)+i,a,b,i,rfl,h,rfl⟩ else none
 | _=>none
def aH4 (z:PyData):Option Int:=(bI7 z).map (·.1)
def mP:List PyData->Option (List Int)
 | []=>some []
 | z::zs=>(aH4 z).bind fun k=>(mP zs).map fun ks=>k::ks
noncomputable def aH5 (ks:List Int) (xs:List PyData):List PyData:=((ks.zip xs).mergeSort fun a b=>decide (b.1<=a.1)).map (·.2)
noncomputable def fX (f:XR W) (δ:DSt) (i:Nat):List PyData->aA->Option (List PyData×aA)
 | [],h=>some ([],h)
 | x::xs,h=>(f (δ.set i (some (.d x))) h).bind fun p=>(match p.1 with
  | .d z=>(fX f δ i xs p.2).bind fun q=>some (z::q.1,q.2)
  | _=>none)
noncomputable def cO0:(kws:List Keyword)->Option {y:Arg×Expr×Scope×Pos // ∃ p1 p2 j p3,kws=[⟨some "key",.Lambda ⟨[],[y.1],none,[],[],none,[]⟩ y.2.1 y.2.2.1 y.2.2.2,p1⟩,⟨some "reverse",.Constant (.bool true) j p3,p2⟩]}
 | [⟨some k1,.Lambda ⟨[],[a],none,[],[],none,[]⟩ body sc lp,p1⟩,⟨some k2,.Constant (.bool true) j p3,p2⟩]=>if h:k1="key"/\k2="reverse" then some ⟨(a,body,sc,lp),p1,p2,j,p3,by rw [h.1,h.2]⟩ else none
 | _=>none
def tC (kws:List Keyword):Option (Arg×Expr×Scope×Pos):=(cO0 kws).map (·.1)
noncomputable def atP (pos:Pos) (q:Pos×Str):Bool:=q.1.line==pos.line&&q.1.col==pos.col
def tD (pos:Pos) (q:Str) (qs:List (Pos×Str)):Option (List (Pos×Str)):=match qs.find? (atP pos) with
 | some r=>if r.2=q then some qs else none
 | none=>some (qs++[(pos,q)])
def Sta.lam (sc:Scope):Sta:={ st with N:=iR sc,S:=sc,top:=false,qn:=none }
def aV5 (q:Str×Pos) (a:Arg) (sc:Scope) (lp:Pos):Bool:=decide (lp=q.2)&&(pE st.N sc st.S&&(!sc.isCoroutine&&(!sc.isGenerator&&decide (sc.names.lookup a.arg=some .local))))
def mQ (f:XR W) (ixs:List (Option Nat)) (i:Nat) (q:Str) (lp:Pos) (w:W):XR (List PyData):=fun δ h=>(match ref h w,(h[0]?:Option Cell) with
 | some (.list xs),some (.t ts)=>(tD lp q ts).bind fun ts'=>(fX f (aP ixs δ) i xs (h.set 0 (.t ts'))).bind fun z=>(mP z.1).bind fun ks=>if ks.Nodup/\xs.length<=6 then some (aH5 ks xs,z.2) else none
 | _,_=>none)
def aV6 (e:Expr) (kws:List Keyword):XR (List PyData):=match st.qn,tC kws with
 | some q,some (a,body,sc,lp)=>if aV5 st q a sc lp=true then (match (iR sc).findIdx? (·==a.arg) with
  | some i=>xb (aR v st [e]) fun ws=>(match ws with
   | [w]=>mQ (v.E (st.lam sc) body) (fW st.N sc) i (q.1++"<lambda>") lp w
   | _=>xno)
  | none=>xno) else xno
 | _,_=>xno
def xPl (x:XR (List W)):XR (List PyData):=xb x fun ws=>fun _ h=>(match gD ws with
 | some xs=>if xs.length<=sizeLine then some (xs,h) else none
 | none=>none)
noncomputable def rgS:(l:List Expr)->Option {b:Expr // ∃ p q,l=[.Call (.Name "range" p) [b] [] q]}
 | [.Call (.Name y p) [b] [] q]=>if h:y="range" then some ⟨b,p,q,by rw [h]⟩ else none
 | _=>none
def rgA (l:List Expr):Option Expr:=(rgS l).map (·.1)
def okC (x:Str):Bool:=cJ st x&&(slot st x).isNone&&st.bl.contains x
def cA (e:Expr):XR (List PyData):=match e with
 | .List es _=>xPl (aR v st es)
 | .ListComp elt [⟨tg,iter,ifs,a⟩] sc _=>if a=0 then kX v st elt tg iter ifs sc else xno
 | .Subscript a (.Slice lo hi none _) _=>xb (v.E st a) fun x=>xb (mO v st lo) fun l=>xb (mO v st hi) fun u=>fun _ h=>(match ref h x with
  | some (.list xs)=>some (cut xs l u,h)
  | _=>none)
 | .BinOp a .Add b _=>xb (v.E st a) fun u=>xb (v.E st b) fun w=>fun _ h=>(match ref h u,ref h w with
  | some (.list xs),some (.list ys)=>if xs.length+ys.length<=sizeLine then some (xs++ys,h) else none
  | _,_=>none)
 | .BinOp (.List es p) .Mult b _=>xb (aS (xPl (aR v st es))) fun u=>xb (v.E st b) fun w=>fun _ h=>(match u,w with
  | .c i,.d (.int k)=>(match h[i]? with
   | some (.l xs)=>if -(2^63)<=k/\k < 2^63/\xs.length*k.toNat<=sizeLine then some ((List.replicate k.toNat xs).flatten,h) else none
   | _=>none)
  | _,_=>none)
 | .Call (.Name x _) (a::es) [] _=>if x="list" then (match rgA (a::es) with
  | some b=>if okC st x&&okC st "range"&&aG b then xb (aR v st [b]) fun ws=>fun _ h=>(match ws with
   | [.d (.int j)]=>if -(2^62)<=j/\j < 2^62/\j<=16000000 then some (rng 0 j.toNat,h) else none
   | _=>none) else xno
  | none=>if cJ st x&&(slot st x).isNone&&st.bl.contains x then xb (aR v st (a::es)) fun ws=>fun _ h=>(match ws with
  | [w]=>(match ref h w with
   | some (.list xs)=>some (xs,h)
   | some (.tuple xs)=>some (xs,h)
   | none=>(hW w h).map fun kvs=>(kvs.map (·.1),h)
   | _=>none)
  | _=>none) else xno) else if x="sorted" then (if okC st x then xb (aR v st (a::es)) fun ws=>fun _ h=>rF ws h else xno) else xno
 | .Call (.Name x _) [a] (k::ks) _=>if x="sorted" then (if okC st x then aV6 v st a (k::ks) else xno) else xno
 | _=>xno
noncomputable def vM:Expr->Bool
 | .Slice _ _ _ _=>true
 | _=>false
noncomputable def fN:Expr->Bool
 | .Call _ _ _ _=>false
 | _=>true
noncomputable def rG (o:W) (ws:List W) (h:aA):Option (W×aA):=match o,ws with
 | .c j,[.d x]=>(match h[j]? with
  | some (.l xs)=>if xs.length < sizeLine then some (.d .none,h.set j (.l (xs++[x]))) else none
  | _=>none)
 | .c j,[.c k]=>(match h[j]? with
  | some (.r is)=>if is.length < sizeLine then some (.d .none,h.set j (.r (is++[k]))) else none
  | _=>none)
 | _,_=>none
def bI8 (m:Str):Option (W->List W->aA->Option (W×aA)) :=
 if m="append" then some rG
 else if m="index" then some fun o ws h=>(match o,ws with
  | .d (.list xs),[.d d]=>if (aI 64 (.list xs)&&aI 64 d)=true then (xs.findIdx? (fun z=>PyData.eqv z d)).map fun (j:Nat)=>(.d (.int j),h) else none
  | _,_=>none)
 else none
noncomputable def eP (m:Str) (w:W) (h:aA):Bool:=if m="append" then (match w with
  | .c j=>(match h[j]? with
   | some (.l _)=>true
   | some (.r _)=>true
   | _=>false)
  | _=>false) else true
def bE8 (o:Expr) (m:Str) (g:W->List W->aA->Option (W×aA)) (args:List Expr):XR W:=xb (v.E st o) fun w=>fun δ h=>if eP m w h=true then (aR v st args δ h).bind fun p=>g w p.1 p.2 else none
def aA6 (j:Nat) (ws:List W) (h:aA):Option (W×aA):=match ws,h[j]? with
 | [.d (.int i)],some (.l xs)=>(ixN xs.length i).bind fun n=>(xs[n]?).bind fun x=>if -(2^63)<=i/\i < 2^63 then some (.d x,h.set j (.l (xs.eraseIdx n))) else none
 | _,_=>none
def bW1 (o a:Expr):XR W:=xb (v.E st o) fun w=>fun δ h=>match w with
 | .c j=>(match h[j]? with
  | some (.l _)=>(aR v st [a] δ h).bind fun p=>aA6 j p.1 p.2
  | _=>none)
 | _=>none
noncomputable def rH (w:W) (h:aA):Option (W×aA):=match w with
 | .c j=>(match h[j]? with
  | some (.l xs)=>(xs.getLast?).map fun x=>(.d x,h.set j (.l xs.dropLast))
  | some (.r is)=>(is.getLast?).map fun k=>(.c k,h.set j (.r is.dropLast))
  | _=>none)
 | _=>none
def bE9 (o:Expr):XR W:=xb (v.E st o) fun w=>fun _ h=>rH w h
def bW2 (o a:Expr):XR W:=xb (v.E st o) fun w=>fun δ h=>match w with
 | .c j=>(match h[j]? with
  | some (.l _)=>(v.F st a δ h).bind fun p=>(match p.2[j]? with
   | some (.l xs)=>if xs.length+p.1.length<=sizeLine then some (.d .none,p.2.set j (.l (xs++p.1))) else none
   | _=>none)
  | _=>none)
 | _=>none
noncomputable def aH6:Expr->Bool
 | .Name _ _=>true
 | .Call (.Name _ _) (_::_) [] _=>true
 | _=>false
noncomputable def xMk (C:Addr) (m:XFW) (ws:List W) (h:aA):Option (W×aA):=(m (.c h.length::ws) (h++[.o C []])).bind fun p=>match p.1 with
 | .d .none=>some (.c h.length,p.2)
 | _=>none
def xMo (o:Expr) (m:Str) (C:Addr) (g:XFW) (args:List Expr):XR W:=xb (v.E st o) fun w=>fun δ h=>match w with
 | .c j=>(match h[j]? with
  | some (.o C' fs)=>if C'=C/\fs.lookup m=none then (aR v st args δ h).bind fun p=>g (.c j::p.1) p.2 else none
  | _=>none)
 | _=>none
def bW3 (o:Expr) (f:Str):XR W:=xb (v.E st o) fun w=>fun _ h=>match w with
 | .c j=>(match h[j]? with
  | some (.o C fs)=>if st.ob.fo C f=true then (fs.lookup f).map fun w=>(w,h) else none
  | _=>none)
 | _=>none
noncomputable def bW4:(l:List Expr)->Option {y:Expr×Str // ∃ p,l=[y.1,.Name y.2 p]}
 | [e,.Name T p]=>some ⟨(e,T),p,rfl⟩
 | _=>none
noncomputable def bW5:(l:List Expr)->Option {y:Expr // ∃ p q k r,l=[y,.Tuple [.Name "list" p,.Name "tuple" q] k r]}
 | [e,.Tuple [.Name T p,.Name T' q] k r]=>if h:T="list"/\T'="tuple" then some ⟨e,p,q,k,r,by rw [h.1,h.2]⟩ else none
 | _=>none
def bI9 (args:List Expr):XR W:=match bW4 args with
 | some ⟨(e,T),_⟩=>if aG e&&cJ st T&&(slot st T).isNone&&st.bl.contains T then (match aV3 T with
   | some Ts=>xb (v.E st e) fun w=>fun _ h=>(ref h w).bind fun d=>some (.d (.bool (isi d Ts)),h)
   | none=>xno) else xno
 | none=>(match bW5 args with
  | some ⟨e,_⟩=>if aG e&&okC st "list"&&okC st "tuple" then xb (v.E st e) fun w=>fun _ h=>(ref h w).bind fun d=>some (.d (.bool (isi d "list"||isi d "tuple")),h) else xno
  | none=>xno)
def bJ0 (o:Expr) (m:Str) (apos pos:Pos) (args:List Expr):XR W:=if fN o&&(apos.endLine==pos.line) then
   (match args with
    | []=>if m="pop" then bE9 v st o else xno
    | a::es=>if m="pop" then (match es with
      | []=>if aG a=true then bW1 v st o a else xno
      | _=>xno)
     else if m="extend" then (match es with
      | []=>if aG a=true then bW2 v st o a else xno
      | _=>xno)
     else if decide (args.length < 29) then (match bI8 m with
     | some g=>bE8 v st o m g args
     | none=>xno) else xno)
   else xno
def yB (f:Expr) (args:List Expr) (pos:Pos):XR W:=match f with
 | .Name x _=>if cJ st x&&(slot st x).isNone then
   (match st.ob.fnW x with
   | some m=>(match args with
     | []=>xno
     | _::_=>xb (aR v st args) fun ws=>fun _ h=>m ws h)
   | none=>match st.ob.cls x with
   | some (C,m)=>(match args with
     | []=>xno
     | _::_=>xb (aR v st args) fun ws=>fun _ h=>xMk C m ws h)
   | none=>match st.fn x with
    | some m=>(match args with
     | []=>xno
     | _::_=>xb (if (st.ac x).isEmpty=true then aR v st args else hZ v st (st.ac x) 0 args) fun ws=>fun _ h=>(m ws h).bind fun p=>some (.d p.1,p.2))
    | none=>if st.bl.contains x then
      (match bI3 x with
       | some g=>(match args with
        | []=>xno
        | _::_=>xb (aR v st args) fun ws=>fun _ h=>g ws h)
       | none=>if x="isinstance" then bI9 v st args
        else aM (cA v st (.Call f args [] pos)))
     else xno)
   else xno
 | .Attribute o m apos=>match st.ob.om m with
  | some (C,g)=>(match args with
    | []=>xno
    | _::_=>if aH6 o&&(apos.endLine==pos.line)&&decide (args.length < 29)&&args.all aG then xMo v st o m C g args else xno)
  | none=>bJ0 v st o m apos pos args
 | _=>xno
def xLS:List W->aA->Option (W×aA)
 | [.d (.tuple xs)],h=>(match dF xs with
  | some ns=>if ns.length<=62 then some (.d (.int (ST.dd ns).length),h) else none
  | none=>none)
 | [.d (.list xs)],h=>(match dF xs with
  | some ns=>if ns.length<=62 then some (.d (.int (ST.dd ns).length),h) else none
  | none=>none)
 | _,_=>none
def okB (x:Str):Bool:=cJ st x&&(slot st x).isNone&&st.bl.contains x&&(st.fn x).isNone
noncomputable def fuS:(f:Expr)->(l:List Expr)->Option {a:Expr // ∃ p p2 q,f=.Name "len" p/\l=[.Call (.Name "set" p2) [a] [] q]}
 | .Name x p,[.Call (.Name y p2) [a] [] q]=>if h:x="len"/\y="set" then some ⟨a,p,p2,q,by rw [h.1],by rw [h.2]⟩ else none
 | _,_=>none
def aH7 (f:Expr) (args:List Expr) (pos:Pos):XR W:=match fuS f args with
 | some ⟨a,_⟩=>if okB st "len"&&okB st "set"&&aG a then xb (aR v st [a]) fun ws=>fun _ h=>xLS ws h else xno
 | none=>yB v st f args pos
def tF (e:Expr):XR W:=match e with
 | .Name x _=>aG8 st x
 | .Constant c _ _=>aG9 c
 | .BinOp a op b _=>(match a,op with
  | .List es p,.Mult=>aM (cA v st (.BinOp (.List es p) .Mult b p))
  | _,_=>xb (v.E st a) fun u=>xb (v.E st b) fun w=>fun _ h=>fM op u w h)
 | .Compare a ops cs _=>cG (jW v st a ops cs)
 | .BoolOp .And vs _=>aH2 v st vs
 | .BoolOp .Or vs _=>bI4 v st vs
 | .UnaryOp .Not a _=>xb (v.E st a) fun w=>(match w with
  | .d (.bool b)=>aC (.d (.bool (!b)))
  | _=>xno)
 | .UnaryOp .USub a _=>xb (v.E st a) fun w=>(match w with
  | .d (.int i)=>aC (.d (.int (-i)))
  | _=>xno)
 | .IfExp c a b _=>xb (v.T st c) fun t=>if t=true then v.E st a else v.E st b
 | .Tuple es _ _=>xb (xPl (aR v st es)) fun xs=>aC (.d (.tuple xs))
 | .List es p=>aM (cA v st (.List es p))
 | .ListComp elt gs sc p=>aM (cA v st (.ListComp elt gs sc p))
 | .Subscript a s _=>(match s with
  | .Slice lo hi none _=>xb (v.E st a) fun x=>xb (mO v st lo) fun l=>xb (mO v st hi) fun u=>fun _ h=>xSl x l u h
  | _=>if vM s=true then xno else (match iP st a with
   | some f=>xb (v.E st s) fun w=>(match w with
    | .d (.str z)=>(match f z with
     | some i=>aC (.d (.int i))
     | none=>xno)
    | _=>xno)
   | none=>xb (v.E st a) fun x=>xb (v.E st s) fun y=>fun _ h=>xIx x y h))
 | .Call f args [] p=>aH7 v st f args p
 | .Attribute o f _=>if fN o=true then bW3 v st o f else xno
 | .Dict [] [] _=>aC (.d (.dict []))
 | _=>xno
def bF0 (e:Expr):XR Bool:=match e with
 | .UnaryOp .Not a _=>xb (v.T st a) fun b=>aC (!b)
 | .BoolOp .And vs _=>aH3 v st vs
 | .BoolOp .Or vs _=>bI5 v st vs
 | .Compare a ops cs _=>fF v st a ops cs
 | .IfExp _ _ _ _=>xno
 | _=>xb (v.E st e) fun w=>(match w with
  | .d (.bool b)=>aC b
  | _=>xno)
noncomputable def kY:List Expr->List XG
 | []=>[]
 | e::es=>v.G st e::kY es
def aH8 (es:List Expr) (xs:List PyData) (δ:DSt) (h:aA):Option (DSt×aA):=jV (kY v st es) xs δ h
def rI (j:Nat) (y x:PyData) (δ:DSt) (h:aA):Option (DSt×aA):=match h[j]?,y with
   | some (.l xs),.int k=>(ixN xs.length k).map fun n=>(δ,h.set j (.l (xs.set n x)))
   | some (.k kvs),_=>if (bU y).isSome=true/\kvs.length < sizeLine then some (δ,h.set j (.k (lH kvs y x))) else none
   | some (.n kvs),_=>if (cT y&&hkB 4 y)=true/\kvs.length < sizeLine then some (δ,h.set j (.n (putN kvs y x))) else none
   | _,_=>none
def tG (e:Expr):XG:=match e with
 | .Name x _=>(match slot st x with
  | some i=>if rD st.S x&&(st.top||cU st.S x) then fun w δ h=>some (δ.set i (some w),h) else fun _ _ _=>none
  | none=>fun _ _ _=>none)
 | .Tuple es _ _=>if es.all aG=true then bV (kY v st es) else fun _ _ _=>none
 | .Subscript o i _=>if vM i=true then fun _ _ _=>none else fun w δ h=>(v.E st o δ h).bind fun p=>(v.E st i δ p.2).bind fun q=>(match p.1,q.1,w with
  | .c j,.d y,.d x=>rI j y x δ q.2
  | _,_,_=>none)
 | _=>fun _ _ _=>none
def cM (g:XG) (tt:XR Bool) (te:XR W) (c:Option Nat) (all:List PyData):List PyData->DSt->aA->List Nat->Option (List Nat×aA)
 | [],_,h,ac=>if condB c all h=true then some (ac,h) else none
 | x::r,δ,h,ac=>if condB c all h=true then
   (g (.d x) δ h).bind fun p=>(tt p.1 p.2).bind fun q=>if q.1=true then
     (te p.1 q.2).bind fun y=>(match y.1 with
      | .c j=>cM g tt te c all r p.1 y.2 (ac++[j])
      | _=>none)
    else cM g tt te c all r p.1 q.2 ac
  else none
def aH9 (tg iter:Expr) (ifs:List Expr) (sc:Scope):XR W :=
 if pE st.N sc st.S&&!iQ iter then xb (pD v st tg iter) fun p=>fun δ h=>(cM (v.G (st.blk sc) tg) (aV4 v (st.blk sc) ifs) (aS (xPl (aC []))) p.2 p.1 p.1 (aP (fW st.N sc) δ) h []).bind fun q=>some (.c q.2.length,q.2++[.r q.1]) else xno
noncomputable def lcS:(e:Expr)->Option {y:Expr×Expr×List Expr×Int×Scope // ∃ p q,e=.ListComp (.List [] p) [⟨y.1,y.2.1,y.2.2.1,y.2.2.2.1⟩] y.2.2.2.2 q}
 | .ListComp (.List [] p) [⟨tg,iter,ifs,a⟩] sc q=>some ⟨(tg,iter,ifs,a,sc),p,q,rfl⟩
 | _=>none
def bJ1 (e:Expr):XR W:=match lcS e with
 | some ⟨(tg,iter,ifs,a,sc),_⟩=>if a=0 then aH9 v st tg iter ifs sc else xno
 | none=>v.E st e
def bW6 (o:Expr) (f:Str) (e:Expr):XS:=fun δ h=>(bJ1 v st e δ h).bind fun p=>(v.E st o δ p.2).bind fun q=>match q.1 with
 | .c j=>(match q.2[j]? with
  | some (.o C fs)=>if st.ob.fo C f=true/\fs.length < 1000 then some (.nx δ,q.2.set j (.o C (dY f p.1 fs))) else none
  | _=>none)
 | _=>none
noncomputable def iA:Expr->Bool
 | .ListComp _ _ _ _=>true
 | .SetComp _ _ _ _=>true
 | .DictComp _ _ _ _ _=>true
 | _=>false
def aV7 (e tg:Expr):Bool:=yA e&&(match tg with
 | .Tuple _ _ _=>true
 | .List _ _=>true
 | _=>false)
noncomputable def xSs:List Stmt->XS
 | [],δ,h=>some (.nx δ,h)
 | s::r,δ,h=>(v.S st s δ h).bind fun p=>(match p.1 with
  | .nx δ'=>xSs r δ' p.2
  | f=>some (f,p.2))
noncomputable def cO1:Expr->Bool
 | .Dict [] [] _=>true
 | _=>false
noncomputable def d1S:(e:Expr)->Option {y:Expr×Expr // ∃ p,e=.Dict [some y.1] [y.2] p}
 | .Dict [some k] [v] p=>some ⟨(k,v),p,rfl⟩
 | _=>none
def cO2 (e:Expr):Option (Expr×Expr):=(d1S e).map (·.1)
def yC (x y:XR W):XR W:=xb x fun a=>xb y fun b=>fun _ h=>match a,b with
 | .d k,.d z=>if (cT k&&hkB 4 k)=true then some (.c h.length,h++[.n [(k,z)]]) else none
 | _,_=>none
def lrS:(e:Expr)->Option {a:Expr // ∃ pp,e=.List [a] pp/\aG a=true}
 | .List [.Call (.Name f p) as [] q] pp=>if (st.ob.fnW f).isSome=true then some ⟨.Call (.Name f p) as [] q,pp,rfl,rfl⟩ else none
 | _=>none
def cO3 (e:Expr):Option Expr:=(lrS st e).map (·.1)
def yD (x:XR W):XR W:=xb x fun w=>fun _ h=>match w with
 | .c j=>some (.c h.length,h++[.r [j]])
 | _=>none
noncomputable def yF:XR W:=fun _ h=>some (.c h.length,h++[.k []])
noncomputable def wfC:Expr->Bool
 | .Call (.Name f _) _ [] _=>(st.ob.fnW f).isSome
 | _=>false
noncomputable def pnS:(x:PyData)->Option {y:List PyData×PyData // x=.tuple [.tuple y.1,y.2]}
 | .tuple [.tuple k,v]=>some ⟨(k,v),rfl⟩
 | _=>none
def iB:List PyData->Option (List (PyData×PyData))
 | []=>some []
 | x::r=>(pnS x).bind fun y=>if hkB 4 (.tuple y.1.1)=true then (iB r).map ((.tuple y.1.1,y.1.2)::·) else none
def gF (ds:List (PyData×PyData)):List (PyData×PyData):=ds.foldl (fun a p=>putN a p.1 p.2) []
def iS:List W->aA->Option (W×aA)
 | [w],h=>(match ref h w with
  | some (.list xs)=>if xs.length<=1000 then (match gE xs with
   | some ds=>some (.c h.length,h++[.k (rE ds)])
   | none=>(iB xs).map fun ds=>(.c h.length,h++[.n (gF ds)])) else none
  | _=>none)
 | _,_=>none
noncomputable def dcS:(e:Expr)->Option {a:Expr // ∃ p q,e=.Call (.Name "dict" p) [a] [] q}
 | .Call (.Name x p) [a] [] q=>if h:x="dict" then some ⟨a,p,q,by rw [h]⟩ else none
 | _=>none
def dcA (e:Expr):Option Expr:=(dcS e).map (·.1)
def aV8 (e:Expr):XR W:=match dcA e with
 | some a=>if okC st "dict"=true then xb (aR v st [a]) fun ws=>fun _ h=>iS ws h else xno
 | none=>aS (v.F st e)
noncomputable def aQ (i:Nat) (x:XR W):XS:=fun δ h=>(x δ h).bind fun p=>some (.nx (δ.set i (some p.1)),p.2)
def swB (e:Expr) (x:Str) (px:Pos):Bool:=match e with
 | .ListComp _ _ sc p=>cU st.S x&&(px.line==p.line)&&!(sc.names.any fun (n,k)=>n==x&&(k==.local||k==.cell))
 | _=>false
def tH (s:Stmt):XS:=match s with
 | .Return (some e) _=>fun δ h=>((if st.cv.contains "return"=true then aV8 v st e else v.E st e) δ h).bind fun p=>some (.rt p.1,p.2)
 | .If c a b _=>fun δ h=>(v.T st c δ h).bind fun p=>if p.1=true then xSs v st a δ p.2 else xSs v st b δ p.2
 | .Expr e _=>if iA e=true then fun _ _=>none else fun δ h=>(v.E st e δ h).bind fun p=>some (.nx δ,p.2)
 | .Pass _=>fun δ h=>some (.nx δ,h)
 | .Break _=>fun δ h=>some (.bk δ,h)
 | .Continue _=>fun δ h=>some (.ct δ,h)
 | .For tg iter body [] _=>if iQ iter=true then fun _ _=>none else fun δ h=>(pD v st tg iter δ h).bind fun p=>aX (v.G st tg) (xSs v st body) p.1.2 p.1.1 p.1.1 δ p.2
 | .While c body [] _=>bR (v.T st c) (xSs v st body) st.fuel
 | .Assign [.Name x px] e _=>(match slot st x with
  | some i=>if rD st.S x&&(st.top||cU st.S x) then
    (if iA e=true then (if (swB st e x px||!(cU st.S x))=true then aQ i (if st.cv.contains x=true then aS (cA v st e) else aM (cA v st e)) else fun _ _=>none)
    else if (st.cv.contains x&&cO1 e)=true then aQ i yF
    else if (st.cv.contains x&&!(aH1 e||wfC st e))=true then (match cO2 e with
     | some (k,z)=>aQ i (yC (v.E st k) (v.E st z))
     | none=>(match cO3 st e with
      | some a=>aQ i (yD (v.E st a))
      | none=>aQ i (aS (v.F st e)))) else aQ i (v.E st e))
   else fun _ _=>none
  | none=>fun _ _=>none)
 | .Assign [.Attribute o f _] e _=>bW6 v st o f e
 | .Assign [tg] e _=>if (iA e||aV7 e tg||!(aG tg))=true then fun _ _=>none else fun δ h=>(v.E st e δ h).bind fun p=>(v.G st tg p.1 δ p.2).bind fun q=>some (.nx q.1,q.2)
 | _=>fun _ _=>none
end
def aV9 (v:Evs):Evs:=⟨tF v,bF0 v,cA v,tG v,tH v⟩
def evs:Nat->Evs
 | 0=>.no
 | n+1=>aV9 (evs n)

def parsOf (s:Stmt):List Str:=(bM s).args.map (·.arg)
def cB (s:Stmt):List Str:=parsOf s++((defScope s).names.filter fun p=>(p.2==.local||p.2==.cell)&&!((parsOf s).contains p.1)).map (·.1)
def fnB (s:Stmt):Bool:=decide ((defScope s).kind=.function)&&(!(defScope s).isCoroutine&&(!(defScope s).isGenerator&&(decide (cB s).Nodup&&(((parsOf s).all fun x=>rD (defScope s) x)&&((defScope s).names.all fun y=>!(y.2==.free))))))
open Classical in
noncomputable def aO (h0:aA) (p:Fl×aA):Option (PyData×aA):=if okP h0 p.2 then (match p.1 with
 | .nx _=>some (.none,p.2.take h0.length)
 | .rt (.d z)=>some (z,p.2.take h0.length)
 | .rt (.c i)=>(match p.2[i]? with
  | some (.l xs)=>if h0.length<=i then some (.list xs,p.2.take h0.length) else none
  | some (.k kvs)=>if h0.length<=i then some (.dict kvs,p.2.take h0.length) else none
  | _=>none)
 | _=>none) else none
noncomputable def dG (p:Fl×aA):Option (W×aA):=match p.1 with
 | .nx _=>some (.d .none,p.2)
 | .rt w=>some (w,p.2)
 | _=>none
structure Top where
 bl:List Str
 gc:Str->Option PyData
 tk:Str->Option (Str->Option Int)
 defs:Str->Option Stmt
 ac:Str->List Nat
 cv:Str->List Str
 fuel:Nat
 deep:Nat
 wf:Str->Bool
 ini:Str->Option (Addr×Stmt)
 mt:Str->Option (Addr×Stmt)
 fo:Addr->Str->Bool
 qn:Str->Option (Str×Pos)
def Top.sta (t:Top) (fn:Str->Option XF) (ob:ObS) (x:Str) (s:Stmt):Sta:=⟨t.bl,t.gc,t.tk,fn,t.ac,t.cv x,cB s,defScope s,true,t.fuel,ob,t.qn x⟩
def mR (t:Top) (fn:Str->Option XF) (ob:ObS) (x:Str) (s:Stmt):XF:=fun ws h =>
 if fnB s=true/\ws.length=(parsOf s).length then (xSs (evs t.deep) (t.sta fn ob x s) (bA s) (dZ (cB s) ws) h).bind (aO h) else none
def hJ (t:Top) (fn:Str->Option XF) (ob:ObS) (x:Str) (s:Stmt):XFW:=fun ws h =>
 if fnB s=true/\ws.length=(parsOf s).length then (xSs (evs t.deep) (t.sta fn ob x s) (bA s) (dZ (cB s) ws) h).bind dG else none
abbrev fnT (t:Top) (D:Str->XF):Str->Option XF:=fun y=>(t.defs y).map fun _=>D y
abbrev obT (t:Top) (W I M:Str->XFW):ObS:=⟨fun y=>if t.wf y=true then (t.defs y).map fun _=>W y else none,fun y=>(t.ini y).map fun p=>(p.1,I y),fun y=>(t.mt y).map fun p=>(p.1,M y),t.fo⟩
mutual
noncomputable def aD (t:Top):Nat->Str->XF
 | 0,_=>fun _ _=>none
 | d+1,x=>(match t.defs x with
  | some s=>mR t (fnT t fun y=>aD t d y) (obT t (fun y=>callW t d y) (fun y=>callI t d y) fun y=>callM t d y) x s
  | none=>fun _ _=>none)
noncomputable def callW (t:Top):Nat->Str->XFW
 | 0,_=>fun _ _=>none
 | d+1,x=>(match t.defs x with
  | some s=>hJ t (fnT t fun y=>aD t d y) (obT t (fun y=>callW t d y) (fun y=>callI t d y) fun y=>callM t d y) x s
  | none=>fun _ _=>none)
noncomputable def callM (t:Top):Nat->Str->XFW
 | 0,_=>fun _ _=>none
 | d+1,x=>(match t.mt x with
  | some (_,s)=>hJ t (fnT t fun y=>aD t d y) (obT t (fun y=>callW t d y) (fun y=>callI t d y) fun y=>callM t d y) x s
  | none=>fun _ _=>none)
noncomputable def callI (t:Top):Nat->Str->XFW
 | 0,_=>fun _ _=>none
 | 1,_=>fun _ _=>none
 | d+2,x=>(match t.ini x with
  | some (_,s)=>hJ t (fnT t fun y=>aD t d y) (obT t (fun y=>callW t d y) (fun y=>callI t d y) fun y=>callM t d y) x s
  | none=>fun _ _=>none)
end
end CI

namespace CI
def bind_some {α β:Type} {x:Option α} {f:α->Option β} {b:β} (e:x.bind f=some b):∃ a,x=some a/\f a=some b:=Option.bind_eq_some_iff.mp e
def map_some {α β:Type} {x:Option α} {f:α->β} {b:β} (e:x.map f=some b):∃ a,x=some a/\f a=b:=Option.map_eq_some_iff.mp e
def aE {α:Type} {c:Prop} [Decidable c] {x:Option α} {b:α} (e:(if c then x else none)=some b):c/\x=some b:=by
 by_cases h:c
 ·rw [if_pos h] at e;exact ⟨h,e⟩
 ·rw [if_neg h] at e;cases e
end CI
namespace DL
open PySem PySem.Spec PyProof.Rows L2 CI
def thn {α:Type} {t:Sem α} {Q Q':α->Shared->Prop} {M:Model} {A:Around} {E:Value->Shared->Prop} {s:Shared} (h:wpAny M A t Q E s) (hQ:∀ a s,Q a s->Q' a s):wpAny M A t Q' E s:=wpAny_mono h hQ fun _ _ x=>x
abbrev Wp (S:Sx) (A:Around) {α:Type} (t:Sem α) (Q:α->Shared->Prop) (E:Value->Shared->Prop) (s:Shared):Prop:=wpAny (model S.P S.w) A t Q E s
def Pw (S:Sx) (κ:Kp) (M:Mp) (h:aA) (w:W) (u:Value) (s:Shared):Prop:=∃ M',Le M M'/\Mem S κ M' h s/\RepW S M' w u
def Pf (S:Sx) (κ:Kp) (M:Mp) (h:aA) (xs:List PyData) (u:Value) (s:Shared):Prop :=
 ∃ M',Le M M'/\Mem S κ M' h s/\∃ a us n,u=.ref a/\s.heap.get? a=some (bB us n)/\bK κ M' a/\us.length<=sizeLine/\Reps' S M' xs us
structure Room (k:Nat) (A:Around):Prop where
 hd:A.handled=none
 dp:A.depth+3*k+5 < recursionLimit
 un:A.units+16*k+200 < cLine
section
variable {S:Sx} {κ:Kp} {M:Mp} {h h':aA} {s:Shared} {A:Around} {E:Value->Shared->Prop} {x y w:W} {u v:Value} {d:Nat}
def wi {i:Int}:RepW S M (.d (.int i)) u ↔ ∃ t,u=.int i t:=rep_i (S:=S) (Z:=M.Z)
def wb {i:Bool}:RepW S M (.d (.bool i)) u ↔ u=.bool i:=rep_b (S:=S) (Z:=M.Z)
def wn:RepW S M (.d .none) u ↔ u=.none:=bV7 (S:=S) (Z:=M.Z)
def Pw.go {M':Mp} (l:Le M M') (p:Pw S κ M' h w u s):Pw S κ M h w u s:=let ⟨N,a,b⟩:=p;⟨N,l.trans a,b⟩
def Mem.pw (R:Mem S κ M h s) (r:RepW S M w u):Pw S κ M h w u s:=⟨M,.refl,R,r⟩
def Mem.pi (R:Mem S κ M h s) {i:Int} {t t':Nat}:Pw S κ M h (.d (.int i)) (.int i t) { s with toks:=t' }:=(R.tok t').pw (wi.mpr ⟨_,rfl⟩)
def Mem.pb (R:Mem S κ M h s) {b:Bool}:Pw S κ M h (.d (.bool b)) (.bool b) s:=R.pw (wb.mpr rfl)
def Mem.pn (R:Mem S κ M h s):Pw S κ M h (.d .none) .none s:=R.pw (wn.mpr rfl)
def rJ {xs:List PyData} (p:Pf S κ M h xs u s):Pw S κ M h (.d (.list xs)) u s:=by
 obtain ⟨N,l,R,a,us,n,rfl,e,f,z,r⟩:=p;exact ⟨N.add a (bB us n),l.trans (.add f.1),R.frz f e,rep_l.mpr ⟨a,_,us,rfl,iO,⟨⟨n,rfl⟩,z⟩,r.go (.add f.1)⟩⟩
def aI0 {xs:List PyData} (p:Pf S κ M h xs u s):Pw S κ M (h++[.l xs]) (.c h.length) u s:=by
 obtain ⟨N,l,R,a,us,n,rfl,e,f,z,r⟩:=p;exact ⟨N.cel (a,a),l.trans .cel,R.add f f ⟨⟨_,e⟩,_,e⟩ ⟨us,n,e,z,r.go .cel⟩,(a,a),by show (N.m++[(a,a)])[h.length]?=_;rw [<- R.len];simp,rfl⟩
def Mem.tup {xs:List PyData} {us:List Value} {t:Nat} (R:Mem S κ M h s) (r:Reps' S M xs us) (z:us.length<=sizeLine):Pw S κ M h (.d (.tuple xs)) (.ref s.heap.objs.size) { s with heap:=s.heap.push { cls:=.type "tuple",data:=.seq us.toArray },toks:=t }:=by
 have R1:Mem S κ M h { s with heap:=s.heap.push { cls:=.type "tuple",data:=.seq us.toArray },toks:=t }:=R.kept fun b o e=>Heap.get?_push_of_some _ e;exact ⟨_,.add R.size.1,R1.frz R.size (Heap.get?_push_size _ rfl),rep_t.mpr ⟨_,_,us,rfl,iO,⟨⟨_,rfl⟩,z⟩,r.go (.add R.size.1)⟩⟩
def Mem.lst {h2:Heap} {xs:List PyData} {us:List Value} {n t:Nat} (R:Mem S κ M h s) (k:∀ b o,s.heap.get? b=some o->h2.get? b=some o) (e:h2.get? s.heap.objs.size=some (bB us n)) (r:Reps' S M xs us) (z:us.length<=sizeLine) :
  Pf S κ M h xs (.ref s.heap.objs.size) { s with heap:=h2,toks:=t }:=⟨M,.refl,R.kept k,_,us,n,rfl,e,R.size,z,r⟩
def Mem.lstP {xs:List PyData} {us:List Value} {n t:Nat} (R:Mem S κ M h s) (r:Reps' S M xs us) (z:us.length<=sizeLine):Pf S κ M h xs (.ref s.heap.objs.size) { s with heap:=s.heap.push (bB us n),toks:=t } :=
 R.lst (fun b o e=>Heap.get?_push_of_some _ e) (Heap.get?_push_size _ rfl) r z
def cR {xs:List PyData} (R:Mem S κ M h s) (r:RepW S M w u) (e:ref h w=some (.list xs)):∃ a us n,u=.ref a/\s.heap.get? a=some (bB us n)/\us.length<=sizeLine/\Reps' S M xs us:=by
 cases w with
 | d y =>
  cases e;obtain ⟨a,o,us,e,z,⟨⟨n,rfl⟩,l⟩,r⟩:=rep_l.mp (show Rep S M.Z (.list xs) u from r);exact ⟨a,us,n,e,R.z a _ z,l,r⟩
 | c i =>
  obtain ⟨p,e1,rfl⟩:=r;dsimp only [DL.ref] at e;cases q:h[i]? with
  | none=>rw [q] at e;cases e
  | some c =>
   cases c with
   | l ys=>rw [q] at e;cases e;obtain ⟨us,n,a,b,c⟩:=R.cel i p _ e1 q;exact ⟨_,us,n,rfl,a,b,c⟩
   | _=>rw [q] at e;cases e
def fY {xs:List PyData} (R:Mem S κ M h s) (r:RepW S M w u) (e:ref h w=some (.tuple xs)):∃ a us n,u=.ref a/\M.Z a=some { cls:=.type "tuple",data:=.seq us.toArray n }/\us.length<=sizeLine/\Reps' S M xs us:=by
 cases w with
 | d y =>
  cases e;obtain ⟨a,o,us,e,z,⟨⟨n,rfl⟩,l⟩,r⟩:=rep_t.mp (show Rep S M.Z (.tuple xs) u from r);exact ⟨a,us,n,e,z,l,r⟩
 | c i =>
  dsimp only [DL.ref] at e;cases q:h[i]? with
  | none=>rw [q] at e;cases e
  | some c=>cases c<;>(rw [q] at e;cases e)
def yG {kvs:List (PyData×PyData)} (R:Mem S κ M h s) (r:RepW S M w u) (e:ref h w=some (.dict kvs)):∃ a vs,u=.ref a/\s.heap.DictOf (bF S.P S.w) a vs/\RepK S M.Z kvs vs/\(a==sysModules)=false/\vs.length<=sizeLine:=by
 cases w with
 | d y =>
  cases e;obtain ⟨a,o,vs,e,z,q,r⟩:=rep_d.mp (show Rep S M.Z (.dict kvs) u from r);exact ⟨a,vs,e,q.2.2 _ (R.z a o z),r,q.1,q.2.1⟩
 | c i =>
  obtain ⟨p,e1,rfl⟩:=r;dsimp only [DL.ref] at e;cases q:h[i]? with
  | none=>rw [q] at e;cases e
  | some c =>
   cases c with
   | k ys=>rw [q] at e;cases e;obtain ⟨vs,a,b,c⟩:=R.cel i p _ e1 q;exact ⟨_,vs,rfl,a,b,c⟩
   | _=>rw [q] at e;cases e
def cK {a:Addr} {us:List Value} {n:Nat} (e:s.heap.get? a=some (bB us n)):PlainL s.heap a us.toArray:=⟨_,n,e,rfl,rfl,rfl⟩
def eG {hp:Heap} {a:Addr} {us:List Value} {n:Nat} (e:hp.get? a=some { cls:=.type "tuple",data:=.seq us.toArray n }):IsTup hp a us.toArray:=⟨_,e,rfl,n,rfl⟩
def oO {x:W} {d:PyData} (R:Mem S κ M h s) (r:RepW S M x u) (e:ref h x=some d) (p:aI 64 d=true):(∃ as,Reads s.heap u d as)/\SeqAt.shaped d=true:=by
 have go:(∃ as,Reads s.heap u d as)/\d.canLay0=true/\d.depth<=64:=by
  cases x with
  | d y=>cases e;exact Rep.reads R.z 64 r p
  | c i =>
   cases d with
   | list xs =>
    obtain ⟨a,us,n,rfl,ho,_,rr⟩:=cR R r e;obtain ⟨⟨as,q⟩,c,l⟩:=Reps.reads R.z 63 (reps_iff.mpr rr) (by simpa [aI] using p);exact ⟨⟨_,Reads.list ho rfl rfl (by simpa using q)⟩,by simp [PyData.canLay0,PyData.depth,c,l]⟩
   | dict _=>simp [aI] at p
   | _ =>
    dsimp only [DL.ref] at e;cases q:h[i]? with
    | none=>rw [q] at e;cases e
    | some c=>cases c<;>(rw [q] at e;cases e)
 exact ⟨go.1,by unfold SeqAt.shaped;rw [go.2.1];simpa using go.2.2⟩
def bJ2 {j:Int} (h:aT j=true):0 < j/\j.natAbs.log2 < 9000:=by
 unfold aT at h;simp only [Bool.and_eq_true,Bool.or_eq_true,decide_eq_true_eq] at h;refine ⟨h.1,?_⟩;rcases h.2 with z | z
 ·have h0:j.natAbs≠0:=by omega
  have:=(Nat.log2_lt h0 (k:=30)).mpr (by omega);omega
 ·omega
def vN (k:Nat):(0:Int)<=2^k:=by rw [two_pow_cast];exact Int.natCast_nonneg _
def bJ3 {i j:Int} (h:fV i j=true):IntMulOk i j:=by
 unfold fV at h;simp only [Bool.and_eq_true,Bool.or_eq_true,decide_eq_true_eq] at h;rcases h with ⟨h1,h2⟩ | ⟨h1,h2⟩
 ·exact .of_left (intBits_le_64 h1 h2)
 ·exact .of_right (intBits_le_64 h1 h2)
def bJ4 (R:Mem S κ M h s) (ra:RepW S M x u) (rb:RepW S M y v) (e:aV0 x y h=some (w,h')):Wp S A (binaryOp .Add u v) (Pw S κ M h' w) E s:=by
 unfold aV0 at e;split at e
 ·cases e;obtain ⟨t,rfl⟩:=wi.mp ra;obtain ⟨t',rfl⟩:=wi.mp rb;exact add_int R.pi
 ·obtain ⟨hz,e⟩:=aE e;cases e;obtain ⟨a,us,n,rfl,ea,la,ra'⟩:=fY (h:=h) R ra rfl;obtain ⟨b,vs,m,rfl,eb,lb,rb'⟩:=fY (h:=h) R rb rfl;have l1:=ra'.length;have l2:=rb'.length
  by_cases e1:us=[]
  ·subst e1;cases ra';refine concat_meets ⟨_,R.z _ _ ea,rfl⟩ ⟨_,R.z _ _ eb,rfl⟩ noFill_tuple_add seq_tuple_add PySem.F.slot_tuple_add PySem.F.entry_tuple_add (PySem.F.args_tuple_add_2 _ _) (tuple_addW0 a b _ _ n m none none #[] #[] rfl) ⟨R.z _ _ ea,R.z _ _ eb,?_⟩;exact R.pw rb
  ·refine HT.cat_tup (eG (R.z _ _ ea)) (eG (R.z _ _ eb)) e1 (fun z=>?_) (fun _=>?_) (by omega)
   ·subst z;cases rb';rw [List.append_nil];exact R.pw ra
   ·exact R.tup (t:=s.toks) (vL ra' rb') (by rw [List.length_append];omega)
 ·split at e
  ·rename_i ha hb;obtain ⟨hz,e⟩:=aE e;cases e;obtain ⟨a,us,n,rfl,ea,la,ra'⟩:=cR R ra ha;obtain ⟨b,vs,m,rfl,eb,lb,rb'⟩:=cR R rb hb;have l1:=ra'.length;have l2:=rb'.length;refine PySem.P.add_list ea eb ?_ (by rw [List.size_toArray,List.size_toArray];omega);have ea:us.toArray++vs.toArray=(us++vs).toArray:=by simp
   rw [ea];exact rJ (R.lstP (t:=s.toks) (vL ra' rb') (by rw [List.length_append];omega))
  ·cases e
def bJ5 {op:Operator} (R:Mem S κ M h s) (ra:RepW S M x u) (rb:RepW S M y v) (e:fM op x y h=some (w,h')):Wp S A (binaryOp op u v) (Pw S κ M h' w) E s:=by
 unfold fM at e;split at e
 ·exact bJ4 R ra rb e
 ·unfold bW0 at e;split at e
  ·obtain ⟨hm,e⟩:=aE e;cases e;obtain ⟨t,rfl⟩:=wi.mp ra;obtain ⟨t',rfl⟩:=wi.mp rb;exact mul_int R.pi (bJ3 hm)
  ·cases e
 ·split at e
  ·rename_i i j;obtain ⟨t,rfl⟩:=wi.mp ra;obtain ⟨t',rfl⟩:=wi.mp rb;split at e
   ·cases e;exact sub_int R.pi
   ·obtain ⟨hm,e⟩:=aE e;cases e;obtain ⟨h1,h2⟩:=bJ2 hm;exact floordiv_int (by omega) (by rw [Int.fdiv_eq_ediv_of_nonneg i (by omega)];exact R.pi) (.inl (PyProof.noPylong_of_log2 h2))
   ·obtain ⟨hm,e⟩:=aE e;cases e;exact mod_int' (by omega) (by rw [Int.fmod_eq_emod_of_nonneg i (by omega)];exact R.pi)
   ·obtain ⟨hm,e⟩:=aE e;cases e;unfold xZ at hm;simp only [Bool.and_eq_true,decide_eq_true_eq] at hm;exact pow_int_small hm.1 hm.2.1 hm.2.2 R.pi
   ·obtain ⟨hm,e⟩:=aE e;cases e;exact rshift_int hm (by rw [Int.fdiv_eq_ediv_of_nonneg i (vN _)];exact R.pi)
   ·cases e;exact and_int R.pi
   ·cases e
  ·cases e
def bJ6 {i:Int} (R:Mem S κ M h s) (ra:RepW S M (.d (.int i)) u):Wp S A (unaryOp .USub u) (Pw S κ M h (.d (.int (-i)))) E s:=by
 obtain ⟨t,rfl⟩:=wi.mp ra;exact neg_int R.pi
def mS {Z:Zm} {a b:PyData} {k:Bool} (ra:Rep S Z a u) (rb:Rep S Z b v) (e:isSame a b=some k):plainIs u v=true/\(u==v)=k:=by
 cases b with
 | none =>
  rw [Rep] at rb;subst rb;cases a with
  | none=>rw [Rep] at ra;subst ra;cases e;exact ⟨rfl,rfl⟩
  | bool c=>rw [Rep] at ra;subst ra;cases e;exact ⟨rfl,rfl⟩
  | int c=>rw [Rep] at ra;obtain ⟨t,rfl⟩:=ra;cases e;exact ⟨rfl,rfl⟩
  | str c=>rw [Rep] at ra;obtain ⟨⟨t,rfl⟩,_⟩:=ra;cases e;exact ⟨rfl,rfl⟩
  | list c=>rw [Rep] at ra;obtain ⟨p,o,vs,rfl,_⟩:=ra;cases e;exact ⟨rfl,rfl⟩
  | tuple c=>rw [Rep] at ra;obtain ⟨p,o,vs,rfl,_⟩:=ra;cases e;exact ⟨rfl,rfl⟩
  | dict c=>cases e
 | bool b =>
  rw [Rep] at rb;subst rb;cases a with
  | none=>rw [Rep] at ra;subst ra;cases e;exact ⟨rfl,rfl⟩
  | bool c=>rw [Rep] at ra;subst ra;cases e;cases b<;>cases c<;>exact ⟨rfl,rfl⟩
  | int c=>rw [Rep] at ra;obtain ⟨t,rfl⟩:=ra;cases e;exact ⟨rfl,rfl⟩
  | str c=>rw [Rep] at ra;obtain ⟨⟨t,rfl⟩,_⟩:=ra;cases e;exact ⟨rfl,rfl⟩
  | list c=>rw [Rep] at ra;obtain ⟨p,o,vs,rfl,_⟩:=ra;cases e;exact ⟨rfl,rfl⟩
  | tuple c=>rw [Rep] at ra;obtain ⟨p,o,vs,rfl,_⟩:=ra;cases e;exact ⟨rfl,rfl⟩
  | dict c=>cases e
 | _=>cases a<;>cases e
end
end DL

namespace DL
open PySem PySem.Spec PyProof.Rows L2 CI
section
variable {S:Sx} {κ:Kp} {M:Mp} {h h':aA} {s:Shared} {A:Around} {E:Value->Shared->Prop} {x y w:W} {u v:Value} {d:Nat} {b:Bool}
def Room.mono {j k:Nat} (r:Room k A) (h:j<=k):Room j A:=⟨r.hd,by have:=r.dp;omega,by have:=r.un;omega⟩
def Room.u64 (r:Room d A):A.units+64 < cLine:=by have:=r.un;omega
def Room.u65 (r:Room d A):A.units+65 < cLine:=by have:=r.un;omega
def vO {z:PyData} {k:Key} {Z:Zm} (e:bU z=some k) (r:Rep S Z z u):(bF S.P S.w).is k u=true:=by
 cases z with
 | int i=>cases e;obtain ⟨t,rfl⟩:=rep_i.mp r;exact kU _ _ i t
 | str z =>
  unfold bU at e;obtain ⟨_,e⟩:=aE e;cases e;obtain ⟨⟨t,rfl⟩,_⟩:=rep_s.mp r;exact sZ _ _ z t
 | _=>cases e
def pG {Z:Zm} (k:Key) {kvs:List (PyData×PyData)} {vs:List (Key×Value)} (r:RepK S Z kvs vs) :
  (∀ p,(kvs.find? fun p=>decide (bU p.1=some k))=some p->∃ v,valueAt vs k=some v/\Rep S Z p.2 v)/\((kvs.find? fun p=>decide (bU p.1=some k))=none->valueAt vs k=none):=by
 unfold valueAt;induction r with
 | nil=>exact ⟨fun p e=>(nomatch e),fun _=>rfl⟩
 | @cons p q ps qs hp _ ih =>
  by_cases e:q.1=k
  ·have a1:decide (bU p.1=some k)=true:=by rw [hp.1,e];simp
   simp only [List.find?_cons,a1,decide_eq_true e];exact ⟨fun _ ep=>by cases ep;exact ⟨_,rfl,hp.2⟩,fun ep=>by cases ep⟩
  ·have a1:decide (bU p.1=some k)=false:=by rw [hp.1];simpa using e
   simp only [List.find?_cons,a1,decide_eq_false e];exact ih
theorem tI {α:Type} (p:α->Bool):∀ xs:List α,xs.any p=(xs.find? p).isSome
 | []=>rfl
 | x::r=>by
  rw [List.any_cons];cases e:p x with
  | true=>rw [List.find?_cons_of_pos e];rfl
  | false=>rw [List.find?_cons_of_neg (by rw [e];exact Bool.false_ne_true),<- tI p r];rfl
def aI1 {Z:Zm} (k:Key) {kvs:List (PyData×PyData)} {vs:List (Key×Value)} (r:RepK S Z kvs vs):(kvs.any fun p=>decide (bU p.1=some k))=(valueAt vs k).isSome:=by
 rw [tI];obtain ⟨f1,f2⟩:=pG k r;cases q:kvs.find? fun p=>decide (bU p.1=some k) with
 | none=>rw [f2 q];rfl
 | some p=>obtain ⟨v,e,_⟩:=f1 p q;rw [e];rfl
def yH {z:PyData} {k:Key} (R:Mem S κ M h s) (r:RepW S M x u) (e:ref h x=some z) (ek:bU z=some k):(bF S.P S.w).is k u=true:=by
 cases x with
 | d y=>cases e;exact vO ek r
 | c i =>
  dsimp only [DL.ref] at e;cases q:h[i]? with
  | none=>rw [q] at e;cases e
  | some c=>cases c<;>(rw [q] at e;cases e)<;>cases ek
def yI {kvs:List (PyData×PyData)} (R:Mem S κ M h s) (r:RepW S M x u) (e:hW x h=some kvs):∃ i p xs,x=.c i/\M.m[i]?=some p/\h[i]?=some (.n kvs)/\u=.ref p.1/\s.heap.DictOfH (cS S) p.1 xs/\hV S M.Z kvs xs/\(p.1==sysModules)=false/\xs.length<=sizeLine:=by
 unfold hW at e;split at e
 ·rename_i i;split at e
  ·rename_i kv ei;cases e;obtain ⟨p,ep,rfl⟩:=r;obtain ⟨xs,⟨o,es,epo,h1,h2,h3,h4,h5⟩,rr,hs,hz⟩:=R.cel i p _ ep ei;refine ⟨i,p,xs,rfl,ep,ei,rfl,⟨o,es,epo,h1,h2,h3,h4,fun x hx=>?_,h5⟩,rr,hs,hz⟩;obtain ⟨j,hj⟩:=List.getElem?_of_mem hx;have:∀ {l:List (PyData×PyData)} {r:List (HK×Addr×Value)},hV S M.Z l r->x∈r->Rep S M.Z x.1.1 (.ref x.2.1):=fun {l r} q hx=>by
    unfold hV at q;induction q with
    | nil=>simp at hx
    | cons a _ ih =>
     rcases List.mem_cons.mp hx with rfl | hx
     ·rw [<- a.1];exact a.2.1
     ·exact ih hx
   exact Rep.go R.z (this rr hx)
  ·cases e
 ·cases e
def mT {d:PyData} (R:Mem S κ M h s) (r:RepW S M x u) (e:ref h x=some d) (hd:(cT d&&hkB 4 d)=true):∃ (hk:hkB 4 d=true) (a:Addr),u=.ref a/\(cS S).is s.heap ⟨d,hk⟩ a/\Rep S M.Z d (.ref a):=by
 rw [Bool.and_eq_true] at hd;cases d with
 | tuple ys =>
  have hx:x=.d (.tuple ys):=by
   cases x with
   | d z=>cases e;rfl
   | c i =>
    dsimp only [DL.ref] at e;cases q:h[i]? with
    | none=>rw [q] at e;cases e
    | some c=>cases c<;>(rw [q] at e;cases e)
  subst hx;obtain ⟨a,o,us,rfl,rest⟩:=rep_t.mp (show Rep S M.Z _ _ from r);exact ⟨hd.2,a,rfl,Rep.go R.z (show Rep S M.Z _ _ from r),r⟩
 | _=>simp [cT] at hd
def aI2 {d:PyData} (hk:hkB 4 d=true) {Z:Zm}:∀ {kvs:List (PyData×PyData)} {xs:List (HK×Addr×Value)},hV S Z kvs xs->(kvs.any fun p=>peq p.1 d)=(atKey xs ⟨d,hk⟩).isSome:=by
 intro kvs xs r;unfold hV at r;unfold atKey;rw [Option.isSome_map];induction r with
 | nil=>rfl
 | @cons q x _ _ a _ ih =>
  have e:peq q.1 d=decide (x.1=⟨d,hk⟩):=by
   rw [a.1,Bool.eq_iff_iff,(gB x.1.2 hk).2,decide_eq_true_iff];exact (Subtype.ext_iff (a1:=x.1) (a2:=⟨d,hk⟩)).symm
  rw [List.any_cons,List.find?_cons,e,ih];cases decide (x.1=⟨d,hk⟩)<;>rfl
def aW0 {d:PyData} (hk:hkB 4 d=true) {Z:Zm} {p:PyData×PyData}:∀ {kvs:List (PyData×PyData)} {xs:List (HK×Addr×Value)},hV S Z kvs xs->(kvs.find? fun p=>peq p.1 d)=some p->∃ v,atKey xs ⟨d,hk⟩=some v/\Rep S Z p.2 v.2:=by
 intro kvs xs r e;unfold hV at r;unfold atKey;induction r with
 | nil=>cases e
 | @cons q x _ _ a _ ih =>
  have eq:peq q.1 d=decide (x.1=⟨d,hk⟩):=by
   rw [a.1,Bool.eq_iff_iff,(gB x.1.2 hk).2,decide_eq_true_iff];exact (Subtype.ext_iff (a1:=x.1) (a2:=⟨d,hk⟩)).symm
  rw [List.find?_cons,eq] at e;rw [List.find?_cons];cases hd:decide (x.1=⟨d,hk⟩) with
  | true=>rw [hd] at e;cases e;exact ⟨x.2,rfl,a.2.2⟩
  | false=>rw [hd] at e;exact ih e
def Room.nd (hr:Room d A):(cS S).room A.in1:=by
 have:=hr.un;show A.units+1+5 < cLine;omega
def bJ7 {neg:Bool} {z:PyData} (hr:Room d A) (R:Mem S κ M h s) (ra:RepW S M x u) (rb:RepW S M y v) (ea:ref h x=some z) (e:aV1 z y h=some b):Wp S A (compareOp (if neg then .NotIn else .In) u v) (Pw S κ M h (.d (.bool (neg ^^ b)))) E s:=by
 obtain ⟨kvs,e1,e⟩:=bind_some (show (hW y h).bind _=_ from e);obtain ⟨hz,e⟩:=aE e;cases e;obtain ⟨i,p,xs,rfl,ep,ei,rfl,dd,rr,hs,_⟩:=yI R rb e1;obtain ⟨hk,a,rfl,ik,_⟩:=mT R ra ea hz;rw [aI2 hk rr];cases neg
 ·exact wpAny_in_heap hr.nd ik hs dd (by simpa using (R.tok _).pb)
 ·exact wpAny_notIn_heap hr.nd ik hs dd (by simpa using (R.tok _).pb)
def bF1 {neg:Bool} (hr:Room d A) (R:Mem S κ M h s) (ra:RepW S M x u) (rb:RepW S M y v) (e:xIn x y h=some b):Wp S A (compareOp (if neg then .NotIn else .In) u v) (Pw S κ M h (.d (.bool (neg ^^ b)))) E s:=by
 unfold xIn at e;split at e
 ·rename_i z xs ea eb;obtain ⟨hp,e⟩:=aE e;cases e;rw [Bool.and_eq_true] at hp;obtain ⟨⟨bs,z2⟩,q2⟩:=oO R rb eb hp.1;obtain ⟨⟨as,z1⟩,q1⟩:=oO R ra ea hp.2;cases neg
  ·exact SeqAt.in_list_reads z2 z1 (SeqAt.canLay_of_shaped q2) (SeqAt.canLay_of_shaped q1) (room_in_shaped q1 hr.u65) (by simpa using R.pb)
  ·exact SeqAt.notIn_list_reads z2 z1 (SeqAt.canLay_of_shaped q2) (SeqAt.canLay_of_shaped q1) (room_in_shaped q1 hr.u65) (by simpa using R.pb)
 ·rename_i z xs ea eb;obtain ⟨hp,e⟩:=aE e;cases e;rw [Bool.and_eq_true] at hp;obtain ⟨⟨bs,z2⟩,q2⟩:=oO R rb eb hp.1;obtain ⟨⟨as,z1⟩,q1⟩:=oO R ra ea hp.2;cases neg
  ·exact SeqAt.in_tuple_reads z2 z1 (SeqAt.canLay_of_shaped q2) (SeqAt.canLay_of_shaped q1) (room_in_shaped q1 hr.u65) (by simpa using R.pb)
  ·exact SeqAt.notIn_tuple_reads z2 z1 (SeqAt.canLay_of_shaped q2) (SeqAt.canLay_of_shaped q1) (room_in_shaped q1 hr.u65) (by simpa using R.pb)
 ·rename_i z kvs ea eb;split at e
  ·rename_i k ek;cases e;obtain ⟨a,vs,rfl,dd,rk,hd,_⟩:=yG R rb eb;rw [aI1 k rk];cases neg
   ·exact wpAny_in_of (yH R ra ea ek) hd dd.mapOf (by simpa using (R.tok _).pb)
   ·exact wpAny_notIn_of (yH R ra ea ek) hd dd.mapOf (by simpa using (R.tok _).pb)
  ·obtain ⟨hz,e⟩:=aE e;cases e;rw [Bool.and_eq_true,List.isEmpty_iff] at hz;obtain ⟨rfl,hz⟩:=hz;obtain ⟨a,vs,rfl,⟨o,es,ep,h1,h2,h3,_,h5,_⟩,rk,hd,_⟩:=yG R rb eb;cases rk;have ees:es.toList=[]:=by generalize es.toList=l at h5;cases h5;rfl
   obtain ⟨hk,ka,rfl,ik,_⟩:=mT R ra ea hz;have dd:s.heap.DictOfH (cS S) a []:=⟨o,es,ep,h1,h2,h3,ees,fun _ z=>(by cases z),List.nodup_nil⟩;cases neg
   ·exact wpAny_in_heap hr.nd ik hd dd (by simpa [atKey] using (R.tok _).pb)
   ·exact wpAny_notIn_heap hr.nd ik hd dd (by simpa [atKey] using (R.tok _).pb)
 ·rename_i z ea eb;exact bJ7 hr R ra rb ea e
 ·cases e
def gG {op:CmpOp} {p:Bool×aA} (hr:Room d A) (R:Mem S κ M h s) (ra:RepW S M x u) (rb:RepW S M y v) (e:dR op x y h=some p):p.2=h/\Wp S A (compareOp op u v) (Pw S κ M h (.d (.bool p.1))) E s:=by
 unfold dR at e;split at e
 ·obtain ⟨b,e1,rfl⟩:=map_some e;refine ⟨rfl,?_⟩;unfold xEq at e1;split at e1
  ·rename_i ea eb;obtain ⟨hp,e1⟩:=aE e1;cases e1;rw [Bool.and_eq_true] at hp;obtain ⟨⟨as,z1⟩,q1⟩:=oO R ra ea hp.1;obtain ⟨⟨bs,z2⟩,q2⟩:=oO R rb eb hp.2;exact eq_dataH z1 z2 q1 q2 hr.u64 R.pb
  ·cases e1
 ·obtain ⟨b,e1,rfl⟩:=map_some e;refine ⟨rfl,?_⟩;unfold xEq at e1;split at e1
  ·rename_i ea eb;obtain ⟨hp,e1⟩:=aE e1;cases e1;rw [Bool.and_eq_true] at hp;obtain ⟨⟨as,z1⟩,q1⟩:=oO R ra ea hp.1;obtain ⟨⟨bs,z2⟩,q2⟩:=oO R rb eb hp.2;exact ne_dataH z1 z2 q1 q2 hr.u64 R.pb
  ·cases e1
 ·obtain ⟨b,e1,rfl⟩:=map_some e;unfold xIs at e1;split at e1
  ·obtain ⟨h1,h2⟩:=mS ra rb e1;exact ⟨rfl,wpAny_is_plain h1 (by rw [h2];exact R.pb)⟩
  ·cases e1
 ·obtain ⟨b,e1,rfl⟩:=map_some e;unfold xIs at e1;split at e1
  ·obtain ⟨h1,h2⟩:=mS ra rb e1;exact ⟨rfl,wpAny_isNot_plain h1 (by rw [h2];exact R.pb)⟩
  ·cases e1
 ·obtain ⟨b,e1,rfl⟩:=map_some e;exact ⟨rfl,by simpa using bF1 (neg:=false) (A:=A) (E:=E) hr R ra rb e1⟩
 ·obtain ⟨b,e1,rfl⟩:=map_some e;exact ⟨rfl,by simpa using bF1 (neg:=true) (A:=A) (E:=E) hr R ra rb e1⟩
 ·split at e
  ·obtain ⟨f,e1,rfl⟩:=map_some e;obtain ⟨t,rfl⟩:=wi.mp ra;obtain ⟨t',rfl⟩:=wi.mp rb;refine ⟨rfl,?_⟩;cases op<;>cases e1
   ·exact lt_int R.pb
   ·exact le_int R.pb
   ·exact gt_int R.pb
   ·exact ge_int R.pb
  ·cases e
def rK {n:Nat} {i:Int} {j:Nat} (h:ixN n i=some j):seqIndex? i n=some j/\j < n/\-(n:Int)<=i/\i < n:=by
 unfold ixN at h
 by_cases h0:0<=i
 ·rw [if_pos h0] at h;obtain ⟨h1,h⟩:=aE h;cases h;exact ⟨seqIndex_of h0 h1,by omega,by omega,h1⟩
 ·rw [if_neg h0] at h;obtain ⟨h1,h⟩:=aE h;cases h;exact ⟨seqIndex_neg (by omega) h1,by omega,h1,by omega⟩
def rL {α β:Type} {F:α->β->Prop} {l:List α} {r:List β} {i:Int} {a:α} (p:Paired F l r) (e:atI l i=some a):∃ j b,seqIndex? i r.length=some j/\r[j]?=some b/\F a b/\-(r.length:Int)<=i/\i < r.length:=by
 obtain ⟨j,h1,h2⟩:=bind_some e;obtain ⟨b,h3,h4⟩:=hU p h2;rw [p.length] at h1;obtain ⟨q1,_,q3,q4⟩:=rK h1;exact ⟨j,b,q1,h3,h4,q3,q4⟩
def rM:(sizeLine:Nat) < 2^62:=by decide
def aI3 {us:List Value} {n:Nat} {a:Addr} {i:Int} {t:Tok} {j:Nat} {c:Value} {value slice:Expr} {Q:Value->Shared->Prop} (ho:s.heap.get? a=some (bB us n)) (hz:us.length<=sizeLine) (h1:seqIndex? i us.length=some j) (h2:us[j]?=some c) (h3:-(us.length:Int)<=i) (h4:i < us.length)
  (hs:subscripted slice false (.ref a) (.int i t)=operate [.ref a,.int i t] (getItem (.ref a) (.int i t))) (q:Q c s):Wp S A (subscriptTail value slice (.ref a) (.int i t)) Q E s:=by
 have hn:=rM
 by_cases h0:0<=i
 ·have hj:i.toNat=j:=by rw [seqIndex_of h0 h4] at h1;exact Option.some.inj h1
  exact item_listR (cK ho).isList h0 (by omega) (by rw [hj];simpa using h2) q hs
 ·have hj:(i+(us.toArray.size:Int)).toNat=j:=by rw [seqIndex_neg (by omega) h3] at h1;rw [List.size_toArray];exact Option.some.inj h1
  exact subscriptTail_builtinR (x:=c) (cK ho).isList.typeIs slot_list_getitem.lookup
   (wpAny_getItem_list_neg (Q:=fun r s'=>r=c/\Q r s') (cK ho).isList (by omega) (by rw [List.size_toArray]<;>omega) (by omega) (by rw [hj];simpa using h2) ⟨rfl,q⟩) hs
def rN {T id:String} {o i:Value} {value slice:Expr} {Q:Value->Shared->Prop} (hT:s.TypeIs o T) (hl:typeLookup (.type T) "__getitem__"=pure (some (.builtin id))) (hs:subscripted slice false o i=operate [o,i] (getItem o i)) (h:Wp S A (getItem o i) Q E s):Wp S A (subscriptTail value slice o i) Q E s:=by
 unfold subscriptTail;refine wpAny_bind ?_;rw [getitemInPython_of_ne hT.not_modules];refine wpAny_bind (wpAny_specialOf hT hl ?_);have fin:Wp S A (subscripted slice false o i) (fun r s₃=>Wp S A (letTemporaryGo value o r >>= fun _=>pure r) Q E s₃) E s:=by
  rw [hs];exact wpAny_operating (wpAny_mono h (fun r s₃ h₃=>wpAny_bind (wpAny_letTemporaryGo (wpAny_pure h₃))) fun _ _ x=>x)
 first
  | exact wpAny_pure (wpAny_bind fin)
  | exact wpAny_bind (wpAny_pure (wpAny_bind fin))
  | exact wpAny_bind fin
def bW7 {value slice:Expr} (hr:Room d A) (R:Mem S κ M h s) (ra:RepW S M x u) (rb:RepW S M y v) (e:xIx x y h=some (w,h')) (hs:∀ o i,subscripted slice false o i=operate [o,i] (getItem o i)):Wp S A (subscriptTail value slice u v) (Pw S κ M h' w) E s:=by
 unfold xIx at e;cases ea:ref h x with
 | none =>
  rw [ea] at e;cases y with
  | c _=>cases e
  | d y =>
   cases y with
   | int k =>
    replace e:xIr x k h=some (w,h'):=e
    unfold xIr at e;split at e
    ·rename_i i;split at e
     ·rename_i is ei;obtain ⟨z,ez,e⟩:=map_some e;cases e;obtain ⟨t,rfl⟩:=wi.mp rb;obtain ⟨p,ep,rfl⟩:=ra;obtain ⟨us,n,ho,hz,rr⟩:=R.cel i p _ ep ei;obtain ⟨j,c,h1,h2,h3,h4,h5⟩:=rL (tB rr) ez;exact aI3 ho hz h1 h2 h4 h5 (hs _ _) (R.pw h3)
     ·cases e
    ·cases e
   | tuple ks =>
    obtain ⟨kvs,e1,e⟩:=bind_some (show (hW x h).bind _=_ from e);obtain ⟨hz,e⟩:=aE e;obtain ⟨q,eq,e⟩:=map_some e;cases e;obtain ⟨i,p,xs,rfl,ep,ei,rfl,dd,rr,hsm,_⟩:=yI R ra e1;obtain ⟨hk,a,rfl,ik,_⟩:=mT (h:=h) R rb rfl hz;obtain ⟨c,hc,rc⟩:=aW0 hk rr eq;exact rN dd.typeIs PySem.F.slot_dict_getitem.lookup (hs _ _) (wpAny_getItem_heap hr.nd ik dd hc ((R.tok _).pw rc))
   | _=>cases e
 | some t =>
  rw [ea] at e;cases t with
  | list xs =>
   cases y with
   | c _=>cases e
   | d y =>
    cases y with
    | int i =>
     obtain ⟨z,ez,e⟩:=map_some e;cases e;obtain ⟨t,rfl⟩:=wi.mp rb;obtain ⟨a,us,n,rfl,ho,hz,rr⟩:=cR R ra ea;obtain ⟨j,c,h1,h2,h3,h4,h5⟩:=rL rr ez;exact aI3 ho hz h1 h2 h4 h5 (hs _ _) (R.pw h3)
    | _=>cases e
  | tuple xs =>
   cases y with
   | c _=>cases e
   | d y =>
    cases y with
    | int i =>
     obtain ⟨z,ez,e⟩:=map_some e;cases e;obtain ⟨t,rfl⟩:=wi.mp rb;obtain ⟨a,us,n,rfl,ho,hz,rr⟩:=fY R ra ea;obtain ⟨j,c,h1,h2,h3,h4,h5⟩:=rL rr ez;have pl:=eG (R.z _ _ ho);have hn:=rM;exact subscriptTail_builtinR (x:=c) pl.typeIs slot_tuple_getitem.lookup (getItem_tuple (j:=j) (Q:=fun r s'=>r=c/\Pw S κ M h (.d z) r s') pl (by omega) (by omega) (by rw [List.size_toArray];exact h1) (by simpa using h2) ⟨rfl,R.pw h3⟩) (hs _ _)
    | _=>cases e
  | dict kvs =>
   cases y with
   | c _=>cases e
   | d z =>
    dsimp only at e;cases ek:bU z with
    | none=>rw [ek] at e;cases e
    | some k =>
     rw [ek] at e;obtain ⟨p,ep,e⟩:=map_some e;cases e;obtain ⟨a,vs,rfl,dd,rk,hd,_⟩:=yG R ra ea;obtain ⟨c,hc,rc⟩:=(pG k rk).1 p ep;exact rN dd.typeIs PySem.F.slot_dict_getitem.lookup (hs _ _) (wpAny_getItem_of (vO ek rb) dd.mapOf hc ((R.tok _).pw rc))
  | _=>cases e
end
end DL

namespace DL
open PySem PySem.Spec PyProof.Rows L2 CI
section
variable {S:Sx} {κ:Kp} {M:Mp} {h h':aA} {s:Shared} {A:Around} {E:Value->Shared->Prop} {x y w:W} {u v:Value} {d:Nat} {b:Bool} {ws:List W} {us:List Value}
def aI4 {α:Type} (xs:List α) (lo hi:Option Int):((xs.drop (HT.sIx xs.length 0 lo)).take (HT.sIx xs.length xs.length hi - HT.sIx xs.length 0 lo)).length<=xs.length:=by rw [List.length_take,List.length_drop];omega
def rO (lo hi:Option Int) (n:Nat):(sliceBounds lo hi none n).1=((HT.sIx n 0 lo:Nat):Int)/\(sliceBounds lo hi none n).2.1=((HT.sIx n n hi:Nat):Int)/\(sliceBounds lo hi none n).2.2=1:=by
 refine ⟨?_,?_,rfl⟩
 ·cases lo with
  | none=>simp [sliceBounds,HT.sIx]
  | some i =>
   simp only [sliceBounds,HT.sIx,Option.getD_none,show (1:Int) > 0 by decide,if_true]
   by_cases h:i < 0
   ·simp only [h,if_true]<;>omega
   ·simp only [h,if_false]<;>omega
 ·cases hi with
  | none=>simp [sliceBounds,HT.sIx]
  | some i =>
   simp only [sliceBounds,HT.sIx,Option.getD_none,show (1:Int) > 0 by decide,if_true]
   by_cases h:i < 0
   ·simp only [h,if_true]<;>omega
   ·simp only [h,if_false]<;>omega
def oQ (its:List Value) (lo hi:Option Int):slicePick its.toArray lo hi none=((its.drop (HT.sIx its.length 0 lo)).take (HT.sIx its.length its.length hi - HT.sIx its.length 0 lo)).toArray:=by
 obtain ⟨h1,h2,h3⟩:=rO lo hi its.toArray.size;unfold slicePick;rw [h1,h2,h3];simp only [sliceRange_one,pick_run,List.size_toArray]<;>rfl
def aA7 {prog:Program} {w:World} {A:Around} {E:Value->Shared->Prop} {s:Shared} {t sl:Addr} {items:Array Value} {vl vu:Value} {lo hi:Option Int} {Q:Value->Shared->Prop} (ht:IsTup s.heap t items) (hs:s.heap.IsSliceOf sl vl vu .none) (pl:IsPart vl lo) (pu:IsPart vu hi)
  (hw:HT.sIx items.size 0 lo=0/\HT.sIx items.size items.size hi=items.size) (h:Q (.ref t) s):wpAny (model prog w) A (getItem (.ref t) (.ref sl)) Q E s:=by
 obtain ⟨os,hos,hcs,hds⟩:=id hs;have hTs:s.TypeIs (.ref sl) "slice":=⟨os,hos,hcs⟩;unfold getItem;try with_reducible refine wpAny_holding ?_
 first | refine wpAny_bind (wpAny_pure ?_) | skip
 refine wpAny_bind (wpAny_sequenceKey ht.typeIs (by decide) ?_);refine wpAny_bind (wpAny_callSpecial?_slot (name:=Str.ofString "__getitem__") ht.typeIs PyProof.Rows.slot_tuple_getitem
  (wpAny_call_entry PyProof.Rows.slot_tuple_getitem ht.typeIs entry_tuple_getitem ?_ (args_tuple_getitem _ _)))
 show wpAny _ _ (Builtin.Tuple.tupleItemsOf (.ref t) >>= _) _ _ s;refine wpAny_bind (tupleItemsOf_ ht (wpAny_bind (wpAny_typeOf hTs ?_)));rw [if_pos (by decide)];refine wpAny_bind (HT.sliceApplied_gen hs pl pu ?_);have hy:(((HT.sIx items.size 0 lo:Nat):Int)==0&&(1:Int)==1&&(HT.sIx items.size items.size hi - HT.sIx items.size 0 lo)==items.size)=true:=by
  rw [hw.1,hw.2];simp
 show wpAny _ _ (if (((HT.sIx items.size 0 lo:Nat):Int)==0&&(1:Int)==1&&(HT.sIx items.size items.size hi - HT.sIx items.size 0 lo)==items.size)=true then _ else _) _ _ s;rw [if_pos hy];refine wpAny_bind (wpAny_bind (wpAny_typeOf ht.typeIs (wpAny_pure ?_)));rw [if_pos (by decide)];exact wpAny_bind (wpAny_rule (wpAny_pure ⟨_,rfl,wpAny_pure h⟩))
def sl_l {xs:List PyData} {vl vu:Value} {lo hi:Option Int} {sl:Addr} (R:Mem S κ M h s) (ra:RepW S M x u) (e:ref h x=some (.list xs)) (hs:s.heap.IsSliceOf sl vl vu .none) (pl:IsPart vl lo) (pu:IsPart vu hi):s.TypeIs u "list"/\Wp S A (getItem u (.ref sl)) (Pf S κ M h (cut xs lo hi)) E s:=by
 obtain ⟨a,us,n,rfl,ho,hz,rr⟩:=cR R ra e;refine ⟨(cK ho).isList.typeIs,wpAny_getItem_list_slice (cK ho).isList hs pl pu .none (by simp) ?_ (by rw [List.size_toArray]<;>omega)⟩;rw [oQ];unfold cut;rw [rr.length];exact R.lstP (t:=s.toks) (n:=0) (tA _ (xX _ rr)) (Nat.le_trans (aI4 us lo hi) hz)
def sl_t {xs:List PyData} {vl vu:Value} {lo hi:Option Int} {sl:Addr} (R:Mem S κ M h s) (ra:RepW S M (.d (.tuple xs)) u) (hs:s.heap.IsSliceOf sl vl vu .none) (pl:IsPart vl lo) (pu:IsPart vu hi):s.TypeIs u "tuple"/\Wp S A (getItem u (.ref sl)) (Pw S κ M h (.d (.tuple (cut xs lo hi)))) E s:=by
 obtain ⟨a,us,n,rfl,ho,hz,rr⟩:=fY (h:=h) R ra rfl;have ht:=eG (R.z _ _ ho);have hl:=rr.length;have hlen:us.toArray.size=us.length:=List.size_toArray;refine ⟨ht.typeIs,?_⟩
 by_cases hw:HT.sIx us.length 0 lo=0/\HT.sIx us.length us.length hi=us.length
 ·refine aA7 ht hs pl pu (by rw [hlen];exact hw) ?_;have ec:cut xs lo hi=xs:=by
   unfold cut;rw [hl,hw.1,hw.2,List.drop_zero,Nat.sub_zero,<- hl,List.take_length]
  rw [ec];exact R.pw ra
 ·refine HT.getItem_tuple_cut ht hs pl pu (by rw [hlen];exact hw) ?_ (by rw [hlen];exact hz);rw [hlen];unfold cut;rw [hl];exact R.tup (t:=s.toks) (tA _ (xX _ rr)) (Nat.le_trans (aI4 us lo hi) hz)
def w1 (r:RepWs S M [x] us):∃ u,us=[u]/\RepW S M x u:=by cases r with | cons a b=>cases b;exact ⟨_,rfl,a⟩
def w2 (r:RepWs S M [x,y] us):∃ u v,us=[u,v]/\RepW S M x u/\RepW S M y v:=by cases r with | cons a b=>obtain ⟨v,rfl,c⟩:=w1 b;exact ⟨_,v,rfl,a,c⟩
def BfS (S:Sx) (f:Value) (g:List W->aA->Option (W×aA)):Prop:=∀ {κ:Kp} {M:Mp} {h h':aA} {s:Shared} {A:Around} {E:Value->Shared->Prop} {ws:List W} {us:List Value} {w:W} {d:Nat},Room d A->S.K.In S.base->(s.heap.objs.size==sysModules)=false->Mem S κ M h s->RepWs S M ws us->g ws h=some (w,h')->Wp S A (call f us) (Pw S κ M h' w) E s
def bJ8 {d:Addr} {xs:List (HK×Addr×Value)} {Q:Value->Shared->Prop} (hd:(d==sysModules)=false) (hm:NdO S s.heap d xs) (hfit:(xs.length:Int) < 2^63)
  (h:Q (.int xs.length (s.toks+1)) { s with toks:=s.toks+1+1 }):Wp S A (call (.builtin "len") [.ref d]) Q E s:=by
 obtain ⟨o,es,ep,ho,hc,hdat,he,hn⟩:=hm;have hT:s.TypeIs (.ref d) "dict":=⟨o,ho,hc.1⟩;have hes:es.size=xs.length:=size_of_entries he;refine Calls.call_function_entry kind_len plain_len entry_len (args_len1 _) ?_;have M:MeetsIn S.P S.w (Builtin.«dict.__len__» ⟨[.ref d],[]⟩) (fun _ R s=>∃ o es ep,s.heap.get? d=some o/\o.data=.dict es ep/\R (.ok (.ret (.int es.size s.toks))) { s with toks:=s.toks+1 }):=.of_wp fun A R s ⟨o,es,ep,ho,hdat,h⟩=>by
  show wpAny _ _ (dictSize d >>= _) _ _ s;unfold dictSize;refine wpAny_bind (wpAny_bind (wpAny_dictEntries ho hdat (wpAny_pure ?_)));show wpAny _ _ (Builtin.Dict.pendingCount d >>= _) _ _ s;refine wpAny_bind (wpAny_pendingCount_other hd ?_);refine wpAny_ret_mkInt ?_;rw [Nat.add_zero];exact h
 refine wpAny_bind (m:=oneArg "len" _) (wpAny_pure ?_);refine wpAny_bind (m:=callSpecial? (.ref d) (Str.ofString "__len__")) (wpAny_callSpecial?_slot (name:=Str.ofString "__len__") hT F.slot_dict_len
  (call_meetsIn F.slot_dict_len hT F.entry_dict_len (F.args_dict_len_1 _) M ⟨o,es,ep,ho,hdat,?_⟩))
 show wpAny _ _ _ _ _ { s with toks:=s.toks+1 };rw [hes];refine wpAny_bind (wpAny_holding (wpAny_pure ?_));refine wpAny_bind (wpAny_letGo ?_);show wpAny _ _ (if ((xs.length:Nat):Int) < 0 then _ else _) _ _ _;rw [if_neg (by omega)];show wpAny _ _ (if ((xs.length:Nat):Int) ≥ 2^63 then _ else _) _ _ _;rw [if_neg (by omega)];exact wpAny_bind (wpAny_mkInt (wpAny_pure ⟨_,rfl,h⟩))
def bW8:BfS S (.builtin "len") aZ:=by
 intro κ M h h' s A E ws us w d hr hK hsm R r e;have hn:=rM;unfold aZ at e;split at e
 ·obtain ⟨u,rfl,ra⟩:=w1 r;split at e
  ·rename_i ea;cases e;obtain ⟨a,vs,n,rfl,ho,hz,rr⟩:=cR R ra ea;refine Calls.call_len_list (cK ho).isList (by simp only [List.size_toArray]<;>omega) ?_;rw [List.size_toArray,rr.length];exact R.pi
  ·rename_i ea;cases e;obtain ⟨a,vs,n,rfl,ho,hz,rr⟩:=fY R ra ea;refine len_tuple (eG (R.z _ _ ho)) (by simp only [List.size_toArray]<;>omega) ?_;rw [List.size_toArray,rr.length];exact R.pi
  ·rename_i ea;obtain ⟨k,ek,e⟩:=map_some e;cases e;rename_i x;unfold aV2 at ek;split at ek
   ·rename_i j;obtain ⟨p,ep,rfl⟩:=ra;split at ek
    ·rename_i is ei;cases ek;obtain ⟨vs,n,ho,hz,rr⟩:=R.cel j p _ ep ei;have hl:=rr.length;rw [List.length_map] at hl;refine Calls.call_len_list (cK ho).isList (by simp only [List.size_toArray]<;>omega) ?_;rw [List.size_toArray,<- hl];exact R.pi
    ·rename_i kvs ei;cases ek;obtain ⟨xs,nd,rr,hs,hz⟩:=R.cel j p _ ep ei;have hl:=rr.length;exact bJ8 hs nd (by omega) (by rw [<- hl];exact (R.tok _).pi)
    ·cases ek
   ·cases ek
  ·cases e
 ·cases e
def aW1:BfS S (.type "tuple") bG:=by
 intro κ M h h' s A E ws us w d hr hK hsm R r e;unfold bG at e;split at e
 ·obtain ⟨u,rfl,ra⟩:=w1 r;split at e
  ·rename_i ea;cases e;obtain ⟨a,vs,n,rfl,ho,hz,rr⟩:=cR R ra ea;refine call_tuple_list (cK ho).isList (fun h2 kp=>?_) (by simp only [List.size_toArray]<;>omega);exact (R.kept (t:=s.toks) kp).tup (t:=s.toks) rr hz
  ·rename_i ea;cases e;obtain ⟨a,vs,n,rfl,ho,hz,rr⟩:=fY R ra ea;exact call_tuple_same (eG (R.z _ _ ho)) (R.pw (rep_t.mpr ⟨a,_,vs,rfl,ho,⟨⟨n,rfl⟩,hz⟩,rr⟩))
  ·cases e
 ·cases e
theorem pH {Z:Zm}:∀ {xs:List PyData} {bs:List Bool} {us:List Value},eR xs=some bs->Paired (Rep S Z) xs us->us=bs.map .bool
 | [],_,_,e,h=>by cases e;cases h;rfl
 | x::r,bs,us,e,h=>by
  cases h with
  | cons a t =>
   cases x with
   | bool b =>
    unfold eR at e;obtain ⟨cs,q,rfl⟩:=map_some e;rw [rep_b.mp a,pH q t];rfl
   | _=>cases e
def aA8 {f:Nat->Bool} (bs:List Bool) (h:∀ i b,bs[i]?=some b->f i=b):(List.range bs.length).all f=bs.all id:=by
 rw [Bool.eq_iff_iff,List.all_eq_true,List.all_eq_true];constructor
 ·intro z b hb;obtain ⟨i,hi,e⟩:=List.mem_iff_getElem.mp hb;have:=z i (by simpa using hi);rw [h i b (by simp [hi,e])] at this;exact this
 ·intro z i hi;have hi':i < bs.length:=by simpa using hi
  rw [h i bs[i] (by simp [hi'])];exact z _ (List.getElem_mem hi')
def bW9:BfS S (.builtin "all") hX:=by
 intro κ M h h' s A E ws us w d hr hK hsm R r e;unfold hX at e;split at e
 ·obtain ⟨u,rfl,ra⟩:=w1 r;split at e
  ·rename_i ea;obtain ⟨bs,eb,e⟩:=map_some e;cases e;obtain ⟨p,vs,n,rfl,ho,hz,rr⟩:=cR R ra ea;have ev:=pH eb rr;subst ev;have pl:=(cK ho).isList;refine call_all_walk (wpAny_pyIter_list pl ?_);refine ⟨s.heap.objs.size,_,_,(bs.map Value.bool).toArray.size,_,_,fun i=>(bs[i]?).getD true,rfl,Walks.list (A:=A.in1) hr.hd s.heap.objs.size p (Nat.ne_of_lt (Heap.lt_size ho)) (bs.map Value.bool).toArray,⟨⟨_,Heap.get?_push_size _ rfl,rfl,rfl⟩,?_⟩,fun i v s' Q' E' hP hQ=>?_,fun h2 tk hk=>?_⟩
   ·obtain ⟨o,ho,r⟩:=pl;exact ⟨o,Heap.get?_push_of_some _ ho,r⟩
   ·have hP':(bs.map Value.bool)[i]?=some v:=by simpa using hP
    rw [List.getElem?_map] at hP';obtain ⟨b,eb,rfl⟩:=map_some hP';dsimp only at hQ;rw [eb] at hQ;exact wpAny_truthy_bool hQ
   ·have e:(List.range (bs.map Value.bool).toArray.size).all (fun i=>(bs[i]?).getD true)=bs.all id:=by
     have:=aA8 (f:=fun i=>(bs[i]?).getD true) bs (fun i b e=>by simp [e]);rw [List.size_toArray,List.length_map];exact this
    rw [e];refine (R.kept fun b o eo=>hk b o ?_ (Heap.get?_push_of_some _ eo)).pb;intro z;rw [List.mem_singleton.mp z] at eo;exact absurd (Heap.lt_size eo) (Nat.lt_irrefl _)
  ·cases e
 ·cases e
def bX0:BfS S (.type "int") aH0:=by
 intro κ M h h' s A E ws us w d hr hK hsm R r e;unfold aH0 at e;split at e
 ·cases e;obtain ⟨u,rfl,ra⟩:=w1 r;cases wb.mp ra;exact call_int_bool R.pi
 ·cases e
def aI5 {xs:List PyData} (R:Mem S κ M h s) (ra:RepW S M x u) (e:ref h x=some (.list xs)\/ref h x=some (.tuple xs)):Wp S A (call (.type "list") [u]) (Pf S κ M h xs) E s:=by
 rcases e with e | e
 ·obtain ⟨a,vs,n,rfl,ho,hz,rr⟩:=cR R ra e;exact call_list_seq a (.inl rfl) ho rfl rfl (fun h2 c kp e=>R.lst (t:=s.toks) kp e rr hz) (by simp only [List.size_toArray]<;>omega)
 ·obtain ⟨a,vs,n,rfl,ho,hz,rr⟩:=fY R ra e;exact call_list_seq a (.inr rfl) (R.z _ _ ho) rfl rfl (fun h2 c kp e=>R.lst (t:=s.toks) kp e rr hz) (by simp only [List.size_toArray]<;>omega)
def mU (T:String):Prop:=∀ (K:PySem.W.Frag) (d:PyData),PySem.W.kitOne K (.type (fE d)) (.type T)=some (isi d T)
def aW2:mU "int":=fun K d=>by cases d<;>kernel_rfl
def aI6:mU "bool":=fun K d=>by cases d<;>kernel_rfl
def aW3:mU "str":=fun K d=>by cases d<;>kernel_rfl
def aA9:mU "tuple":=fun K d=>by cases d<;>kernel_rfl
def aI7:mU "list":=fun K d=>by cases d<;>kernel_rfl
def rP {z:PyData} (e:ref h x=some z) (n:(fE z=="list"||fE z=="dict")=false):x=.d z:=by
 cases x with
 | d y=>cases e;rfl
 | c i =>
  dsimp only [DL.ref] at e;cases q:h[i]? with
  | none=>rw [q] at e;cases e
  | some c=>cases c<;>(rw [q] at e;cases e)<;>cases n
def bF2 {z:PyData} (R:Mem S κ M h s) (r:RepW S M x u) (e:ref h x=some z):∃ H,PySem.W.KitX S.K u (.type (fE z)) H/\H s.heap/\u≠.builtin "__main__.__loader__#opaque":=by
 cases z with
 | none=>cases rP e rfl;cases wn.mp r;exact ⟨_,PySem.W.kitx_none,True.intro,fun z=>nomatch z⟩
 | bool b=>cases rP e rfl;cases wb.mp r;exact ⟨_,PySem.W.kitx_bool,True.intro,fun z=>nomatch z⟩
 | int i=>cases rP e rfl;obtain ⟨t,rfl⟩:=wi.mp r;exact ⟨_,PySem.W.kitx_int,True.intro,fun z=>nomatch z⟩
 | str i=>cases rP e rfl;obtain ⟨⟨t,rfl⟩,_⟩:=rep_s.mp (show Rep S M.Z _ _ from r);exact ⟨_,PySem.W.kitx_str,True.intro,fun z=>nomatch z⟩
 | list xs=>obtain ⟨a,us,n,rfl,ho,_⟩:=cR R r e;exact ⟨_,PySem.W.kitx_list,⟨_,ho,rfl⟩,fun z=>nomatch z⟩
 | tuple xs=>obtain ⟨a,us,n,rfl,ho,_⟩:=fY R r e;exact ⟨_,PySem.W.kitx_tuple,⟨_,R.z _ _ ho,rfl⟩,fun z=>nomatch z⟩
 | dict xs=>obtain ⟨a,vs,rfl,⟨o,_,_,ho,ex,_⟩,_⟩:=yG R r e;exact ⟨_,PySem.W.kitx_dict,⟨o,ho,ex.1⟩,fun z=>nomatch z⟩
def bJ9 {z:PyData} {T:String} (hK:S.K.In S.base) (hk:mU T) (R:Mem S κ M h s) (r:RepW S M x u) (e:ref h x=some z):Wp S A (call (.builtin "isinstance") [u,.type T]) (Pw S κ M h (.d (.bool (isi z T)))) E s:=by
 obtain ⟨H,kx,p,n⟩:=bF2 R r e;exact PySem.W.kia_one kx (hK.keeps R.bk) p (hk S.K z) n fun tk=>(R.tok tk).pb
end
end DL

namespace DL
open PySem PySem.Spec PyProof.Rows L2 CI
abbrev NE:Value->Shared->Prop:=fun _ _=>False
structure Mod (S:Sx):Prop where
 kin:S.K.In S.base
 glob:S.base.Ns mainGlobals S.mg
 blt:∃ mb,S.base.Ns builtinsNs mb/\∀ x:Str,x≠"__name__"->mb x=bootBuiltins x
 nolimit:S.base.NoLimit
structure Cx where
 S:Sx
 A:Around
 N:List Str
 env:Env
 fn:Bool
def Vis (sc:Scope) (x:Str):Prop:=sc.names.lookup x=some .local\/sc.names.lookup x=some .cell\/sc.names.lookup x=some .free
def Loc (sc:Scope) (x:Str):Prop:=sc.names.lookup x=some .local\/sc.names.lookup x=some .cell
structure Cx.Ok (X:Cx):Prop where
 mod:Mod X.S
 kind:X.env.scope.kind=.function
 glob:X.env.globals=mainGlobals
 blt:X.env.builtins=builtinsNs
 inj:∀ x y c,X.env.cells.lookup x=some c->X.env.cells.lookup y=some c->x=y
 has:∀ x,(X.env.kindOf x=some .cell\/X.env.kindOf x=some .free)->∃ c,X.env.cells.lookup x=some c
 bsz:X.S.base.objs.size<=X.env.locals
 nd:X.N.Nodup
def aI8 (o:Obj) (m:Str->Option Value):Prop:=∃ es ep,o.data=.dict es ep/\StrKeys es/\∀ name,nsFind es name=m name
def bX1 (env:Env) (κ:Kp) (m:Str->Option Value) (x:Str) (u:Value):Prop :=
 (env.kindOf x=some .local/\m x=some u)\/((env.kindOf x=some .cell\/env.kindOf x=some .free)/\∃ c o,env.cells.lookup x=some c/\κ c=some (true,o)/\o.data=.cell (some u))
structure Fra (X:Cx) (κ:Kp) (M:Mp) (δ:DSt):Prop where
 ok:X.Ok
 len:δ.length=X.N.length
 loc:∃ o m,κ X.env.locals=some (false,o)/\aI8 o m/\∀ (i:Nat) x w,X.N[i]?=some x->δ[i]?=some (some w)->Vis X.env.scope x->∃ u,RepW X.S M w u/\bX1 X.env κ m x u
 cell:∀ x c,X.env.cells.lookup x=some c->∃ o v,κ c=some (true,o)/\o.data=.cell v
def Own (X:Cx) (κ κ':Kp):Prop:=∀ a,κ' a≠κ a->a=X.env.locals\/(X.fn=true/\∃ x,X.env.cells.lookup x=some a)
def Own.refl {X:Cx} {κ:Kp}:Own X κ κ:=fun _ h=>(h rfl).elim
def Own.trans {X:Cx} {κ κ' κ2:Kp} (a:Own X κ κ') (b:Own X κ' κ2):Own X κ κ2:=fun c h=>by
 by_cases e:κ' c=κ c
 ·exact b c (by rw [e];exact h)
 ·exact a c e
section
variable {X:Cx} {κ:Kp} {M M':Mp} {δ:DSt} {h h':aA} {s:Shared} {A:Around} {E:Value->Shared->Prop} {w:W} {u:Value} {d:Nat} {x:Str} {pos:Pos}
def Fra.go (F:Fra X κ M δ) (l:Le M M'):Fra X κ M' δ :=
 ⟨F.ok,F.len,let ⟨o,m,h1,h2,h3⟩:=F.loc;⟨o,m,h1,h2,fun i x w a b c=>let ⟨u,r,q⟩:=h3 i x w a b c;⟨u,r.go l,q⟩⟩,F.cell⟩
def Fra.ns (F:Fra X κ M δ) (R:Mem X.S κ M h s):∃ m,s.heap.Ns X.env.locals m/\∀ (i:Nat) x w,X.N[i]?=some x->δ[i]?=some (some w)->Vis X.env.scope x->∃ u,RepW X.S M w u/\bX1 X.env κ m x u:=by
 obtain ⟨o,m,h1,⟨es,ep,h2,h3,h4⟩,h5⟩:=F.loc;obtain ⟨_,⟨sl,e⟩,_⟩:=R.k _ _ _ h1;exact ⟨m,⟨_,es,ep,e,h2,h3,h4⟩,h5⟩
def Fra.size (F:Fra X κ M δ) (R:Mem X.S κ M h s):X.S.base.objs.size<=s.heap.objs.size:=by
 obtain ⟨m,hn,_⟩:=F.ns R;exact Nat.le_trans F.ok.bsz (Nat.le_of_lt hn.lt)
def bX2 {i:Nat} (F:Fra X κ M δ) (R:Mem X.S κ M h s) (hi:X.N[i]?=some x) (e:δ[i]?=some (some w)) (hv:Vis X.env.scope x) (hn:eE x=true):Wp X.S X.A (eval (.Name x pos) X.env) (Pw X.S κ M h w) E s:=by
 unfold eE at hn;simp only [Bool.and_eq_true,Bool.not_eq_true'] at hn;obtain ⟨m,hns,hl⟩:=F.ns R;obtain ⟨u,r,l⟩:=hl i x w hi e hv;rcases l with ⟨hk,hm⟩ | ⟨hk,c,o,hc,ho,hd⟩
 ·exact wpAny_Name (wpAny_loadName_local F.ok.kind hk hns hm (R.pw r)) hn.1
 ·have hcell:s.heap.IsCell c (some u):=⟨o,(R.k _ _ _ ho).1 rfl,hd⟩;rcases hk with hk | hk
  ·exact wpAny_Name (wpAny_loadName_cell F.ok.kind hk hc hcell (R.pw r)) hn.1
  ·exact wpAny_Name (wpAny_loadName_free F.ok.kind hk hc hcell (R.pw r) hn.2.1) hn.1
def Gl (X:Cx) (x:Str):Prop:=X.env.kindOf x=some .globalImplicit
def iU {Q:Value->Shared->Prop} (F:Fra X κ M δ) (R:Mem X.S κ M h s) (hg:Gl X x) (hm:X.S.mg x=some u) (hn:eE x=true) (q:Q u s):Wp X.S X.A (eval (.Name x pos) X.env) Q E s:=by
 unfold eE at hn;simp only [Bool.and_eq_true,Bool.not_eq_true'] at hn;exact Calls.Name_function_global F.ok.kind hg (Calls.loadGlobal_global (by rw [F.ok.glob];exact F.ok.mod.glob.keeps R.bk) hm q) hn.1
def cX {Q:Value->Shared->Prop} (F:Fra X κ M δ) (R:Mem X.S κ M h s) (hg:Gl X x) (hm:X.S.mg x=none) (hv:bootBuiltins x=some u) (hn:eE x=true) (q:Q u s):Wp X.S X.A (eval (.Name x pos) X.env) Q E s:=by
 unfold eE at hn;simp only [Bool.and_eq_true,Bool.not_eq_true'] at hn;obtain ⟨mb,h1,h2⟩:=F.ok.mod.blt;exact Calls.Name_function_global F.ok.kind hg (Calls.loadGlobal_builtin (by rw [F.ok.glob];exact F.ok.mod.glob.keeps R.bk) hm (by rw [F.ok.blt];exact h1.keeps R.bk) ((h2 x (fun z=>by rw [z] at hn;exact absurd hn.2.2 (by decide))).trans hv) q) hn.1
def tJ {N:List Str} (hN:N.Nodup) {i j:Nat} {x:Str} (a:N[i]?=some x) (b:N[j]?=some x):i=j:=by
 obtain ⟨h1,e1⟩:=List.getElem?_eq_some_iff.mp a;obtain ⟨h2,e2⟩:=List.getElem?_eq_some_iff.mp b;exact (List.getElem_inj hN).mp (e1.trans e2.symm)
def aI9 {i:Nat} {Md:Model} {Q:Unit->Shared->Prop} (F:Fra X κ M δ) (R:Mem X.S κ M h s) (hi:X.N[i]?=some x) (hx:Loc X.env.scope x) (hf:X.fn=true\/X.env.scope.names.lookup x=some .local) (r:RepW X.S M w u)
  (q:∀ s' κ',Own X κ κ'->Mem X.S κ' M h s'->Fra X κ' M (δ.set i (some w))->(∃ a,Heap.SameBut a s.heap s'.heap/\κ a≠none)->Q () s'):wpAny Md A (storeName X.env x u) Q E s:=by
 have hiδ:i < δ.length:=by rw [F.len];exact (List.getElem?_eq_some_iff.mp hi).1
 have hcls:(X.env.scope.kind==.class||(X.env.scope.kind==.module&&X.env.locals != X.env.globals))=false:=by rw [F.ok.kind];rfl
 obtain ⟨o,m,h1,⟨es,ep,h2,h3,h4⟩,h5⟩:=F.loc;obtain ⟨_,⟨sl,e⟩,_⟩:=R.k _ _ _ h1;have hn:s.heap.Ns X.env.locals m:=⟨_,es,ep,e,h2,h3,h4⟩;rcases hx with hk | hk
 ·refine wpAny_storeName_local hk hn (fun h' hn' hs=>?_) hcls;obtain ⟨o',es',ep',ho',hd',hk',hm'⟩:=hn';refine q _ (κ.up X.env.locals (false,o')) (fun a ha=>?_) (R.own h1 (fun b ob hb q=>(hs.2 b hb).trans q) ho' R.bare rfl) ⟨F.ok,by rw [List.length_set];exact F.len,⟨o',_,dJ,⟨es',ep',hd',hk',hm'⟩,fun j y w' e1 e2 e3=>?_⟩,fun y c ec=>?_⟩ ⟨_,hs,by rw [h1];exact fun z=>nomatch z⟩
  ·by_cases z:a=X.env.locals
   ·exact .inl z
   ·exact (ha (bL z)).elim
  ·by_cases hj:j=i
   ·subst hj;rw [hi] at e1;cases e1;rw [List.getElem?_set_self hiδ] at e2;cases e2;exact ⟨u,r,.inl ⟨hk,by simp⟩⟩
   ·rw [List.getElem?_set_ne (Ne.symm hj)] at e2;obtain ⟨u',r',l⟩:=h5 j y w' e1 e2 e3;refine ⟨u',r',?_⟩;rcases l with ⟨k,e⟩ | ⟨k,c,oc,ec,eo,ed⟩
    ·have:y≠x:=fun e=>hj (tJ F.ok.nd e1 (e ▸ hi));exact .inl ⟨k,by simp [this,e]⟩
    ·exact .inr ⟨k,c,oc,ec,by rw [bL fun z=>by rw [z,h1] at eo;cases eo];exact eo,ed⟩
  ·obtain ⟨oc,v,h6,h7⟩:=F.cell y c ec;exact ⟨oc,v,by rw [bL fun z=>by rw [z,h1] at h6;cases h6];exact h6,h7⟩
 ·have hfn:X.fn=true:=by
   rcases hf with z | z
   ·exact z
   ·rw [z] at hk;cases hk
  obtain ⟨c,hc⟩:=F.ok.has x (.inl hk);obtain ⟨oc,v,h6,h7⟩:=F.cell x c hc;refine wpAny_storeName_cell F.ok.kind hk hc ⟨oc,(R.k _ _ _ h6).1 rfl,h7⟩ (fun h' hc' hs=>?_);obtain ⟨o',ho',hd'⟩:=hc';have nL:X.env.locals≠c:=fun z=>by rw [<- z,h1] at h6;cases h6
  refine q _ (κ.up c (true,o')) (fun a ha=>?_) (R.own h6 (fun b ob hb q=>(hs.2 b hb).trans q) ho' R.bare rfl) ⟨F.ok,by rw [List.length_set];exact F.len,⟨o,m,by rw [bL nL];exact h1,⟨es,ep,h2,h3,h4⟩,fun j y w' e1 e2 e3=>?_⟩,fun y c2 ec=>?_⟩ ⟨_,hs,by rw [h6];exact fun z=>nomatch z⟩
  ·by_cases z:a=c
   ·exact .inr ⟨hfn,x,z ▸ hc⟩
   ·exact (ha (bL z)).elim
  ·by_cases hj:j=i
   ·subst hj;rw [hi] at e1;cases e1;rw [List.getElem?_set_self hiδ] at e2;cases e2;exact ⟨u,r,.inr ⟨.inl hk,c,o',hc,dJ,hd'⟩⟩
   ·rw [List.getElem?_set_ne (Ne.symm hj)] at e2;obtain ⟨u',r',l⟩:=h5 j y w' e1 e2 e3;refine ⟨u',r',?_⟩;rcases l with l | ⟨k,c2,oc2,ec,eo,ed⟩
    ·exact .inl l
    ·refine .inr ⟨k,c2,oc2,ec,?_,ed⟩;rw [bL fun z=>hj (tJ F.ok.nd e1 (by rw [F.ok.inj y x c (by rw [<- z];exact ec) hc];exact hi))];exact eo
  ·by_cases z:c2=c
   ·exact ⟨o',_,by rw [z];exact dJ,hd'⟩
   ·obtain ⟨o2,v2,h8,h9⟩:=F.cell y c2 ec;exact ⟨o2,v2,by rw [bL z];exact h8,h9⟩
end
end DL

namespace L2
open PySem PySem.Spec PyProof.Rows
structure ObjM (h:Heap) (x dx C:Addr) (mA:Str->Option Value):Prop where
 obj:h.get? x=some (PySem.W.instObj C dx)
 ns:h.Ns1 dx mA
 ne:dx≠x

def aB0 {h:Heap} {dx:Addr} {mA:Str->Option Value} (n:h.Ns1 dx mA):∃ od,h.get? dx=some od/\∀ name,PySem.W.lookIn name od=some (mA name):=by
 obtain ⟨o,es,ep,ho,hd,hk,_,hm⟩:=n;refine ⟨o,ho,fun name=>?_⟩;have e:=hm name;unfold nsFind findBy at e;rw [<- Array.find?_toList] at e;unfold PySem.W.lookIn;rw [hd];dsimp only;split
 ·rename_i y q;rw [q] at e;exact congrArg some e
 ·rename_i q;rw [q] at e;have a:es.toList.any (·.refKey)=false:=by
   rw [List.any_eq_false];intro y hy;obtain ⟨z,t,hkey⟩:=hk y (Array.mem_toList_iff.mp hy);simp [DictEntry.refKey,hkey]
  have a':¬ es.toList.any (·.refKey)=true:=by rw [a];exact Bool.false_ne_true
  rw [if_neg a'];exact congrArg some e

def ObjM.look {h:Heap} {x dx C:Addr} {mA:Str->Option Value} (I:ObjM h x dx C mA):∃ od,PySem.W.InstAt h x (PySem.W.instObj C dx) C (some od)/\∀ name,PySem.W.lookIn name od=some (mA name) :=
 let ⟨od,ho,hl⟩:=aB0 I.ns
 ⟨od,⟨I.obj,rfl,rfl,ho⟩,hl⟩

section
variable {prog:Program} {w:World} {A:Around} {E:Value->Shared->Prop} {s:Shared} {K:PySem.W.Frag} {x dx C f:Addr} {mA:Str->Option Value} {name:Str} {v:Value}

def aW4 {expr:Bool} {Q:Value->Shared->Prop} (X:K.In s.heap) (I:ObjM s.heap x dx C mA) (hg:PySem.W.plainGet K C name=true) (hh:PySem.W.hasDictIn K C=true)
  (ha:PySem.W.findIn K (.ref C) name=some none) (hv:mA name=some v) (hv':PySem.W.handedIn v=true) (h:Q v { s with toks:=s.toks+1 }) :
  wpAny (model prog w) A (getAttr (.ref x) name expr) Q E s:=by
 obtain ⟨od,J,hl⟩:=I.look;exact PySem.W.get_value X J (PySem.W.plainGet_of hg).1 (PySem.W.findObj_own hh ha rfl (by rw [hl,hv])) hv' h

def aJ0 {pl:Sem Bool} {Q:Value×List Value->Shared->Prop} (X:K.In s.heap) (I:ObjM s.heap x dx C mA) (hg:PySem.W.plainGet K C name=true)
  (hf:PySem.W.findIn K (.ref C) name=some (some (.ref f))) (ht:PySem.W.isFn K (.ref f)=true) (hv:mA name=none) (h:Q (.ref f,[.ref x]) s) :
  wpAny (model prog w) A (getMethod (.ref x) name pl) Q E s:=by
 obtain ⟨od,J,hl⟩:=I.look;exact PySem.W.method_fn X J (PySem.W.plainGet_of hg).1 (PySem.W.plainGet_of hg).2 hf (beq_iff_eq.mp ht) (by show (PySem.W.lookIn name od).map (·.isSome)=some false;rw [hl,hv];rfl) h

def aW5 {ns:List Str} {Q:Unit->Shared->Prop} (X:K.In s.heap) (I:ObjM s.heap x dx C mA)
  (hs:PySem.W.findIn K (.ref C) "__setattr__"=some (some (.builtin "object.__setattr__"))) (hp:PySem.W.plainOver K C=true) (ht:PySem.W.takerIn K C name=some none) (hh:PySem.W.hasDictIn K C=true)
  (hw:PySem.Within mA ns) (hsz:ns.length<=sizeLine)
  (h:∀ h',ObjM h' x dx C (fun y=>if y=name then some v else mA y)->Heap.SameBut dx s.heap h'->Q () { s with heap:=h',toks:=s.toks+2 }) :
  wpAny (model prog w) A (setAttr (.ref x) name v) Q E s:=by
 obtain ⟨od,J,hl⟩:=I.look;refine PySem.W.set_plain X J hs (PySem.W.osa_open (s:={ s with toks:=s.toks+1 }) (r:=none) X J hp ht fun b=>?_);obtain ⟨cd,hc,hd'⟩:=PySem.W.any_some hh;have hx:s.heap.get? x=some ⟨.ref C,some dx,.plain,#[]⟩:=I.obj;refine wpAny_bind (wpAny_pure (wpAny_bind (wpAny_bind (wpAny_loadPart hx (wpAny_bind (PySem.W.Looks.here (s:={ s with toks:=s.toks+1 }) (PySem.W.looks_clsIn X hc) ?_))))));rw [hd'];refine wpAny_pure (a:=some dx) (wpAny_bind (wpAny_pure (wpAny_bind ?_)));refine wpAny_nsSet1 (s:={ s with toks:=s.toks+1 }) I.ns fun h' hn2 hs2=>?_;obtain ⟨oD,esD,epD,hoD,hdD,hcD⟩:=hn2.count (PySem.Within.cons name v hw);refine wpAny_bind (wpAny_lookBehind hoD (by rw [hdD];exact pastItsLine_dict (Nat.le_trans hcD (by rw [List.length_cons];omega))) ?_);exact wpAny_pure (h _ ⟨(hs2.2 _ (Ne.symm I.ne)).trans I.obj,hn2,I.ne⟩ hs2)

def aJ1 {R:Result->Shared->Prop} {vs:List Value} {kw:List (Str×Value)} (X:K.In s.heap) (hm:PySem.W.makesIn K C=true)
  (hi:PySem.W.findIn K (.ref C) "__init__"=some (some (.ref f))) (hf:PySem.W.typeIn K (.ref f)=some (.type "function"))
  (h:codeAny (model prog w) (A.under (.builtin "type.__call__" ⟨.ref C::vs,kw⟩)) (.call (.ref f) ⟨.ref (s.heap.objs.size+1)::vs,kw⟩) (PySem.W.InitBack (s.heap.objs.size+1) R)
   { s with heap:=(s.heap.push PySem.W.emptyDict).push (PySem.W.instObj C s.heap.objs.size) }) :
  codeAny (model prog w) A (.call (.ref C) ⟨vs,kw⟩) R s:=by
 obtain ⟨hh,g,d,t,os⟩:=s;exact PySem.W.make_core (PySem.W.makes_of X hm) (PySem.W.looks_findIn X hi) (fun self=>PySem.W.bind_fn X self hf) (.inl rfl) h
end

structure Cls (K:PySem.W.Frag) (C:Addr):Prop where
 pg:PySem.W.plainGet K C Str.empty=true
 hd:PySem.W.hasDictIn K C=true
 po:PySem.W.plainOver K C=true
 sa:PySem.W.findIn K (.ref C) "__setattr__"=some (some (.builtin "object.__setattr__"))
def Cls.get {K:PySem.W.Frag} {C:Addr} (c:Cls K C) (f:Str):PySem.W.plainGet K C f=true:=c.pg
def NoAttr (K:PySem.W.Frag) (C:Addr) (f:Str):Prop:=PySem.W.findIn K (.ref C) f=some none
def NoAttr.taker {K:PySem.W.Frag} {C:Addr} {f:Str} (n:NoAttr K C f):PySem.W.takerIn K C f=some none:=by
 unfold PySem.W.takerIn;rw [show PySem.W.findIn K (.ref C) f=some none from n];rfl
structure Meth (K:PySem.W.Frag) (C:Addr) (m:Str) (f:Addr):Prop where
 at_:PySem.W.findIn K (.ref C) m=some (some (.ref f))
 fn:PySem.W.isFn K (.ref f)=true
 kp:PySem.W.keepIn K (.ref f)=true
end L2

namespace DL
open PySem PySem.Spec PyProof.Rows L2 CI
noncomputable def oIs:Option Str->Value->Bool
 | some x,v=>Value.isStrOf x v
 | none,.none=>true
 | none,_=>false
def oIs_shape {k:Option Str} {v:Value} (h:oIs k v=true):(∃ x t,k=some x/\v=.str x t)\/(k=none/\v=.none):=by
 cases k with
 | some x =>
  obtain ⟨t,e⟩:=Value.isStrOf_shape (x:=x) (v:=v) h;exact .inl ⟨x,t,rfl,e⟩
 | none=>cases v<;>first | exact .inr ⟨rfl,rfl⟩ | cases h
def rQ (x:Str) (t:Tok):oIs (some x) (.str x t)=true:=by simp [oIs,Value.isStrOf]
noncomputable def bX3 (w:World):Option Str->Int
 | some x=>hashStr w x
 | none=>reduceHash 0xFCA86420
def bX4 (prog:Program) (w:World):PySem.KeyKind prog w (Option Str) where
 is:=oIs
 hash:=bX3 w
 inj:=fun v a b ha hb=>by
  rcases oIs_shape ha with ⟨x,t,rfl,rfl⟩ | ⟨rfl,rfl⟩
  ·rcases oIs_shape hb with ⟨y,u,rfl,e⟩ | ⟨rfl,e⟩
   ·injection e with e1 _;rw [e1]
   ·exact nomatch e
  ·rcases oIs_shape hb with ⟨y,u,rfl,e⟩ | ⟨rfl,e⟩
   ·exact nomatch e
   ·rfl
 byValue:=fun k v h=>by
  rcases oIs_shape h with ⟨x,t,rfl,rfl⟩ | ⟨rfl,rfl⟩<;>rfl
 pyHash:=fun {A E s k v Q} hv h=>by
  rcases oIs_shape hv with ⟨x,t,rfl,rfl⟩ | ⟨rfl,rfl⟩
  ·exact wpAny_pyHash_str h
  ·exact PySem.W.pyHash_slot (T:="NoneType") rfl PySem.F.slot_NoneType_hash PySem.F.entry_NoneType_hash (PySem.F.args_NoneType_hash_1 _) (by decide) (.inl rfl) (wpAny_bind (wpAny_pure (wpAny_bind (wpAny_mkInt (wpAny_pure ⟨_,_,rfl,h⟩)))))
 eqBool:=fun {A E s a b u v Q} hu hv h=>by
  rcases oIs_shape hu with ⟨x,t,rfl,rfl⟩ | ⟨rfl,rfl⟩
  ·rcases oIs_shape hv with ⟨y,u,rfl,rfl⟩ | ⟨rfl,rfl⟩
   ·refine wpAny_eqBool_str ?_;have e:decide (some x=some y)=decide (x=y):=by simp
    rwa [e] at h
   ·exact SeqAt.EqAt.str_none x t _ _ _ _ (by simpa using h)
  ·rcases oIs_shape hv with ⟨y,u,rfl,rfl⟩ | ⟨rfl,rfl⟩
   ·exact SeqAt.EqAt.none_str y u _ _ _ _ (by simpa using h)
   ·exact SeqAt.EqAt.same _ _ _ _ _ (by simpa using h)
 «strs»:=fun k x t v h=>by
  rcases oIs_shape h with ⟨y,u,rfl,e⟩ | ⟨rfl,e⟩
  ·injection e with e1 _
   subst e1;cases v<;>rfl
  ·exact nomatch e
structure TabK (w:World) (K:PySem.W.Frag) (p:Addr) (f:Str->Option Int):Prop where
 lk:∃ es n,K.lookup p=some ⟨.type "dict",none,.dict es n,#[]⟩/\PySem.W.KeysLit w.params es.toList/\(∀ x i,f x=some i->∃ t,findBy Value.isStrOf es x=some (.int i t))/\∀ x,f x=none->findBy Value.isStrOf es x=none
 sm:(p==sysModules)=false
def TabK.map {w:World} {K:PySem.W.Frag} {p:Addr} {f:Str->Option Int} {prog:Program} {h:Heap} (T:TabK w K p f) (X:K.In h):∃ g:Option Str->Option Value,h.MapOf (bX4 prog w) p g/\g none=none/\(∀ x i,f x=some i->∃ t,g (some x)=some (.int i t))/\∀ x,f x=none->g (some x)=none:=by
 obtain ⟨es,n,l,hk,h1,h2⟩:=T.lk;refine ⟨fun k=>findBy oIs es k,⟨_,es,n,X _ _ l,⟨rfl,rfl,rfl⟩,rfl,fun e he=>?_,fun _=>rfl⟩,?_,h1,h2⟩
 ·obtain ⟨x,t,e1,e2⟩:=hk.all e (Array.mem_toList_iff.mpr he);exact ⟨some x,by rw [e1];exact rQ x t,e2⟩
 ·unfold findBy;have e:es.find? (fun e=>oIs none e.key)=none:=by
   rw [Array.find?_eq_none];intro e he;obtain ⟨x,t,e1,_⟩:=hk.all e (Array.mem_toList_iff.mpr he);rw [e1];exact Bool.false_ne_true
  show Option.map _ (es.find? fun e=>oIs none e.key)=none;rw [e];rfl
def dP (K:PySem.W.Frag) (fd:FuncData) (ps:List Str):Prop:=∀ (s:Shared) (us:List Value),K.In s.heap->us.length=ps.length->BindsTo s fd ⟨us,[]⟩ (ps.zip us)
def CR (S:Sx) (κ:Kp) (M:Mp) (h:aA) (w:W) (r:Result) (s:Shared):Prop:=∃ u,r=.ok (.ret u)/\Pw S κ M h w u s
structure FnS (S:Sx) (d:Nat) (f:Addr) (fd:FuncData) (ps:List Str) (m:XFW):Prop where
 len:∀ ws h r,m ws h=some r->ws.length=ps.length
 run:∀ {A:Around} {κ:Kp} {M:Mp} {h h':aA} {s:Shared} {args:Args} {us:List Value} {ws:List W} {w:W},Room d A->Mod S->S.base.objs.size<=s.heap.objs.size->Mem S κ M h s->BindsTo s fd args (ps.zip us)->RepWs S M ws us->m ws h=some (w,h') ->
  codeAny (model S.P S.w) A (.call (.ref f) args) (CR S κ M h' w) s
def FnG (S:Sx) (d:Nat) (x:Str) (m:XFW):Prop:=(∀ ws h,m ws h=none)\/∃ f fd ps,S.mg x=some (.ref f)/\PySem.W.keepIn S.K (.ref f)=true/\dP S.K fd ps/\FnS S d f fd ps m
abbrev toW (m:XF):XFW:=fun ws h=>(m ws h).bind fun p=>some (.d p.1,p.2)
structure Mk (K:PySem.W.Frag) (C f:Addr):Prop where
 makes:PySem.W.makesIn K C=true
 init:PySem.W.findIn K (.ref C) "__init__"=some (some (.ref f))
 fn:PySem.W.isFn K (.ref f)=true
 kp:PySem.W.keepIn K (.ref C)=true
structure TbS (S:Sx) (c0:Addr) (pos:Pos):Prop where
 hd:PySem.W.codeHdIn S.K c0 S.tp=true
 tr:TriplesOk S.tb.toList
 no:codeAmong pos S.tb.toList=none
 bm:S.base.BuiltinsAt S.mg S.tp
structure LamOk (X:Cx) (d:Nat) (q:Str×Pos):Prop where
 qual:X.env.qual=q.1
 code:∃ c0,X.env.code=.ref c0/\TbS X.S c0 q.2
 dp:X.A.depth+3*d+7 < recursionLimit
 un:X.A.units+16*d+212 < cLine
structure Good (X:Cx) (st:Sta) (d:Nat):Prop where
 bl:∀ x,st.bl.contains x=true->X.S.mg x=none
 gc:∀ x z,st.gc x=some z->∃ u,X.S.mg x=some u/\Rep X.S X.S.base.get? z u
 tk:∀ x f,st.tk x=some f->∃ p,X.S.mg x=some (.ref p)/\TabK X.S.w X.S.K p f
 fn:∀ x m,st.fn x=some m->FnG X.S d x (toW m)
 fnW:∀ x m,st.ob.fnW x=some m->FnG X.S d x m
 cls:∀ x C m,st.ob.cls x=some (C,m)->(∀ ws h,m ws h=none)\/∃ k f fd ps,k+1<=d/\Mk X.S.K C f/\FnS X.S k f fd ps m/\X.S.mg x=some (.ref C)/\dP X.S.K fd ps
 om:∀ x C m,st.ob.om x=some (C,m)->(∀ ws h,m ws h=none)\/(Cls X.S.K C/\∃ f fd ps,Meth X.S.K C x f/\FnS X.S d f fd ps m/\dP X.S.K fd ps)
 fo:∀ C f,st.ob.fo C f=true->Cls X.S.K C/\NoAttr X.S.K C f
 N:X.N=st.N
 S:X.env.scope=st.S
 top:st.top=true->X.fn=true
 rm:Room d X.A
 qn:∀ q,st.qn=some q->LamOk X d q
def Pt (S:Sx) (κ:Kp) (M:Mp) (h:aA) (b:Bool) (c:Bool) (s:Shared):Prop:=c=b/\∃ M',Le M M'/\Mem S κ M' h s
def Pa (S:Sx) (κ:Kp) (M:Mp) (h:aA) (ws:List W) (us:List Value) (s:Shared):Prop:=∃ M',Le M M'/\Mem S κ M' h s/\RepWs S M' ws us
def SE (X:Cx) (e:Expr) (f:XR W):Prop:=∀ ⦃κ M δ h s w h'⦄,Mem X.S κ M h s->Fra X κ M δ->f δ h=some (w,h')->Wp X.S X.A (eval e X.env) (Pw X.S κ M h' w) NE s
def SF (X:Cx) (e:Expr) (f:XR (List PyData)):Prop:=∀ ⦃κ M δ h s w h'⦄,Mem X.S κ M h s->Fra X κ M δ->f δ h=some (w,h')->Wp X.S X.A (eval e X.env) (Pf X.S κ M h' w) NE s
def ST (X:Cx) (e:Expr) (f:XR Bool):Prop:=∀ ⦃κ M δ h s w h'⦄,Mem X.S κ M h s->Fra X κ M δ->f δ h=some (w,h')->Wp X.S X.A (isTrue e X.env (eval e X.env)) (Pt X.S κ M h' w) NE s
def SW (X:Cx) (e:Expr) (f:XR Bool):Prop:=∀ (wh:Sem Value) ⦃κ M δ h s w h'⦄,Mem X.S κ M h s->Fra X κ M δ->f δ h=some (w,h')->Wp X.S X.A (isTrue e X.env wh) (Pt X.S κ M h' w) NE s
def SA (X:Cx) (es:List Expr) (f:XR (List W)):Prop:=∀ (pos:Pos) ⦃κ M δ h s ws h'⦄,Mem X.S κ M h s->Fra X κ M δ->f δ h=some (ws,h')->Wp X.S X.A (spliced (backTo pos (starEach es X.env))) (Pa X.S κ M h' ws) NE s
def SO (X:Cx) (e:Option Expr) (f:XR (Option Int)):Prop:=∀ ⦃κ M δ h s o h'⦄,Mem X.S κ M h s->Fra X κ M δ->f δ h=some (o,h')->Wp X.S X.A (evalPart e X.env) (fun u s'=>IsPart u o/\∃ M',Le M M'/\Mem X.S κ M' h' s') NE s
def SG (X:Cx) (tg:Expr) (g:XG):Prop:=∀ ⦃κ M δ h s w u δ' h'⦄,Mem X.S κ M h s->Fra X κ M δ->RepW X.S M w u->g w δ h=some (δ',h')->Wp X.S X.A (assign tg X.env u) (fun _ s'=>∃ κ' M',Own X κ κ'/\Le M M'/\Mem X.S κ' M' h' s'/\Fra X κ' M' δ') NE s
def Fw (X:Cx) (κ:Kp) (M:Mp):Fl->Flow->Prop
 | .nx δ,.next=>Fra X κ M δ
 | .bk δ,.brk=>Fra X κ M δ
 | .ct δ,.cont=>Fra X κ M δ
 | .rt w,.ret u=>RepW X.S M w u
 | _,_=>False
def Ps (X:Cx) (κ:Kp) (M:Mp) (h:aA) (fl:Fl) (f:Flow) (s:Shared):Prop:=∃ κ' M',Own X κ κ'/\Le M M'/\Mem X.S κ' M' h s/\Fw X κ' M' fl f
def SS (X:Cx) (st:Stmt) (f:XS):Prop:=∀ ⦃κ M δ h s fl h'⦄,Mem X.S κ M h s->Fra X κ M δ->f δ h=some (fl,h')->Wp X.S X.A (exec st X.env) (Ps X κ M h' fl) NE s
def SSs (X:Cx) (st:List Stmt) (f:XS):Prop:=∀ ⦃κ M δ h s fl h'⦄,Mem X.S κ M h s->Fra X κ M δ->f δ h=some (fl,h')->Wp X.S X.A (execs st X.env) (Ps X κ M h' fl) NE s
structure Snd (v:Evs):Prop where
 E:∀ {X st d},Good X st d->∀ e,SE X e (v.E st e)
 T:∀ {X st d},Good X st d->∀ e,ST X e (v.T st e)
 F:∀ {X st d},Good X st d->∀ e,SF X e (v.F st e)
 G:∀ {X st d},Good X st d->∀ e,SG X e (v.G st e)
 S:∀ {X st d},Good X st d->∀ s,SS X s (v.S st s)
section
variable {X:Cx} {st:Sta} {d:Nat} {x:Str} {v:Evs} {a b c t:Expr} {pos:Pos} {es:List Expr} {κ:Kp} {M:Mp} {δ:DSt} {h h':aA} {s:Shared} {w:W} {E:Value->Shared->Prop}
def aF {α β:Type} {f:XR α} {g:α->XR β} {r:β×aA} (e:xb f g δ h=some r):∃ p h1,f δ h=some (p,h1)/\g p δ h1=some r:=let ⟨⟨p,h1⟩,e1,e2⟩:=bind_some e;⟨p,h1,e1,e2⟩
def lW (G:Good X st d) {i:Nat} (e:slot st x=some i):X.N[i]?=some x:=by
 rw [G.N];obtain ⟨h1,h2,_⟩:=List.findIdx?_eq_some_iff_getElem.mp e;rw [List.getElem?_eq_getElem h1,eq_of_beq h2]
def bK0 (G:Good X st d) (h:bI2 st.S x=true):Vis X.env.scope x:=by
 unfold Vis;rw [G.S];unfold bI2 at h;split at h
 ·rename_i e;exact .inl e
 ·rename_i e;exact .inr (.inl e)
 ·rename_i e;exact .inr (.inr e)
 ·cases h
def aJ2 (G:Good X st d) (h:(rD st.S x&&(st.top||cU st.S x))=true):Loc X.env.scope x/\(X.fn=true\/X.env.scope.names.lookup x=some .local):=by
 rw [Bool.and_eq_true,Bool.or_eq_true] at h;obtain ⟨h1,h2⟩:=h;unfold Loc;rw [G.S];refine ⟨?_,?_⟩
 ·unfold rD at h1;split at h1
  ·rename_i e;exact .inl e
  ·rename_i e;exact .inr e
  ·cases h1
 ·rcases h2 with h2 | h2
  ·exact .inl (G.top h2)
  ·unfold cU at h2;split at h2
   ·rename_i e;exact .inr e
   ·cases h2
def mV (G:Good X st d) (h:cJ st x=true):eE x=true/\Gl X x:=by
 unfold cJ at h;rw [Bool.and_eq_true] at h;refine ⟨h.1,?_⟩;unfold Gl Env.kindOf;rw [G.S];have h2:=h.2;unfold glB at h2;split at h2
 ·rename_i e;exact e
 ·cases h2
def bY {e:Expr}:SE X e xno:=fun _ _ _ _ _ _ _ _ _ e=>by cases e
def bK1 (G:Good X st d):SE X (.Name x pos) (aG8 st x):=by
 unfold aG8;split
 ·rename_i hn;split
  ·rename_i i hi;split
   ·rename_i hv;intro κ M δ h s w h' R F e;unfold aB at e;split at e
    ·rename_i e';cases e;exact bX2 F R (lW G hi) e' (bK0 G hv) hn
    ·cases e
   ·exact bY
  ·split
   ·rename_i z hz;split
    ·rename_i hg;intro κ M δ h s w h' R F e;cases e;obtain ⟨u,m,r⟩:=G.gc _ _ hz;exact iU F R (mV G (by unfold cJ;rw [hn,hg];rfl)).2 m hn (R.pw (Rep.go R.base r))
    ·exact bY
   ·exact bY
 ·exact bY
def aW6 {c:Const} {j:Nat}:SE X (.Constant c j pos) (aG9 c):=by
 intro κ M δ h s w h' R F e;cases c with
 | none=>cases e;exact Constant_none R.pn
 | bool b=>cases e;exact Constant_bool R.pb
 | int i=>cases e;exact wpAny_Constant_int R.pi
 | str x =>
  have e:(if PyData.strOk x=true then aC (.d (.str x)) else xno:XR W) δ h=some (w,h'):=e
  by_cases hx:PyData.strOk x=true
  case neg=>rw [if_neg hx] at e;cases e
  rw [if_pos hx] at e;cases e;exact Calls.Constant_str ((R.tok _).pw (show Rep X.S M.Z _ _ from rep_s.mpr ⟨⟨_,rfl⟩,hx⟩))
 | _=>cases e
def two {fa fb:XR W} {k:W->W->aA->Option (W×aA)} (ha:SE X a fa) (hb:SE X b fb) {f:Value->Value->Sem Value} {r:W×aA} (R:Mem X.S κ M h s) (F:Fra X κ M δ) (e:xb fa (fun u=>xb fb fun w=>fun _ h=>k u w h) δ h=some r)
  (hf:∀ {M1 h1 s1 x y u v},Mem X.S κ M1 h1 s1->Fra X κ M1 δ->RepW X.S M1 x u->RepW X.S M1 y v->k x y h1=some r->Wp X.S X.A (f u v) (Pw X.S κ M1 r.2 r.1) NE s1) :
  Wp X.S X.A (eval a X.env) (fun u s₁=>Wp X.S X.A (eval b X.env) (fun v s₂=>Wp X.S X.A (f u v) (Pw X.S κ M r.2 r.1) NE s₂) NE s₁) NE s:=by
 obtain ⟨x,h1,e1,e⟩:=aF e;obtain ⟨y,h2,e2,e⟩:=aF e;refine thn (ha R F e1) fun u s1 ⟨M1,l1,R1,r1⟩=>thn (hb R1 (F.go l1) e2) fun v s2 ⟨M2,l2,R2,r2⟩=>?_;exact thn (hf R2 ((F.go l1).go l2) (r1.go l2) r2 e) fun _ _ q=>q.go (l1.trans l2)
def bX5 (S:Snd v) (G:Good X st d) {op:Operator}:SE X (.BinOp a op b pos) (xb (v.E st a) fun u=>xb (v.E st b) fun w=>fun _ h=>fM op u w h):=fun _ _ _ _ _ _ _ R F e =>
 wpAny_BinOp (two (S.E G a) (S.E G b) R F e fun R1 _ ra rb e=>bJ5 R1 ra rb e)
theorem bX6 (S:Snd v) (G:Good X st d):SE X (.UnaryOp .Not a pos) (xb (v.E st a) fun w=>(match w with
  | .d (.bool b)=>aC (.d (.bool (!b)))
  | _=>xno)):=by
 intro κ M δ h s w h' R F e;obtain ⟨x,h1,e1,e⟩:=aF e;refine UnaryOp_ (thn (S.E G a R F e1) fun u s1 ⟨M1,l1,R1,r1⟩=>?_);obtain ⟨b,rfl,e⟩:∃ b,x=.d (.bool b)/\aC (.d (.bool (!b))) δ h1=some (w,h'):=by rcases x with (_ | b | _ | _ | _ | _ | _) | _<;>first | cases e;done | exact ⟨_,rfl,e⟩
 cases e;cases wb.mp r1;exact not_of (wpAny_truthy_bool (R1.pb.go l1))
theorem bX7 (S:Snd v) (G:Good X st d):SE X (.UnaryOp .USub a pos) (xb (v.E st a) fun w=>(match w with
  | .d (.int i)=>aC (.d (.int (-i)))
  | _=>xno)):=by
 intro κ M δ h s w h' R F e;obtain ⟨x,h1,e1,e⟩:=aF e;refine UnaryOp_ (thn (S.E G a R F e1) fun u s1 ⟨M1,l1,R1,r1⟩=>?_);obtain ⟨b,rfl,e⟩:∃ b,x=.d (.int b)/\aC (.d (.int (-b))) δ h1=some (w,h'):=by rcases x with (_ | b | _ | _ | _ | _ | _) | _<;>first | cases e;done | exact ⟨_,rfl,e⟩
 cases e;exact thn (bJ6 R1 r1) fun _ _ q=>q.go l1
def bX8 (S:Snd v) (G:Good X st d):SE X (.IfExp c a b pos) (xb (v.T st c) fun t=>if t=true then v.E st a else v.E st b):=by
 intro κ M δ h s w h' R F e;obtain ⟨x,h1,e1,e⟩:=aF e;refine wpAny_IfExp (thn (S.T G c R F e1) fun t s1 ⟨et,M1,l1,R1⟩=>?_);subst et;cases t with
 | true=>exact thn (S.E G a R1 (F.go l1) e) fun _ _ q=>q.go l1
 | false=>exact thn (S.E G b R1 (F.go l1) e) fun _ _ q=>q.go l1
theorem aJ3 (S:Snd v) (G:Good X st d):∀ vs,SE X (.BoolOp .And vs pos) (aH2 v st vs)
 | []=>fun _ _ _ _ _ _ _ R F e=>by cases e
 | [a]=>fun _ _ _ _ _ _ _ R F e=>BoolOp_one (S.E G a R F e)
 | a::b::r=>by
  intro κ M δ h s w h' R F e;obtain ⟨x,h1,e1,e⟩:=aF e;refine BoolOp_and (thn (S.E G a R F e1) fun u s1 ⟨M1,l1,R1,r1⟩=>?_);rcases x with (_ | b | _ | _ | _ | _ | _) | _<;>first | cases e;done | skip
  cases wb.mp r1;cases b
  ·cases e;exact wpAny_truthy_bool (R1.pb.go l1)
  ·exact wpAny_truthy_bool (thn (aJ3 S G _ R1 (F.go l1) e) fun _ _ q=>q.go l1)
theorem bF3 (S:Snd v) (G:Good X st d):∀ vs,SE X (.BoolOp .Or vs pos) (bI4 v st vs)
 | []=>fun _ _ _ _ _ _ _ R F e=>by cases e
 | [a]=>fun _ _ _ _ _ _ _ R F e=>BoolOp_one (S.E G a R F e)
 | a::b::r=>by
  intro κ M δ h s w h' R F e;obtain ⟨x,h1,e1,e⟩:=aF e;refine BoolOp_or (thn (S.E G a R F e1) fun u s1 ⟨M1,l1,R1,r1⟩=>?_);rcases x with (_ | b | _ | _ | _ | _ | _) | _<;>first | cases e;done | skip
  cases wb.mp r1;cases b
  ·exact wpAny_truthy_bool (thn (bF3 S G _ R1 (F.go l1) e) fun _ _ q=>q.go l1)
  ·cases e;exact wpAny_truthy_bool (R1.pb.go l1)
def Pt.go {S:Sx} {M M':Mp} {b c:Bool} (l:Le M M') (p:Pt S κ M' h b c s):Pt S κ M h b c s:=let ⟨e,N,a,b⟩:=p;⟨e,N,l.trans a,b⟩
theorem bF4 (S:Snd v) (G:Good X st d):∀ vs,SW X (.BoolOp .And vs pos) (aH3 v st vs)
 | []=>fun _ _ _ _ _ _ _ _ R F e=>by cases e
 | [a]=>fun wh _ _ _ _ _ _ _ R F e=>isTrue_and (thn (S.T G a R F e) fun c s1 q=>by
  cases c with
  | true=>exact isTrue_and_nil q
  | false=>exact q)
 | a::b::r=>by
  intro wh κ M δ h s w h' R F e;obtain ⟨x,h1,e1,e⟩:=aF e;refine isTrue_and (thn (S.T G a R F e1) fun t s1 ⟨et,M1,l1,R1⟩=>?_);subst et;cases t with
  | true=>exact thn (bF4 S G (b::r) wh R1 (F.go l1) e) fun _ _ q=>q.go l1
  | false=>cases e;exact ⟨rfl,M1,l1,R1⟩
theorem bX9 (S:Snd v) (G:Good X st d):∀ vs,SW X (.BoolOp .Or vs pos) (bI5 v st vs)
 | []=>fun _ _ _ _ _ _ _ _ R F e=>by cases e
 | [a]=>fun wh _ _ _ _ _ _ _ R F e=>isTrue_or (thn (S.T G a R F e) fun c s1 q=>by
  cases c with
  | false=>exact isTrue_or_nil q
  | true=>exact q)
 | a::b::r=>by
  intro wh κ M δ h s w h' R F e;obtain ⟨x,h1,e1,e⟩:=aF e;refine isTrue_or (thn (S.T G a R F e1) fun t s1 ⟨et,M1,l1,R1⟩=>?_);subst et;cases t with
  | true=>cases e;exact ⟨rfl,M1,l1,R1⟩
  | false=>exact thn (bX9 S G (b::r) wh R1 (F.go l1) e) fun _ _ q=>q.go l1
def aJ4 (G:Good X st d) {f:Str->Option Int} (e:iP st b=some f):∃ y p p',b=.Name y p'/\eE y=true/\Gl X y/\X.S.mg y=some (.ref p)/\TabK X.S.w X.S.K p f:=by
 unfold iP at e;cases b<;>first | (cases e;done) | skip
 obtain ⟨ht,e⟩:=aE e;rw [Bool.and_eq_true] at ht;obtain ⟨h1,h2⟩:=mV G ht.1;obtain ⟨p,h3,h4⟩:=G.tk _ _ e;exact ⟨_,p,_,rfl,h1,h2,h3,h4⟩
def bY0 (S:Snd v) (G:Good X st d) {f:Str->Option Int} (hf:iP st b=some f) {r:Bool×aA} (R:Mem X.S κ M h s) (F:Fra X κ M δ) (e:kW f (v.E st a) δ h=some r) :
  behindInMarks .NotIn b=false/\Wp X.S X.A (eval a X.env) (fun u s₁=>Wp X.S X.A (eval b X.env) (fun v s₂=>Wp X.S X.A (compareOp .NotIn u v) (Pw X.S κ M r.2 (.d (.bool r.1))) NE s₂) NE s₁) NE s:=by
 obtain ⟨y,p,p',rfl,hn,hg,hm,T⟩:=aJ4 G hf;refine ⟨rfl,?_⟩;obtain ⟨x,h1,e1,e⟩:=aF e;refine thn (S.E G a R F e1) fun u s1 ⟨M1,l1,R1,r1⟩=>iU (F.go l1) R1 hg hm hn ?_;obtain ⟨g,m,g0,g1,g2⟩:=T.map (prog:=X.S.P) (F.ok.mod.kin.keeps R1.bk);rcases x with (_ | _ | _ | z | _ | _ | _) | _<;>first | cases e;done | skip
 ·cases e;cases wn.mp r1;refine wpAny_notIn_of (k:=none) rfl T.sm m ?_;rw [g0];exact (R1.tok _).pb.go l1
 ·cases e;obtain ⟨⟨t,rfl⟩,_⟩:=rep_s.mp (show Rep X.S M1.Z _ _ from r1);refine wpAny_notIn_of (k:=some z) (rQ z t) T.sm m ?_;have eg:(g (some z)).isSome=(f z).isSome:=by
   cases q:f z with
   | none=>rw [g2 z q];rfl
   | some i=>obtain ⟨t',q'⟩:=g1 z i q;rw [q'];rfl
  rw [eg];exact (R1.tok _).pb.go l1
def bF5 (S:Snd v) (G:Good X st d) {op:CmpOp} {r:Bool×aA} (R:Mem X.S κ M h s) (F:Fra X κ M δ) (e:fF v st a [op] [b] δ h=some r) :
  behindInMarks op b=false/\Wp X.S X.A (eval a X.env) (fun u s₁=>Wp X.S X.A (eval b X.env) (fun v s₂=>Wp X.S X.A (compareOp op u v) (Pw X.S κ M r.2 (.d (.bool r.1))) NE s₂) NE s₁) NE s:=by
 cases hf:iP st b with
 | some f =>
  have e:(match iP st b with
   | some f=>if op=CmpOp.NotIn then kW f (v.E st a) else xno
   | none=>if behindInMarks op b=true then xno else xC1 op (v.E st a) (v.E st b)) δ h=some r:=e
  rw [hf] at e
  by_cases ho:op=CmpOp.NotIn
  ·subst ho;exact bY0 S G hf R F e
  ·have e:(if op=CmpOp.NotIn then kW f (v.E st a) else xno) δ h=some r:=e;rw [if_neg ho] at e;cases e
 | none =>
  have e:(match iP st b with
   | some f=>if op=CmpOp.NotIn then kW f (v.E st a) else xno
   | none=>if behindInMarks op b=true then xno else xC1 op (v.E st a) (v.E st b)) δ h=some r:=e
  rw [hf] at e;have e:(if behindInMarks op b=true then xno else xC1 op (v.E st a) (v.E st b)) δ h=some r:=e
  by_cases hb:behindInMarks op b=true
  ·rw [if_pos hb] at e;cases e
  ·rw [if_neg hb] at e;refine ⟨by simpa using hb,?_⟩;obtain ⟨x,h1,e1,e⟩:=aF e;obtain ⟨y,h2,e2,e⟩:=aF e;refine thn (S.E G a R F e1) fun u s1 ⟨M1,l1,R1,r1⟩=>thn (S.E G b R1 (F.go l1) e2) fun v s2 ⟨M2,l2,R2,r2⟩=>?_;obtain ⟨q1,q2⟩:=gG (A:=X.A) (E:=NE) G.rm R2 (r1.go l2) r2 e;rw [q1];exact thn q2 fun _ _ q=>q.go (l1.trans l2)
def bK2 (S:Snd v) (G:Good X st d) {op op':CmpOp} {p:Bool×aA} (hm:lastMarks [op,op'] [b,c]=false) (R:Mem X.S κ M h s) (F:Fra X κ M δ) (e:xC2 op op' (v.E st a) (v.E st b) (v.E st c) δ h=some p):Wp X.S X.A (eval (.Compare a [op,op'] [b,c] pos) X.env) (Pw X.S κ M p.2 (.d (.bool p.1))) NE s:=by
 obtain ⟨x,h1,e1,e⟩:=aF e;obtain ⟨y,h2,e2,e⟩:=aF e;obtain ⟨p1,e3,e⟩:=bind_some e;refine Compare_chain (thn (S.E G a R F e1) fun u s1 ⟨M1,l1,R1,r1⟩=>chain_link (thn (S.E G b R1 (F.go l1) e2) fun v s2 ⟨M2,l2,R2,r2⟩=>?_)) hm;obtain ⟨q1,q2⟩:=gG (A:=X.A) (E:=NE) G.rm R2 (r1.go l2) r2 e3;obtain ⟨k,h3⟩:=p1;cases q1;refine thn q2 fun k' s3 ⟨M3,l3,R3,r3⟩=>?_;cases wb.mp r3;refine wpAny_truthy_bool ?_;dsimp only at e;cases k with
 | false=>cases e;exact ite_ff (R3.pb.go (l1.trans (l2.trans l3)))
 | true =>
  obtain ⟨⟨z,h4⟩,e4,e⟩:=bind_some e;refine ite_tt (chain_last (thn (S.E G c R3 ((F.go l1).go (l2.trans l3)) e4) fun t s4 ⟨M4,l4,R4,r4⟩=>?_));obtain ⟨q5,q6⟩:=gG (A:=X.A) (E:=NE) G.rm R4 (r2.go (l3.trans l4)) r4 e;rw [q5];exact thn q6 fun _ _ q=>q.go (l1.trans (l2.trans (l3.trans l4)))
def bK3 (S:Snd v) (G:Good X st d) {op op':CmpOp} {p:Bool×aA} (hm:lastMarks [op,op'] [b,c]=false) (R:Mem X.S κ M h s) (F:Fra X κ M δ) (e:xC2 op op' (v.E st a) (v.E st b) (v.E st c) δ h=some p) {wh:Sem Value}:Wp X.S X.A (isTrue (.Compare a [op,op'] [b,c] pos) X.env wh) (Pt X.S κ M p.2 p.1) NE s:=by
 obtain ⟨x,h1,e1,e⟩:=aF e;obtain ⟨y,h2,e2,e⟩:=aF e;obtain ⟨p1,e3,e⟩:=bind_some e;refine isTrue_chain (thn (S.E G a R F e1) fun u s1 ⟨M1,l1,R1,r1⟩=>test_link (thn (S.E G b R1 (F.go l1) e2) fun v s2 ⟨M2,l2,R2,r2⟩=>?_)) hm;obtain ⟨q1,q2⟩:=gG (A:=X.A) (E:=NE) G.rm R2 (r1.go l2) r2 e3;obtain ⟨k,h3⟩:=p1;cases q1;refine thn q2 fun k' s3 ⟨M3,l3,R3,r3⟩=>?_;cases wb.mp r3;refine wpAny_truthy_bool ?_;dsimp only at e;cases k with
 | false=>cases e;exact ite_ff ⟨rfl,M3,l1.trans (l2.trans l3),R3⟩
 | true =>
  obtain ⟨⟨z,h4⟩,e4,e⟩:=bind_some e;refine ite_tt (test_last (thn (S.E G c R3 ((F.go l1).go (l2.trans l3)) e4) fun t s4 ⟨M4,l4,R4,r4⟩=>?_));obtain ⟨q5,q6⟩:=gG (A:=X.A) (E:=NE) G.rm R4 (r2.go (l3.trans l4)) r4 e;refine thn q6 fun k2 s5 ⟨M5,l5,R5,r5⟩=>?_;cases wb.mp r5;rw [q5];exact wpAny_truthy_bool ⟨rfl,M5,l1.trans (l2.trans (l3.trans (l4.trans l5))),R5⟩
def kZ (S:Snd v) (G:Good X st d) {ops:List CmpOp} {cs:List Expr}:SE X (.Compare a ops cs pos) (cG (fF v st a ops cs)):=by
 intro κ M δ h s w h' R F e;obtain ⟨p,e2,ew⟩:=map_some (show (fF v st a ops cs δ h).map asW=_ from e);cases ew;clear e;have e:=e2;clear e2;rcases ops with _ | ⟨op,_ | ⟨op',_ | ⟨_,_⟩⟩⟩
 ·cases e
 ·rcases cs with _ | ⟨b,_ | ⟨_,_⟩⟩
  ·cases e
  ·obtain ⟨q1,q2⟩:=bF5 S G R F e;exact wpAny_Compare1 q2 q1
  ·cases e
 ·rcases cs with _ | ⟨b,_ | ⟨c,_ | ⟨_,_⟩⟩⟩
  ·cases e
  ·cases e
  ·have e:(if lastMarks [op,op'] [b,c]=true then xno else xC2 op op' (v.E st a) (v.E st b) (v.E st c)) δ h=some _:=e
   by_cases hm:lastMarks [op,op'] [b,c]=true
   ·rw [if_pos hm] at e;cases e
   ·rw [if_neg hm] at e;exact bK2 S G (by simpa using hm) R F e
  ·cases e
 ·cases e
def bY1 (S:Snd v) (G:Good X st d) {ops:List CmpOp} {cs:List Expr}:ST X (.Compare a ops cs pos) (fF v st a ops cs):=by
 intro κ M δ h s w h' R F e;rcases ops with _ | ⟨op,_ | ⟨op',_ | ⟨_,_⟩⟩⟩
 ·cases e
 ·rcases cs with _ | ⟨b,_ | ⟨_,_⟩⟩
  ·cases e
  ·obtain ⟨q1,q2⟩:=bF5 S G R F e;refine wpAny_isTrue_Compare1 (thn q2 fun u s1 q=>thn q fun v s2 q=>thn q fun k s3 ⟨M3,l3,R3,r3⟩=>?_) q1;cases wb.mp r3;exact wpAny_truthy_bool ⟨rfl,M3,l3,R3⟩
  ·cases e
 ·rcases cs with _ | ⟨b,_ | ⟨c,_ | ⟨_,_⟩⟩⟩
  ·cases e
  ·cases e
  ·have e:(if lastMarks [op,op'] [b,c]=true then xno else xC2 op op' (v.E st a) (v.E st b) (v.E st c)) δ h=some _:=e
   by_cases hm:lastMarks [op,op'] [b,c]=true
   ·rw [if_pos hm] at e;cases e
   ·rw [if_neg hm] at e;exact bK3 S G (by simpa using hm) R F e
  ·cases e
 ·cases e
def bW (e:Expr) (hs:aG e=true):starEach (e::es) X.env=(false,eval e X.env)::starEach es X.env:=by
 cases e<;>first | rfl | cases hs
theorem cN (S:Snd v) (G:Good X st d):∀ es,SA X es (aR v st es)
 | []=>fun pos _ _ _ _ _ _ _ R F e=>by cases e;exact Calls.spliced_nil ⟨_,.refl,R,.nil⟩
 | a::es=>by
  intro pos κ M δ h s ws h' R F e;have e:(if aG a=true then xb (v.E st a) fun w=>xb (aR v st es) fun ws=>aC (w::ws) else xno) δ h=some (ws,h'):=e
  by_cases hs:aG a=true
  ·rw [if_pos hs] at e;obtain ⟨x,h1,e1,e⟩:=aF e;obtain ⟨y,h2,e2,e⟩:=aF e;cases e;rw [bW a hs];show Wp _ _ (spliced ((false,eval a X.env)::backTo pos (starEach es X.env))) _ _ s;refine Calls.spliced_cons (thn (S.E G a R F e1) fun u s1 ⟨M1,l1,R1,r1⟩=>?_);exact thn (cN S G es pos R1 (F.go l1) e2) fun us s2 ⟨M2,l2,R2,r2⟩=>⟨M2,l1.trans l2,R2,.cons (r1.go l2) r2⟩
  ·rw [if_neg hs] at e;cases e
theorem cY {v:Evs} {st:Sta}:∀ {es:List Expr} {δ:DSt} {h:aA} {r:List W×aA},aR v st es δ h=some r->es.all aG=true
 | [],_,_,_,_=>rfl
 | a::es,δ,h,r,e=>by
  have e:(if aG a=true then xb (v.E st a) fun w=>xb (aR v st es) fun ws=>aC (w::ws) else xno) δ h=some r:=e
  by_cases hs:aG a=true
  ·rw [if_pos hs] at e;obtain ⟨x,h1,e1,e⟩:=aF e;obtain ⟨y,h2,e2,e⟩:=aF e;rw [List.all_cons,hs,cY e2];rfl
  ·rw [if_neg hs] at e;cases e
theorem cC (pos:Pos):∀ (es:List Expr),es.all aG=true->(backTo pos (starEach es X.env)).any (·.1)=false
 | [],_=>rfl
 | e::es,h=>by
  rw [List.all_cons,Bool.and_eq_true] at h;have:=cC pos es h.2;rw [bW e h.1];show (false||(backTo pos (starEach es X.env)).any (·.1))=false;rw [this];rfl
theorem mW {S:Sx} {M:Mp}:∀ {ws:List W} {xs:List PyData} {us:List Value},gD ws=some xs->RepWs S M ws us->Reps' S M xs us
 | [],_,_,e,h=>by cases e;cases h;exact .nil
 | .d x::ws,_,_,e,h=>by
  unfold gD at e;obtain ⟨ys,q,rfl⟩:=map_some e;cases h with
  | cons a t=>exact .cons a (mW q t)
 | .c _::ws,_,_,e,h=>by cases e
def yJ (S:Snd v) (G:Good X st d) {xs:List PyData} {Q:List Value->Shared->Prop} (R:Mem X.S κ M h s) (F:Fra X κ M δ) (e:xPl (aR v st es) δ h=some (xs,h'))
  (q:∀ {M1 s1 us},Le M M1->Mem X.S κ M1 h' s1->Reps' X.S M1 xs us->us.length<=sizeLine->Q us s1):Wp X.S X.A (spliced (backTo pos (starEach es X.env))) Q NE s:=by
 obtain ⟨ws,h1,e1,e⟩:=aF e;refine thn (cN S G es pos R F e1) fun us s1 ⟨M1,l1,R1,r1⟩=>?_;split at e
 ·rename_i ys ey;obtain ⟨hl,e⟩:=aE e;cases e;have r:=mW ey r1;exact q l1 R1 r (by rw [<- r.length];exact hl)
 ·cases e
def bY2 (S:Snd v) (G:Good X st d) {k}:SE X (.Tuple es k pos) (xb (xPl (aR v st es)) fun xs=>aC (.d (.tuple xs))):=by
 intro κ M δ h s w h' R F e;obtain ⟨x,h1,e1,e⟩:=aF e;cases e;exact wpAny_Tuple_spliced (yJ S G R F e1 fun l1 R1 r z=>⟨z,(R1.tup (t:=_) r z).go l1⟩)
def vP (S:Snd v) (G:Good X st d):SF X (.List es pos) (xPl (aR v st es)):=by
 intro κ M δ h s w h' R F e;refine wpAny_List_spliced (yJ S G R F e fun {M1 s1 us} l1 R1 r z=>⟨z,?_⟩);obtain ⟨N,a,b⟩:=R1.lstP (t:=s1.toks) (n:=0) r z;exact ⟨N,l1.trans a,b⟩
theorem bF6 (S:Snd v) (G:Good X st d):∀ o,SO X o (mO v st o)
 | none=>fun _ _ _ _ _ _ _ R F e=>by cases e;rw [evalPart_none];exact wpAny_pure ⟨.none,_,.refl,R⟩
 | some a=>by
  intro κ M δ h s o h' R F e;obtain ⟨x,h1,e1,e⟩:=aF (show xb (v.E st a) (fun w=>match w with
   | .d (.int i)=>aC (some i)
   | _=>xno) δ h=some (o,h') from e)
  rw [evalPart_some];refine thn (S.E G a R F e1) fun u s1 ⟨M1,l1,R1,r1⟩=>?_;rcases x with (_ | _ | i | _ | _ | _ | _) | _<;>first | cases e;done | skip
  cases e;obtain ⟨t,rfl⟩:=wi.mp r1;exact ⟨.int _ t,M1,l1,R1⟩
def bY3 (S:Snd v) (G:Good X st d) {lo hi:Option Expr} {p2:Pos} {α:Type} {Q:α->Value->Shared->Prop} {k:W->Option Int->Option Int->aA->Option (α×aA)} {r:α×aA} (R:Mem X.S κ M h s) (F:Fra X κ M δ) (e:xb (v.E st a) (fun x=>xb (mO v st lo) fun l=>xb (mO v st hi) fun u=>fun _ h=>k x l u h) δ h=some r)
  (q:∀ {M1 h1 s1 x u vl vu l hh sl},Le M M1->Mem X.S κ M1 h1 s1->RepW X.S M1 x u->s1.heap.IsSliceOf sl vl vu .none->IsPart vl l->IsPart vu hh->k x l hh h1=some r->∃ T id,typeLookup (.type T) "__getitem__"=pure (some (.builtin id))/\s1.TypeIs u T/\Wp X.S X.A (getItem u (.ref sl)) (Q r.1) NE s1) :
  Wp X.S X.A (eval (.Subscript a (.Slice lo hi none p2) pos) X.env) (Q r.1) NE s:=by
 obtain ⟨x,h1,e1,e⟩:=aF e;obtain ⟨l,h2,e2,e⟩:=aF e;obtain ⟨hh,h3,e3,e⟩:=aF e;refine Subscript_ (thn (S.E G a R F e1) fun u s1 ⟨M1,l1,R1,r1⟩=>?_);refine wpAny_Slice (thn (bF6 S G lo R1 (F.go l1) e2) fun vl s2 ⟨pl,M2,l2,R2⟩=>thn (bF6 S G hi R2 ((F.go l1).go l2) e3) fun vu s3 ⟨pu,M3,l3,R3⟩=>?_);rw [evalPart_none];refine wpAny_pure ?_;have R4:Mem X.S κ M3 h3 { s3 with heap:=s3.heap.push { cls:=.type "slice",data:=.fields #[vl,vu,.none] } }:=R3.kept (t:=s3.toks) fun b ob q=>Heap.get?_push_of_some _ q;obtain ⟨T,id,hT,ht,hg⟩:=q (l1.trans (l2.trans l3)) R4 (r1.go (l2.trans l3)) (Heap.IsSliceOf.new ..) pl pu e;show Wp X.S X.A (subscriptTail a (.Slice lo hi none p2) u (.ref s3.heap.objs.size)) _ _ { s3 with heap:=s3.heap.push { cls:=.type "slice",data:=.fields #[vl,vu,.none] } };exact tail_any (ops:=[.ref s3.heap.objs.size,u]) ht hT hg (by with_unfolding_all rfl)
end
end DL

namespace DL
open PySem PySem.Spec PyProof.Rows L2 CI
structure Turn (S:Sx) (tg:Expr) (all:List PyData) (c:Option Nat) (M0:Mp) (fp:List Addr) (it:Addr) (tn:Nat->Heap->Prop):Prop where
 keep:∀ i h h',tn i h->(∀ b∈fp,∀ o,h.get? b=some o->h'.get? b=some o)->tn i h'
 obj:∀ i h,tn i h->∀ b∈fp,∃ o,h.get? b=some o
 item:∀ {A:Around} {κ:Kp} {M:Mp} {h:aA} {s:Shared} {E:Value->Shared->Prop} {i:Nat} {x:PyData},A.handled=none->Mem S κ M h s->Le M0 M->(∀ b∈fp,bK κ M b)->tn i s.heap->all[i]?=some x->condB c all h=true ->
  Wp S A (pyNext (.ref it)) (fun r s1=>∃ u,r=some u/\Wp S A (letOwnedTupleGo tg (.ref it) u) (fun _ s2=>∃ M',Le M M'/\Mem S κ M' h s2/\Rep S M'.Z x u/\tn (i+1) s2.heap/\∀ b∈fp,bK κ M' b) E s1) E s
 done:∀ {A:Around} {κ:Kp} {M:Mp} {h:aA} {s:Shared} {E:Value->Shared->Prop} {i:Nat},A.handled=none->Mem S κ M h s->Le M0 M->(∀ b∈fp,bK κ M b)->tn i s.heap->all.length<=i->condB c all h=true ->
  Wp S A (pyNext (.ref it)) (fun r s1=>r=none/\Mem S κ M h s1) E s
 self:∀ (A:Around) (i:Nat) (s:Shared) (Q:Value->Shared->Prop) (E:Value->Shared->Prop),tn i s.heap->Q (.ref it) s->Wp S A (pyIter (.ref it)) Q E s
def Pi (S:Sx) (κ:Kp) (M:Mp) (h:aA) (tg:Expr) (p:List PyData×Option Nat) (u:Value) (s:Shared):Prop :=
 ∃ M' it fp tn,Le M M'/\Mem S κ M' h s/\u=.ref it/\Turn S tg p.1 p.2 M' fp it tn/\tn 0 s.heap/\(∀ b∈fp,bK κ M' b)/\p.1.length<=sizeLine
def SI (X:Cx) (tg iter:Expr) (f:XR (List PyData×Option Nat)):Prop:=∀ ⦃κ M δ h s p h'⦄,Mem X.S κ M h s->Fra X κ M δ->f δ h=some (p,h')->Wp X.S X.A (eval iter X.env) (fun v s1=>Wp X.S X.A (pyIter v) (Pi X.S κ M h' tg p) NE s1) NE s
def aJ5 {M:Model} {A:Around} {E:Value->Shared->Prop} {s:Shared} {tg:Expr} {it:Addr} {u:Value} {o:Obj} {n:String} {vs:Array Value} {Q:Unit->Shared->Prop} (ho:s.heap.get? it=some o) (hc:o.cls=.type n) (hd:o.data=.fields vs)
  (hn:["enumerate","zip","dict_itemiterator","dict_reverseitemiterator","odict_iterator","itertools.zip_longest","itertools.pairwise"].contains n=false) (hQ:Q () s):wpAny M A (letOwnedTupleGo tg (.ref it) u) Q E s:=by
 unfold letOwnedTupleGo;cases tg<;>first
  | exact wpAny_pure hQ
  | (cases u<;>first
    | exact wpAny_pure hQ
    | (refine wpAny_bind (wpAny_load ho ?_)
       rw [hc,hd];show wpAny M A (if (["enumerate","zip","dict_itemiterator","dict_reverseitemiterator","odict_iterator","itertools.zip_longest","itertools.pairwise"].contains n&&vs[0]?==some (rawInt _))=true then _ else _) Q E s;rw [if_neg (by intro h;rw [hn,Bool.false_and] at h;cases h)];exact wpAny_pure hQ))
mutual
theorem aJ6:∀ {a b:PyData},peq a b=true->a=b
 | .none,b,h=>by cases b<;>first | rfl | cases h
 | .bool x,b,h=>by cases b<;>first | cases h;done | (rw [eq_of_beq (show (x==_)=true from h)])
 | .int x,b,h=>by cases b<;>first | cases h;done | (rw [eq_of_beq (show (x==_)=true from h)])
 | .str x,b,h=>by cases b<;>first | cases h;done | (rw [eq_of_beq (show (x==_)=true from h)])
 | .list x,b,h=>by cases b<;>first | cases h;done | (rw [peqs_eq (show peqs x _=true from h)])
 | .tuple x,b,h=>by cases b<;>first | cases h;done | (rw [peqs_eq (show peqs x _=true from h)])
 | .dict x,b,h=>by cases b<;>cases h
theorem peqs_eq:∀ {a b:List PyData},peqs a b=true->a=b
 | [],b,h=>by cases b<;>first | rfl | cases h
 | x::a,b,h=>by
  cases b with
  | nil=>cases h
  | cons y b=>replace h:(peq _ y&&peqs _ b)=true:=h;rw [Bool.and_eq_true] at h;rw [aJ6 h.1,peqs_eq h.2]
end
section
variable {S:Sx} {κ:Kp} {M M0:Mp} {h:aA} {s:Shared} {A:Around} {E:Value->Shared->Prop} {tg:Expr} {all:List PyData} {c:Option Nat} {a it:Addr} {us:List Value} {n:Nat}
def Mem.turn {h2:Heap} {t:Nat} {fp:List Addr} (R:Mem S κ M h s) (hf:∀ b∈fp,bK κ M b) (k:∀ b o,b∉fp->s.heap.get? b=some o->h2.get? b=some o):Mem S κ M h { s with heap:=h2,toks:=t } :=
 R.keep (fun b o e nf=>k b o (fun z=>nf (hf b z)) e) R.bare rfl
def aJ7 {hc:c=none->∃ us n,M0.Z a=some (bB us n)/\us.length<=sizeLine/\Reps' S M0 all us} {hi:∀ i,c=some i->∃ p,M0.m[i]?=some p/\p.1=a} (R:Mem S κ M h s) (l:Le M0 M) (co:condB c all h=true) :
  ∃ us n,s.heap.get? a=some (bB us n)/\us.length<=sizeLine/\Reps' S M all us:=by
 cases c with
 | none =>
  obtain ⟨us,n,e,z,r⟩:=hc rfl;exact ⟨us,n,R.z _ _ (l.z _ _ e),z,r.go l⟩
 | some i =>
  obtain ⟨p,e,rfl⟩:=hi i rfl;have co:(match h[i]? with
   | some (.l ys)=>peqs ys all
   | _=>false)=true:=co
  split at co
  ·rename_i ys ey;rw [<- peqs_eq co];obtain ⟨us,n,e1,e2,e3⟩:=R.cel i p _ (l.at e) ey;exact ⟨us,n,e1,e2,e3⟩
  ·cases co
def pJ (hc:c=none->∃ us n,M0.Z a=some (bB us n)/\us.length<=sizeLine/\Reps' S M0 all us) (hi:∀ i,c=some i->∃ p,M0.m[i]?=some p/\p.1=a):Turn S tg all c M0 [it] it (fun i h=>h.IsListIter it a i) where
 keep:=fun i h h' st k=>st.at fun o e=>k it (by simp) o e
 obj:=fun i h st b hb=>by
  rw [List.mem_singleton.mp hb];obtain ⟨o,e,_⟩:=st;exact ⟨o,e⟩
 item:=by
  intro A κ M h s E i x hd R l hf st hx co;obtain ⟨us,n,ho,hz,rr⟩:=aJ7 (hc:=hc) (hi:=hi) R l co;obtain ⟨u,hu,ru⟩:=hU rr hx;refine wpAny_pyNext_list_item st (cK ho).isList (x:=u) (by simpa using hu) fun h' st' sb=>?_;have R1:Mem S κ M h { s with heap:=h' }:=R.turn (t:=s.toks) hf fun b o hb e=>(sb.2 b fun z=>hb (by simp [z])).trans e;obtain ⟨o,e,c,d⟩:=id st';exact ⟨u,rfl,aJ5 (s:={ s with heap:=h' }) e c d (by decide) ⟨M,.refl,R1,ru,st',hf⟩⟩
 done:=by
  intro A κ M h s E i hd R l hf st hx co;obtain ⟨us,n,ho,hz,rr⟩:=aJ7 (hc:=hc) (hi:=hi) R l co;have hl:=rr.length;exact wpAny_pyNext_list_end hd st (cK ho).isList (by simp;omega) fun h' eb=>⟨rfl,R.turn (t:=s.toks) hf fun b o hb e=>eb b o (fun z=>hb (by simp [z])) e⟩
 self:=fun _ _ _ _ _ st h=>wpAny_pyIter_listiter st h
def vQ (e0:M0.Z a=some { cls:=.type "tuple",data:=.seq us.toArray n }) (r0:Reps' S M0 all us):Turn S tg all none M0 [it] it (fun i h=>h.IsTupleIter it a i) where
 keep:=fun i h h' st k=>st.at fun o e=>k it (by simp) o e
 obj:=fun i h st b hb=>by
  rw [List.mem_singleton.mp hb];obtain ⟨o,e,_⟩:=st;exact ⟨o,e⟩
 item:=by
  intro A κ M h s E i x hd R l hf st hx co;obtain ⟨u,hu,ru⟩:=hU (r0.go l) hx;refine wpAny_pyNext_tuple_item st (show s.heap.IsTuple a us.toArray from eG (R.z _ _ (l.z _ _ e0))) (x:=u) (by simpa using hu) fun h' st' sb=>?_;have R1:Mem S κ M h { s with heap:=h' }:=R.turn (t:=s.toks) hf fun b o hb e=>(sb.2 b fun z=>hb (by simp [z])).trans e;obtain ⟨o,e,c,d⟩:=id st';exact ⟨u,rfl,aJ5 (s:={ s with heap:=h' }) e c d (by decide) ⟨M,.refl,R1,ru,st',hf⟩⟩
 done:=by
  intro A κ M h s E i hd R l hf st hx co;have hl:=r0.length;exact wpAny_pyNext_tuple_end hd st (show s.heap.IsTuple a us.toArray from eG (R.z _ _ (l.z _ _ e0))) (by simp;omega) fun h' eb=>⟨rfl,R.turn (t:=s.toks) hf fun b o hb e=>eb b o (fun z=>hb (by simp [z])) e⟩
 self:=fun _ _ _ _ _ st h=>wpAny_pyIter_tupleiter st h
def aW7 {lo:Int} {n i:Nat} {x:PyData} (e:(rng lo n)[i]?=some x):i < n/\x=.int (lo+i):=by
 unfold rng at e;rw [List.getElem?_map] at e;obtain ⟨j,e1,rfl⟩:=map_some e;obtain ⟨h1,h2⟩:=List.getElem?_eq_some_iff.mp e1;rw [List.getElem_range] at h2;subst h2;exact ⟨by simpa using h1,rfl⟩
def vR {lo:Int}:Turn S tg (rng lo n) none M0 [it] it (fun i h=>IsRangeIter h it (lo+(i:Nat)*1) ((n:Int) - (i:Nat)) 1) where
 keep:=fun i h h' st k=>k it (by simp) _ st
 obj:=fun i h st b hb=>by rw [List.mem_singleton.mp hb];exact ⟨_,st⟩
 item:=by
  intro A κ M h s E i x hd R l hf st hx co;obtain ⟨hi,rfl⟩:=aW7 hx;have W:=Walks.range (prog:=S.P) (w:=S.w) hd it lo 1 n;refine W.item i s _ _ hi st fun v h' tk hv st' kk=>?_;obtain ⟨t,rfl⟩:=hv;have R1:Mem S κ M h { s with heap:=h',toks:=tk }:=R.turn hf fun b o hb e=>kk b o (by simpa using hb) e;refine ⟨_,rfl,aJ5 (s:={ s with heap:=h',toks:=tk }) (n:="range_iterator") st' rfl rfl (by decide) ⟨M,.refl,R1,rep_i.mpr ⟨t,?_⟩,st',hf⟩⟩;rw [Int.mul_one]
 done:=by
  intro A κ M h s E i hd R l hf st hx co;have hx:n<=i:=by simpa [rng] using hx
  exact wpAny_pyNext_range_end hd st (by omega) fun h' eb=>⟨rfl,R.turn (t:=s.toks) hf fun b o hb e=>eb b o (fun z=>hb (by simp [z])) e⟩
 self:=fun _ _ _ _ _ st h=>wpAny_pyIter_rangeiter st h
def Mem.one (R:Mem S κ M h s):∀ b∈[s.heap.objs.size],bK κ M b:=fun b hb=>by rw [List.mem_singleton.mp hb];exact R.size
def tK {lo hi:Int} {t u v:Tok} {tk:Nat} (R:Mem S κ M h s) (h1:-(2^62)<=lo) (h2:lo < 2^62) (h3:-(2^62)<=hi) (h4:hi < 2^62) (h5:hi - lo<=16000000) :
  Wp S A (pyIter (.ref s.heap.objs.size)) (Pi S κ M h tg (rng lo (hi - lo).toNat,none)) E { s with heap:=s.heap.push { cls:=.type "range",data:=.fields #[.int lo t,.int hi u,.int 1 v] },toks:=tk }:=by
 refine wpAny_pyIter_range (IsRange.new ..) (small_one h1 h2 h3 h4) ?_;have R1:Mem S κ M h { s with heap:=s.heap.push { cls:=.type "range",data:=.fields #[.int lo t,.int hi u,.int 1 v] },toks:=tk }:=R.kept fun b o e=>Heap.get?_push_of_some _ e;refine ⟨M,_,[(s.heap.push { cls:=.type "range",data:=.fields #[.int lo t,.int hi u,.int 1 v] }).objs.size],_,.refl,R1.kept (t:=tk) fun b o e=>Heap.get?_push_of_some _ e,rfl,vR,?_,R1.one,?_⟩
 case refine_2=>show (rng lo (hi - lo).toNat).length<=sizeLine;unfold rng;rw [List.length_map,List.length_range,sizeLine_eq];omega
 have e1:lo+((0:Nat):Int)*1=lo:=by simp
 have e2:(((hi - lo).toNat:Nat):Int) - ((0:Nat):Int)=Builtin.Range.rangeSize lo hi 1:=by rw [rangeSize_one];split<;>omega
 show IsRangeIter _ _ (lo+((0:Nat):Int)*1) ((((hi - lo).toNat:Nat):Int) - ((0:Nat):Int)) 1;rw [e1,e2];exact Heap.get?_push_size _ rfl
end
section
variable {X:Cx} {st:Sta} {d:Nat} {v:Evs} {a b tg iter:Expr} {κ:Kp} {M:Mp} {δ:DSt} {h h':aA} {s:Shared} {E:Value->Shared->Prop} {pos p:Pos}
def Pi.go {S:Sx} {M M':Mp} {q:List PyData×Option Nat} {u:Value} (l:Le M M') (x:Pi S κ M' h tg q u s):Pi S κ M h tg q u s:=let ⟨N,it,fp,tn,a,b⟩:=x;⟨N,it,fp,tn,l.trans a,b⟩
def vS (S:Snd v) (G:Good X st d):SI X tg iter (aU (v.E st iter)):=by
 intro κ M δ h s p h' R F e;obtain ⟨x,h1,e1,e⟩:=aF e;refine thn (S.E G iter R F e1) fun u s1 ⟨M1,l1,R1,r1⟩=>?_;rcases x with (_ | _ | _ | _ | xs | xs | _) | i<;>first | cases e;done | skip
 ·cases e;obtain ⟨a,us,n,rfl,z,⟨⟨n,rfl⟩,hz⟩,rr⟩:=rep_l.mp (show Rep X.S M1.Z (.list _) u from r1);exact wpAny_pyIter_list (cK (R1.z _ _ z)).isList (Pi.go l1 ⟨M1,_,[s1.heap.objs.size],_,.refl,R1.kept (t:=s1.toks) fun b o e=>Heap.get?_push_of_some _ e,rfl,pJ (fun _=>⟨_,_,z,hz,rr⟩) (fun i z=>nomatch z),⟨_,Heap.get?_push_size _ rfl,rfl,rfl⟩,R1.one,by rw [rr.length];exact hz⟩)
 ·cases e;obtain ⟨a,us,n,rfl,z,hz,rr⟩:=fY R1 r1 rfl;exact wpAny_pyIter_tuple (show s1.heap.IsTuple a us.toArray from eG (R1.z _ _ z)) (Pi.go l1 ⟨M1,_,[s1.heap.objs.size],_,.refl,R1.kept (t:=s1.toks) fun b o e=>Heap.get?_push_of_some _ e,rfl,vQ z rr,⟨_,Heap.get?_push_size _ rfl,rfl,rfl⟩,R1.one,by rw [rr.length];exact hz⟩)
 ·dsimp only at e;split at e
  ·rename_i xs ei;cases e;obtain ⟨p,ep,rfl⟩:=r1;obtain ⟨us,n,ho,hz,rr⟩:=R1.cel i p _ ep ei;exact wpAny_pyIter_list (cK ho).isList (Pi.go l1 ⟨M1,_,[s1.heap.objs.size],_,.refl,R1.kept (t:=s1.toks) fun b o e=>Heap.get?_push_of_some _ e,rfl,pJ (fun z=>nomatch z) (fun j z=>by cases z;exact ⟨p,ep,rfl⟩),⟨_,Heap.get?_push_size _ rfl,rfl,rfl⟩,R1.one,by rw [rr.length];exact hz⟩)
  ·cases e
def bF7 {i j:Int} (h:fB i j=true):j - i<=16000000/\-(2^62)<=i/\i < 2^62/\-(2^62)<=j/\j < 2^62:=by
 unfold fB at h
 simpa only [Bool.and_eq_true,decide_eq_true_eq] using h
def cZ (G:Good X st d) {x:Str} (hx:(cJ st x&&(slot st x).isNone&&st.bl.contains x)=true):eE x=true/\Gl X x/\X.S.mg x=none:=by
 rw [Bool.and_eq_true,Bool.and_eq_true] at hx;obtain ⟨h1,h2⟩:=mV G hx.1.1;exact ⟨h1,h2,G.bl _ hx.2⟩
theorem bK4 (S:Snd v) (G:Good X st d) (hx:(cJ st "range"&&(slot st "range").isNone&&st.bl.contains "range")=true) (hs:aG a=true):SI X tg (.Call (.Name "range" p) [a] [] pos) (xb (v.E st a) fun w=>fun _ h=>(match w with
   | .d (.int j)=>if fB 0 j=true then some ((rng 0 j.toNat,none),h) else none
   | _=>none)):=by
 intro κ M δ h s q h' R F e;obtain ⟨h1,h2,h3⟩:=cZ G hx;obtain ⟨x,hh,e1,e⟩:=aF e;have ea:aR v st [a] δ h=some ([x],hh):=by unfold aR;rw [if_pos hs];unfold aR xb aC;rw [e1];rfl
 have es:=bW (X:=X) (es:=[]) a hs;refine Call_ (cX F R h2 h3 boot_range h1 (PyProof.Rows.callWith_type1 (thn (cN S G [a] pos R F ea) fun us s1 ⟨M1,l1,R1,r0⟩=>?_) es rfl));obtain ⟨u,rfl,r1⟩:=w1 r0;split at e
 ·obtain ⟨hb,e⟩:=aE e;cases e;obtain ⟨t,rfl⟩:=wi.mp r1;obtain ⟨b1,b2,b3,b4,b5⟩:=bF7 hb;refine call_range_1 (thn (tK (tg:=tg) R1 b2 b3 b4 b5 b1) fun _ _ q=>Pi.go l1 ?_);rw [Int.sub_zero] at q;exact q
 ·cases e
theorem bK5 (S:Snd v) (G:Good X st d) (hx:(cJ st "range"&&(slot st "range").isNone&&st.bl.contains "range")=true) (hs:aG a=true) (hs2:aG b=true):SI X tg (.Call (.Name "range" p) [a,b] [] pos) (xb (v.E st a) fun u=>xb (v.E st b) fun w=>fun _ h=>(match u,w with
   | .d (.int i),.d (.int j)=>if fB i j=true then some ((rng i (j - i).toNat,none),h) else none
   | _,_=>none)):=by
 intro κ M δ h s q h' R F e;obtain ⟨h1,h2,h3⟩:=cZ G hx;obtain ⟨x,hh,e1,e⟩:=aF e;obtain ⟨y,hh2,e2,e⟩:=aF e;have ea:aR v st [a,b] δ h=some ([x,y],hh2):=by unfold aR;rw [if_pos hs];unfold xb;rw [e1];unfold aR;dsimp only [Option.bind];rw [if_pos hs2];unfold aR xb aC;dsimp only;rw [e2];rfl
 refine Call_ (cX F R h2 h3 boot_range h1 (PyProof.Rows.callWith_type1 (thn (cN S G [a,b] pos R F ea) fun us s1 ⟨M1,l1,R1,r0⟩=>?_) (bW a hs) (by rw [bW b hs2];rfl)));obtain ⟨u,v,rfl,r1,r2⟩:=w2 r0;split at e
 ·obtain ⟨hb,e⟩:=aE e;cases e;obtain ⟨t,rfl⟩:=wi.mp r1;obtain ⟨t',rfl⟩:=wi.mp r2;obtain ⟨b1,b2,b3,b4,b5⟩:=bF7 hb;exact call_range_2 (thn (tK R1 b2 b3 b4 b5 b1) fun _ _ q=>Pi.go l1 q)
 ·cases e
noncomputable def fG (κ:Kp) (fp:List Addr) (hp:Heap):Kp:=fun a=>if a∈fp then (hp.get? a).map fun o=>(true,o) else κ a
noncomputable def unK (fp:List Addr) (κ:Kp):Kp:=fun a=>if a∈fp then none else κ a
def Mem.pin {S:Sx} {fp:List Addr} (R:Mem S κ M h s) (hf:∀ b∈fp,bK κ M b):Mem S (fG κ fp s.heap) M h s:=by
 refine ⟨R.z,fun a b o e=>?_,R.len,R.ap,fun q hq a ha=>?_,R.cel,R.base,R.bare,R.os⟩
 ·unfold fG at e;split at e
  ·rename_i hm;obtain ⟨o',e1,e2⟩:=map_some e;cases e2;exact ⟨fun _=>e1,⟨_,e1⟩,(hf a hm).1⟩
  ·exact R.k a b o e
 ·obtain ⟨h1,h2,h3⟩:=R.off q hq a ha;refine ⟨h1,?_,h3⟩;unfold fG;rw [if_neg fun hm=>by rcases ha with z | z;exact ((hf a hm).2.2 q hq).1 z.symm;exact ((hf a hm).2.2 q hq).2 z.symm];exact h2
def Fra.kp {κ':Kp} (F:Fra X κ M δ) (k:∀ a,(a=X.env.locals\/∃ x,X.env.cells.lookup x=some a)->κ' a=κ a):Fra X κ' M δ :=
 ⟨F.ok,F.len,let ⟨o,m,h1,h2,h3⟩:=F.loc;⟨o,m,by rw [k _ (.inl rfl)];exact h1,h2,fun i x w a b c=>let ⟨u,r,l⟩:=h3 i x w a b c;⟨u,r,l.imp id fun ⟨q,c,o,e1,e2,e3⟩=>⟨q,c,o,e1,by rw [k _ (.inr ⟨x,e1⟩)];exact e2,e3⟩⟩⟩,fun x c e=>let ⟨o,v,h1,h2⟩:=F.cell x c e;⟨o,v,by rw [k _ (.inr ⟨x,e⟩)];exact h1,h2⟩⟩
def Fra.mine (F:Fra X κ M δ) {a:Addr} (ha:a=X.env.locals\/∃ x,X.env.cells.lookup x=some a):κ a≠none:=by
 rcases ha with rfl | ⟨x,e⟩
 ·obtain ⟨o,m,h1,_⟩:=F.loc;rw [h1];exact fun z=>nomatch z
 ·obtain ⟨o,v,h1,_⟩:=F.cell x a e;rw [h1];exact fun z=>nomatch z
def Fra.pin {fp:List Addr} {hp:Heap} (F:Fra X κ M δ) (hf:∀ b∈fp,bK κ M b):Fra X (fG κ fp hp) M δ:=F.kp fun a ha=>by
 unfold fG;rw [if_neg fun hm=>F.mine ha (hf a hm).2.1]
def aJ8 {S:Sx} {fp:List Addr} {hp:Heap} {κ2:Kp} {M2:Mp} {h2:aA} {s2:Shared} (F:Fra X κ M δ) (hf:∀ b∈fp,bK κ M b) (ho:∀ b∈fp,∃ o,hp.get? b=some o) (o2:Own X (fG κ fp hp) κ2) (R2:Mem S κ2 M2 h2 s2) :
  Own X κ (unK fp κ2)/\Mem S (unK fp κ2) M2 h2 s2/\(∀ b∈fp,bK (unK fp κ2) M2 b)/\(∀ b∈fp,∀ o,hp.get? b=some o->s2.heap.get? b=some o)/\∀ δ',Fra X κ2 M2 δ'->Fra X (unK fp κ2) M2 δ':=by
 have same:∀ b∈fp,κ2 b=fG κ fp hp b:=fun b hb=>by
  by_cases e:κ2 b=fG κ fp hp b
  ·exact e
  ·refine absurd (hf b hb).2.1 (F.mine ?_);rcases o2 b e with z | z
   ·exact .inl z
   ·exact .inr z.2
 have pins:∀ b∈fp,∀ o,hp.get? b=some o->κ2 b=some (true,o):=fun b hb o e=>by rw [same b hb];unfold fG;rw [if_pos hb,e];rfl
 refine ⟨fun a ha=>?_,R2.less fun a x e=>?_,fun b hb=>?_,fun b hb o e=>?_,fun δ' F'=>F'.kp fun a ha=>?_⟩
 ·have nm:a∉fp:=fun hm=>ha (by unfold unK;rw [if_pos hm,(hf a hm).2.1]);refine o2 a fun e=>ha ?_;unfold unK;rw [if_neg nm,e];unfold fG;rw [if_neg nm]
 ·unfold unK at e;split at e
  ·cases e
  ·exact e
 ·obtain ⟨o,e⟩:=ho b hb;have k2:=pins b hb o e;exact ⟨(R2.k b _ _ k2).2.2,by unfold unK;rw [if_pos hb],R2.kc k2⟩
 ·exact (R2.k b _ _ (pins b hb o e)).1 rfl
 ·have nm:a∉fp:=fun hm=>F.mine ha (hf a hm).2.1;unfold unK;rw [if_neg nm]
end
end DL

namespace PySem
open AutoSeq1 (wpAny_loadPart')
def aJ9 (h : Heap) (d : Addr) (es : Array DictEntry) (ep : Nat) : Prop := ∃ o, h.get? d = some o ∧ o.ExactDict ∧ o.data = .dict es ep
section
variable {prog : Program} {w : World} {A : Around} {E : Value → Shared → Prop} {s : Shared} {d it : Addr} {es : Array DictEntry} {i ep : Nat}
theorem vT {Q : Value → Shared → Prop} (hd : (d == sysModules) = false) (R : aJ9 s.heap d es ep)
  (hQ : Q (.ref s.heap.objs.size) { s with heap := s.heap.push { cls := .type "dict_keyiterator", data := .fields #[.ref d, .int 0 0, .int es.size 0, .int ep 0] } }) : wpAny (model prog w) A (pyIter (.ref d)) Q E s := by
 obtain ⟨o, k1, k2, k3⟩ := R
 have T : s.TypeIs (.ref d) "dict" := ⟨o, k1, k2.1⟩
 refine wpAny_pyIter_slot T F.slot_dict_iter (wpAny_call_entry F.slot_dict_iter T F.entry_dict_iter ?_ (F.args_dict_iter_1 _))
 unfold Builtin.«dict.__iter__»
 wp_walk
 rw [k2.1]
 wp_walk
 rw [k3]
 wp_walk
 rw [k3]
 wp_walk
 exact ⟨_, rfl, "dict_keyiterator", _, ⟨_, Heap.get?_push_size _ rfl, rfl⟩, F.slot_dict_keyiterator_next.lookup, hQ⟩
theorem vU {Q : Option Value → Shared → Prop} (I : s.heap.IsKeyIter it d i es.size ep) (R : aJ9 s.heap d es ep) (hh : es[i]? = none → A.handled = none)
  (q1 : ∀ en, es[i]? = some en → ∀ h', h'.IsKeyIter it d (i + 1) es.size ep → Heap.SameBut it s.heap h' → Q (some en.key) { s with heap := h' })
  (q2 : es[i]? = none → ∀ h', Heap.ExtBut it s.heap h' → Q none { s with heap := h' }) : wpAny (model prog w) A (pyNext (.ref it)) Q E s := by
 have T := I.typeIs
 obtain ⟨o, k1, k2, k3⟩ := R
 obtain ⟨oi, i1, i2, i3⟩ := I
 unfold pyNext
 refine wpAny_bind (wpAny_attempt (wpAny_callSpecial?_slot T F.slot_dict_keyiterator_next (wpAny_call_entry F.slot_dict_keyiterator_next T F.entry_dict_keyiterator_next ?_ (F.args_dict_keyiterator_next_1 _))))
 unfold Builtin.«dict_keyiterator.__next__»
 wp_walk
 rw [i3]
 wp_walk
 rw [if_neg (by decide)]
 wp_walk
 rw [k3]
 wp_walk
 rw [k3]
 wp_walk
 rw [if_neg (by omega), Int.toNat_natCast]
 cases hx : es[i]? with
 | some en =>
  wp_walk
  rw [i3]
  show wpAny _ _ (update it (Obj.mapFields fun x => x.setIfInBounds 1 (rawInt ((i : Int) + 1)))) _ _ _
  have I' : (s.heap.update it (Obj.mapFields fun x => x.setIfInBounds 1 (rawInt ((i : Int) + 1)))).IsKeyIter it d (i + 1) es.size ep :=
   ⟨_, Heap.get?_update_self _ i1 (Obj.isFreed_of_fields (Obj.data_mapFields i3 _)), (Obj.cls_mapFields ..).trans i2, by simp [Obj.data_mapFields i3, rawInt]⟩
  obtain ⟨o', j1, j2, j3⟩ := id I'
  wp_walk using wpAny_loadPart' j1
  rw [j2]
  wp_walk
  exact ⟨_, rfl, wpAny_pure (q1 en hx _ I' (Heap.SameBut.update ..))⟩
 | none =>
  have hn := hh hx
  wp_walk
  rw [i3]
  show wpAny _ _ (update it (Obj.mapFields fun x => x.setIfInBounds 0 .none)) _ _ _
  wp_walk
  unfold raiseNew
  wp_walk
  rw [show isSubtype _ _ = pure true from isSubtype_stop]
  wp_walk
  exact q2 hx _ (((Heap.SameBut.update ..).extBut.push _).push _)
end
end PySem

namespace DL
open PySem PySem.Spec PyProof.Rows L2 CI
section
variable {X:Cx} {st:Sta} {d:Nat} {v:Evs} {a b c tg iter:Expr} {κ:Kp} {M:Mp} {δ:DSt} {h h':aA} {s:Shared} {pos:Pos} {body els:List Stmt} {x:Str} {g:XG} {tb:XS}
def Ps.go {κ1:Kp} {M1:Mp} {fl:Fl} {f:Flow} (o:Own X κ κ1) (l:Le M M1) (p:Ps X κ1 M1 h fl f s):Ps X κ M h fl f s:=let ⟨κ2,M2,a,b,q⟩:=p;⟨κ2,M2,o.trans a,l.trans b,q⟩
def quiet (F:Fra X κ M δ):interactive X.env=false:=by simp [interactive,F.ok.kind]
theorem pK (S:Snd v) (G:Good X st d):∀ ss,SSs X ss (xSs v st ss)
 | []=>fun _ _ _ _ _ _ _ R F e=>by cases e;exact wpAny_execs_nil ⟨_,_,.refl,.refl,R,F⟩
 | t::r=>by
  intro κ M δ h s fl h' R F e;obtain ⟨⟨f1,h1⟩,e1,e⟩:=bind_some (show (v.S st t δ h).bind (fun p=>match p.1 with
   | .nx δ'=>xSs v st r δ' p.2
   | f=>some (f,p.2))=some (fl,h') from e)
  refine wpAny_execs_cons (thn (S.S G t R F e1) fun f s1 ⟨κ1,M1,o1,l1,R1,q⟩=>?_);cases f1 with
  | nx δ1 =>
   cases f<;>first | exact q.elim | skip
   exact thn (pK S G r R1 q e) fun _ _ p=>p.go o1 l1
  | rt w=>cases e;cases f<;>first | exact q.elim | exact ⟨κ1,M1,o1,l1,R1,q⟩
  | bk w=>cases e;cases f<;>first | exact q.elim | exact ⟨κ1,M1,o1,l1,R1,q⟩
  | ct w=>cases e;cases f<;>first | exact q.elim | exact ⟨κ1,M1,o1,l1,R1,q⟩
def jX {t:Stmt}:SS X t fun _ _=>none:=fun _ _ _ _ _ _ _ _ _ e=>by cases e
def bY4 {f:XR W} (hf:SE X a f):SS X (.Return (some a) pos) fun δ h=>(f δ h).bind fun p=>some (.rt p.1,p.2):=by
 intro κ M δ h s fl h' R F e;obtain ⟨⟨w,h1⟩,e1,e⟩:=bind_some e;cases e;exact wpAny_Return_some (thn (hf R F e1) fun u s1 ⟨M1,l1,R1,r1⟩=>⟨κ,M1,.refl,l1,R1,r1⟩)
def cO4 (S:Snd v) (G:Good X st d):SS X (.If c body els pos) fun δ h=>(v.T st c δ h).bind fun p=>if p.1=true then xSs v st body δ p.2 else xSs v st els δ p.2:=by
 intro κ M δ h s fl h' R F e;obtain ⟨⟨t,h1⟩,e1,e⟩:=bind_some e;refine wpAny_If (thn (S.T G c R F e1) fun t' s1 ⟨et,M1,l1,R1⟩=>?_);subst et;cases t' with
 | true=>exact thn (pK S G body R1 (F.go l1) e) fun _ _ p=>p.go .refl l1
 | false=>exact thn (pK S G els R1 (F.go l1) e) fun _ _ p=>p.go .refl l1
def bK6 (S:Snd v) (G:Good X st d) (hs:swapsWith a none pos.line X.env=pure false):SS X (.Expr a pos) fun δ h=>(v.E st a δ h).bind fun p=>some (.nx δ,p.2):=by
 intro κ M δ h s fl h' R F e;obtain ⟨⟨w,h1⟩,e1,e⟩:=bind_some e;cases e;exact wpAny_Expr_any (thn (S.E G a R F e1) fun u s1 ⟨M1,l1,R1,r1⟩=>⟨κ,M1,.refl,l1,R1,F.go l1⟩) (quiet F) hs
def yK {α:Type} {l:List α} {i:Nat} {x:α} (e:l[i]?=some x):l.drop i=x::l.drop (i+1):=by
 obtain ⟨hi,rfl⟩:=List.getElem?_eq_some_iff.mp e;exact List.drop_eq_getElem_cons hi
def bY5 {f:XR (List PyData×Option Nat)} (hd:X.A.handled=none) (hi:SI X tg iter f) (hg:SG X tg g) (hb:SSs X body tb) (hs:∀ x,foldedSetIterable iter X.env x=pure x) :
  SS X (.For tg iter body [] pos) fun δ h=>(f δ h).bind fun p=>aX g tb p.1.2 p.1.1 p.1.1 δ p.2:=by
 intro κ M δ h s fl h' R F e;obtain ⟨⟨⟨all,c⟩,h1⟩,e1,e⟩:=bind_some e;refine wpAny_For (thn (hi R F e1) fun v s1 q1=>thn q1 fun itv s2 q2=>?_) hs;obtain ⟨M2,it,fp,tn,l2,R2,rfl,T,t2,f2,_⟩:=q2;dsimp only at T e;have hp:PassesOwn (model X.S.P X.S.w) X.A X.env NE:=PassesOwn.never;obtain ⟨I,hI⟩:∃ I:Nat->Shared->Prop,I=fun n s'=>∃ i κ' M' δ' hh,n=all.length - i/\i<=all.length/\Own X κ κ'/\Le M2 M'/\Mem X.S κ' M' hh s'/\Fra X κ' M' δ'/\tn i s'.heap/\(∀ b∈fp,bK κ' M' b)/\aX g tb c all (all.drop i) δ' hh=some (fl,h'):=⟨_,rfl⟩;refine codeAny_forLoop_any I ?_ all.length (by rw [hI];exact ⟨0,κ,M2,δ,h1,rfl,Nat.zero_le _,.refl,.refl,R2,F.go l2,t2,f2,e⟩);intro n s3 hn;rw [hI] at hn;obtain ⟨i,κ3,M3,δ3,h3,rfl,hle,o3,l3,R3,F3,t3,f3,e3⟩:=hn;cases q:all[i]? with
 | none =>
  have hl:all.length<=i:=List.getElem?_eq_none_iff.mp q;rw [List.drop_of_length_le hl] at e3;obtain ⟨co,e3⟩:=aE (show (if condB c all h3=true then some (Fl.nx δ3,h3) else none)=some (fl,h') from e3);cases e3;refine wpAny_passesOwn hp (thn (T.done hd R3 l3 f3 t3 hl co) fun r s4 ⟨hr,R4⟩=>?_);subst hr;exact wpAny_execs_nil ⟨κ3,M3,o3,l2.trans l3,R4,F3⟩
 | some x =>
  have hlt:i < all.length:=(List.getElem?_eq_some_iff.mp q).1;rw [yK q] at e3;obtain ⟨co,e3⟩:=aE (show (if condB c all h3=true then (g (.d x) δ3 h3).bind (fun p=>(tb p.1 p.2).bind fun q=>(match q.1 with
    | .nx δ'=>aX g tb c all (all.drop (i+1)) δ' q.2
    | .ct δ'=>aX g tb c all (all.drop (i+1)) δ' q.2
    | .bk δ'=>some (.nx δ',q.2)
    | .rt w=>some (.rt w,q.2))) else none)=some (fl,h') from e3)
  obtain ⟨⟨δ4,h4⟩,e4,e3⟩:=bind_some e3;obtain ⟨⟨f5,h5⟩,e5,e3⟩:=bind_some e3;refine wpAny_passesOwn hp (thn (T.item hd R3 l3 f3 t3 q co) fun r s4 ⟨u,hr,q4⟩=>?_);subst hr;refine wpAny_passesOwn hp (thn q4 fun _ s5 ⟨M5,l5,R5,r5,t5,fr5⟩=>?_);have F5:=F3.go l5;refine wpAny_passesOwn hp (thn (hg (R5.pin fr5) (F5.pin fr5) (show RepW X.S M5 (.d x) u from r5) e4) fun _ s6 ⟨κ6,M6,o6,l6,R6,F6⟩=>?_);refine wpAny_passesOwn hp (thn (hb R6 F6 e5) fun f s7 ⟨κ7,M7,o7,l7,R7,q7⟩=>?_);obtain ⟨u1,u2,u3,u4,u5⟩:=aJ8 F5 fr5 (T.obj _ _ t5) (o6.trans o7) R7;have l37:=l5.trans (l6.trans l7);have again:∀ {δ'},Fra X κ7 M7 δ'->aX g tb c all (all.drop (i+1)) δ' h5=some (fl,h')->∃ m,m < all.length - i/\I m s7:=fun F7 e7 =>
   ⟨all.length - (i+1),by omega,by rw [hI];exact ⟨i+1,_,M7,_,h5,rfl,hlt,o3.trans u1,l3.trans l37,u2,u5 _ F7,T.keep _ _ _ t5 u4,u3,e7⟩⟩
  cases f5 with
  | nx δ5=>cases f<;>first | exact q7.elim | exact again q7 e3
  | ct δ5=>cases f<;>first | exact q7.elim | exact again q7 e3
  | bk δ5=>cases e3;cases f<;>first | exact q7.elim | exact ⟨_,M7,o3.trans u1,l2.trans (l3.trans l37),u2,u5 _ q7⟩
  | rt w=>cases e3;cases f<;>first | exact q7.elim | exact ⟨_,M7,o3.trans u1,l2.trans (l3.trans l37),u2,q7⟩
def aW8 {f:XR Bool} {n:Nat} (hc:ST X c f) (hb:SSs X body tb):SS X (.While c body [] pos) (bR f tb n):=by
 intro κ M δ h s fl h' R F e;have hp:PassesOwn (model X.S.P X.S.w) X.A X.env NE:=PassesOwn.never;obtain ⟨I,hI⟩:∃ I:Nat->Shared->Prop,I=fun n s'=>∃ κ' M' δ' hh,Own X κ κ'/\Le M M'/\Mem X.S κ' M' hh s'/\Fra X κ' M' δ'/\bR f tb n δ' hh=some (fl,h'):=⟨_,rfl⟩;refine wpAny_While (codeAny_whileLoop I ?_ n (by rw [hI];exact ⟨κ,M,δ,h,.refl,.refl,R,F,e⟩));intro n s3 hn;rw [hI] at hn;obtain ⟨κ3,M3,δ3,h3,o3,l3,R3,F3,e3⟩:=hn;cases n with
 | zero=>cases e3
 | succ n =>
  obtain ⟨⟨t,h4⟩,e4,e3⟩:=bind_some (show (f δ3 h3).bind (fun p=>if p.1=true then
   (tb δ3 p.2).bind fun q=>(match q.1 with
    | .nx δ'=>bR f tb n δ' q.2
    | .ct δ'=>bR f tb n δ' q.2
    | .bk δ'=>some (.nx δ',q.2)
    | .rt w=>some (.rt w,q.2))
  else some (.nx δ3,p.2))=some (fl,h') from e3)
  refine wpAny_passesOwn hp (thn (hc R3 F3 e4) fun t' s4 ⟨et,M4,l4,R4⟩=>?_);subst et;cases t' with
  | false =>
   cases e3;exact wpAny_execs_nil ⟨κ3,M4,o3,l3.trans l4,R4,F3.go l4⟩
  | true =>
   obtain ⟨⟨f5,h5⟩,e5,e3⟩:=bind_some (show (tb δ3 h4).bind (fun q=>(match q.1 with
    | .nx δ'=>bR f tb n δ' q.2
    | .ct δ'=>bR f tb n δ' q.2
    | .bk δ'=>some (.nx δ',q.2)
    | .rt w=>some (.rt w,q.2)))=some (fl,h') from e3)
   refine wpAny_passesOwn hp (thn (hb R4 (F3.go l4) e5) fun f s7 ⟨κ7,M7,o7,l7,R7,q7⟩=>?_);have l:=l3.trans (l4.trans l7);cases f5 with
   | nx δ5=>cases f<;>first | exact q7.elim | exact ⟨n,Nat.lt_succ_self _,by rw [hI];exact ⟨κ7,M7,δ5,h5,o3.trans o7,l,R7,q7,e3⟩⟩
   | ct δ5=>cases f<;>first | exact q7.elim | exact ⟨n,Nat.lt_succ_self _,by rw [hI];exact ⟨κ7,M7,δ5,h5,o3.trans o7,l,R7,q7,e3⟩⟩
   | bk δ5=>cases e3;cases f<;>first | exact q7.elim | exact ⟨κ7,M7,o3.trans o7,l,R7,q7⟩
   | rt w=>cases e3;cases f<;>first | exact q7.elim | exact ⟨κ7,M7,o3.trans o7,l,R7,q7⟩
def bK7 (G:Good X st d) {i:Nat} (hi:slot st x=some i) (hl:(rD st.S x&&(st.top||cU st.S x))=true):SG X (.Name x pos) fun w δ h=>some (δ.set i (some w),h):=by
 intro κ M δ h s w u δ' h' R F r e;cases e;obtain ⟨h1,h2⟩:=aJ2 G hl;exact wpAny_assign_Name (aI9 F R (lW G hi) h1 h2 r fun s' κ' o R' F' _=>⟨κ',M,o,.refl,R',F'⟩)
def yL (e:Expr) (hs:aG e=true) (es:List Expr):(assignEach (e::es) X.env).map (·.2)=assign e X.env::(assignEach es X.env).map (·.2)/\(assignEach (e::es) X.env).length=(assignEach es X.env).length+1/\((assignEach es X.env).findIdx? (·.1)=none->(assignEach (e::es) X.env).findIdx? (·.1)=none):=by
 have t:assignEach (e::es) X.env=(false,assign e X.env)::assignEach es X.env:=by cases e<;>first | rfl | cases hs
 rw [t];refine ⟨rfl,rfl,fun z=>?_⟩;rw [List.findIdx?_cons,z];rfl
theorem yM:∀ (es:List Expr),es.all aG=true->(assignEach es X.env).length=es.length/\(assignEach es X.env).findIdx? (·.1)=none
 | [],_=>⟨rfl,rfl⟩
 | e::es,h=>by
  rw [List.all_cons,Bool.and_eq_true] at h;obtain ⟨h1,h2⟩:=yM es h.2;obtain ⟨_,h4,h5⟩:=yL (X:=X) e h.1 es;exact ⟨by rw [h4,h1];rfl,h5 h2⟩
theorem aK0 (S:Snd v) (G:Good X st d):∀ (es:List Expr),es.all aG=true->∀ {κ M δ h s xs us δ' h'},Mem X.S κ M h s->Fra X κ M δ->Reps' X.S M xs us->jV (kY v st es) xs δ h=some (δ',h') ->
  es.length=xs.length/\Wp X.S X.A (assignInOrder ((assignEach es X.env).map (·.2)) us) (fun _ s'=>∃ κ' M',Own X κ κ'/\Le M M'/\Mem X.S κ' M' h' s'/\Fra X κ' M' δ') NE s
 | [],_,κ,M,δ,h,s,xs,us,δ',h',R,F,r,e=>by
  cases xs with
  | nil=>cases e;cases r;exact ⟨rfl,assignInOrder_nil ⟨κ,M,.refl,.refl,R,F⟩⟩
  | cons _ _=>cases e
 | t::es,ha,κ,M,δ,h,s,xs,us,δ',h',R,F,r,e=>by
  rw [List.all_cons,Bool.and_eq_true] at ha;cases xs with
  | nil=>cases e
  | cons x xs =>
   cases r with
   | @cons _ u _ us r1 r2 =>
    obtain ⟨⟨δ1,h1⟩,e1,e⟩:=bind_some (show (v.G st t (.d x) δ h).bind (fun p=>jV (kY v st es) xs p.1 p.2)=some (δ',h') from e);have len:es.length=xs.length:=by
     have go:∀ (es:List Expr) (xs:List PyData) δ h r,jV (kY v st es) xs δ h=some r->es.length=xs.length:=by
      intro es;induction es with
      | nil=>intro xs δ h r e;cases xs with | nil=>rfl | cons _ _=>cases e
      | cons t es ih =>
       intro xs δ h r e;cases xs with
       | nil=>cases e
       | cons x xs =>
        obtain ⟨p,_,e⟩:=bind_some (show (v.G st t (.d x) δ h).bind (fun p=>jV (kY v st es) xs p.1 p.2)=some r from e);rw [List.length_cons,List.length_cons,ih _ _ _ _ e]
     exact go _ _ _ _ _ e
    refine ⟨by rw [List.length_cons,List.length_cons,len],?_⟩;rw [(yL (X:=X) t ha.1 es).1];refine assignInOrder_cons (thn (S.G G t R F (show RepW X.S M (.d x) u from r1) e1) fun _ s1 ⟨κ1,M1,o1,l1,R1,F1⟩=>?_);exact thn (aK0 S G es ha.2 R1 F1 (Reps'.go l1 r2) e).2 fun _ s2 ⟨κ2,M2,o2,l2,q⟩=>⟨κ2,M2,o1.trans o2,l1.trans l2,q⟩
def bY6 (S:Snd v) (G:Good X st d) {es:List Expr} {k} (ha:es.all aG=true):SG X (.Tuple es k pos) (bV (kY v st es)):=by
 intro κ M δ h s w u δ' h' R F r e;unfold bV at e;split at e
 ·obtain ⟨a,us,n,rfl,z,hz,rr⟩:=fY (h:=h) R r rfl;obtain ⟨h1,h2⟩:=yM (X:=X) es ha;obtain ⟨hl,_⟩:=aK0 S G es ha R F rr e;refine assign_Tuple_tuple G.rm.hd (eG (R.z _ _ z)) (by rw [h1,hl,rr.length];simp) h2 fun h2 hx=>?_;exact (aK0 S G es ha (R.kept (t:=s.toks) fun b o e=>hx b o (Nat.ne_of_lt (Heap.lt_size e)) e) F (by simpa using rr) e).2
 ·cases e
def vV (its:List Value) (n j:Nat) (u:Value):Obj.mapSeq (·.setIfInBounds j u) (bB its n)=bB (its.set j u) n:=by simp [Obj.mapSeq]
def Mem.upd {S:Sx} {i:Nat} {p:Addr×Addr} {us us':List Value} {n n' t:Nat} {xs:List PyData} {f:Obj->Obj} (R:Mem S κ M h s) (ei:M.m[i]?=some p) (hl:∃ ys,h[i]?=some (.l ys)) (ho:s.heap.get? p.1=some (bB us n)) (hf:f (bB us n)=bB us' n') (r:Reps' S M xs us') (z:us'.length<=sizeLine) :
  Mem S κ M (h.set i (.l xs)) { s with heap:=s.heap.update p.1 f,toks:=t }:=by
 have e:(s.heap.update p.1 f).get? p.1=some (bB us' n'):=by rw [Heap.get?_update_self f ho (by rw [hf]<;>rfl),hf]
 obtain ⟨_,_,o2,ho2⟩:=R.off p (List.mem_of_getElem? ei) p.2 (.inr rfl);refine R.wr ei (fun b o n1 _ q=>(Heap.get?_update_other _ _ (Ne.symm n1)).trans q) ⟨⟨_,e⟩,?_⟩ R.bare rfl ⟨us',n',e,z,r⟩
 by_cases hq:p.2=p.1
 ·exact ⟨_,by rw [hq];exact e⟩
 ·exact ⟨o2,(Heap.get?_update_other _ _ (Ne.symm hq)).trans ho2⟩
def mX {S:Sx} {Z:Zm} {k:Key} {y x:PyData} {u:Value} (ek:bU y=some k) (rx:Rep S Z x u) {kvs:List (PyData×PyData)} {vs:List (Key×Value)} (r:RepK S Z kvs vs):RepK S Z (lH kvs y x) (stored vs k u):=by
 unfold lH stored;have ea:(kvs.any fun p=>decide (bU p.1=bU y))=vs.any fun kv=>decide (kv.1=k):=by
  rw [ek];induction r with
  | nil=>rfl
  | cons h t ih=>rw [List.any_cons,List.any_cons,ih,h.1];simp
 rw [ea,ek];split
 ·rename_i hq;clear ea hq;induction r with
  | nil=>exact .nil
  | @cons p q ps qs h t ih =>
   rw [List.map_cons,List.map_cons];refine .cons ?_ ih
   by_cases e:q.1=k
   ·rw [if_pos (by rw [h.1,e]),if_pos e];exact ⟨h.1,rx⟩
   ·rw [if_neg (by rw [h.1];exact fun z=>e (Option.some.inj z)),if_neg e];exact h
 ·exact Paired.snoc r ⟨ek,rx⟩
def bK8 {S:Sx} {A:Around} {E:Value->Shared->Prop} {i j:Nat} {p:Addr×Addr} {xs:List PyData} {k:Int} {t:Tok} {x:PyData} {u:Value} {Q:Unit->Shared->Prop} (R:Mem S κ M h s) (ei:M.m[i]?=some p) (eh:h[i]?=some (.l xs)) (ej:ixN xs.length k=some j) (rx:Rep S M.Z x u)
  (q:∀ s',Mem S κ M (h.set i (.l (xs.set j x))) s'->Q () s'):Wp S A (setItem (.ref p.1) (.int k t) u) Q E s:=by
 obtain ⟨us,n,ho,hz,rr⟩:=R.cel i p _ ei eh;have hl:=rr.length;obtain ⟨h1,h2,h3,h4⟩:=rK ej;have hn:=rM;have R':=R.upd (t:=s.toks) ei ⟨_,eh⟩ ho (vV us n j u) (bV6 rx j rr) (by rw [List.length_set];exact hz)
 by_cases h0:0<=k
 ·have hk:k.toNat=j:=by rw [seqIndex_of h0 h4] at h1;exact Option.some.inj h1
  exact PySem.W.ki_setAt ho h0 (by omega) (by rw [List.size_toArray,<- hl];exact h4) (by rw [hk];exact q _ R')
 ·have hk:(k+(us.toArray.size:Int)).toNat=j:=by rw [seqIndex_neg (by omega) h3] at h1;rw [List.size_toArray,<- hl];exact Option.some.inj h1
  exact PySem.W.ki_setBack ho (by omega) (by rw [List.size_toArray,<- hl];exact h3) (by omega) (by rw [hk];exact q _ R')
def bK9 {S:Sx} {A:Around} {E:Value->Shared->Prop} {i:Nat} {p:Addr×Addr} {kvs:List (PyData×PyData)} {y x:PyData} {k:Key} {u uk:Value} {Q:Unit->Shared->Prop} (R:Mem S κ M h s) (ei:M.m[i]?=some p) (eh:h[i]?=some (.k kvs)) (ek:bU y=some k) (hlt:kvs.length < sizeLine) (ry:Rep S M.Z y uk) (rx:Rep S M.Z x u)
  (q:∀ s',Mem S κ M (h.set i (.k (lH kvs y x))) s'->Q () s'):Wp S A (setItem (.ref p.1) uk u) Q E s:=by
 obtain ⟨vs,dd,rk,hd,hz⟩:=R.cel i p _ ei eh;have hl:=rk.length;refine wpAny_setItem_pairs (hsz:=hz) (vO ek ry) dd fun h' dd' hs=>q _ ?_;obtain ⟨o',es',ep',ho',hx'⟩:=id dd';obtain ⟨_,_,o2,ho2⟩:=R.off p (List.mem_of_getElem? ei) p.2 (.inr rfl);refine R.wr ei (fun b o n1 _ q=>(hs.2 b n1).trans q) ⟨⟨_,ho'⟩,?_⟩ R.bare rfl ⟨_,dd',mX ek rx rk,hd,?_⟩
 ·by_cases hq:p.2=p.1
  ·exact ⟨_,by rw [hq];exact ho'⟩
  ·exact ⟨o2,(hs.2 _ hq).trans ho2⟩
 ·have:(lH kvs y x).length<=kvs.length+1:=by
   unfold lH;split
   ·rw [List.length_map];omega
   ·rw [List.length_append];simp
  rw [<- (mX ek rx rk).length];omega
def mY {S:Sx} {Z:Zm} {y x:PyData} {a:Addr} {u:Value} (hk:hkB 4 y=true) (ry:Rep S Z y (.ref a)) (rx:Rep S Z x u) {kvs:List (PyData×PyData)} {xs:List (HK×Addr×Value)} (r:hV S Z kvs xs):hV S Z (putN kvs y x) (storedH xs ⟨y,hk⟩ a u):=by
 unfold putN storedH;rw [aI2 hk r];cases q:(atKey xs ⟨y,hk⟩).isSome with
 | false=>exact Paired.snoc r ⟨rfl,ry,rx⟩
 | true =>
  rw [if_pos rfl,if_pos rfl];clear q;unfold hV at r ⊢;induction r with
  | nil=>exact .nil
  | @cons p z _ _ b _ ih =>
   refine .cons ?_ ih;have e:(peq p.1 y=true) ↔ z.1=⟨y,hk⟩:=by
    rw [b.1,(gB z.1.2 hk).2];exact (Subtype.ext_iff (a1:=z.1) (a2:=⟨y,hk⟩)).symm
   unfold putAt;dsimp only
   by_cases c:z.1=⟨y,hk⟩
   ·rw [if_pos (e.mpr c),if_pos c];exact ⟨b.1,b.2.1,rx⟩
   ·rw [if_neg fun z'=>c (e.mp z'),if_neg c];exact b
def aW9 {S:Sx} {A:Around} {E:Value->Shared->Prop} {d i:Nat} {w:W} {p:Addr×Addr} {kvs:List (PyData×PyData)} {y x:PyData} {u uk:Value} {Q:Unit->Shared->Prop} (hr:Room d A) (R:Mem S κ M h s) (ei:M.m[i]?=some p) (eh:h[i]?=some (.n kvs)) (hy:(cT y&&hkB 4 y)=true) (hlt:kvs.length < sizeLine) (ry:Rep S M.Z y uk) (rx:Rep S M.Z x u)
  (q:∀ s',Mem S κ M (h.set i (.n (putN kvs y x))) s'->Q () s'):Wp S A (setItem (.ref p.1) uk u) Q E s:=by
 obtain ⟨j,p',xs,ej,ep,ei2,e3,dd,rr,hs,hz⟩:=yI (x:=.c i) (u:=.ref p.1) R ⟨p,ei,rfl⟩ (by unfold hW;dsimp only;rw [eh]);cases ej;rw [ei] at ep;cases ep;obtain ⟨hk,a,rfl,ik,ra⟩:=mT (x:=.d y) (h:=h) R ry rfl hy;have hl:=rr.length;refine wpAny_setItem_heap hr.nd ik dd (fun h' dd' sb=>q _ ?_) (hsz:=hz);obtain ⟨o',es',ep',ho',hx1,hx2,hx3,_,hx5⟩:=dd';obtain ⟨_,_,o2,ho2⟩:=R.off p (List.mem_of_getElem? ei) p.2 (.inr rfl);have rp:=mY hk ra rx rr;refine R.wr ei (fun b o n1 _ q=>(sb.2 b n1).trans q) ⟨⟨_,ho'⟩,?_⟩ R.bare rfl ⟨_,⟨o',es',ep',ho',hx1,hx2,hx3,hx5⟩,rp,hs,?_⟩
 ·by_cases hq:p.2=p.1
  ·exact ⟨_,by rw [hq];exact ho'⟩
  ·exact ⟨o2,(sb.2 _ hq).trans ho2⟩
 ·have:(putN kvs y x).length<=kvs.length+1:=by
   unfold putN;split
   ·rw [List.length_map];omega
   ·rw [List.length_append];simp
  rw [<- rp.length];omega
def bY7 (S:Snd v) (G:Good X st d) (ha:∀ v,assign (.Subscript a b pos) X.env v=(do
   let ov <- holding [v] (eval a X.env)
   let iv <- holding [v,ov] (eval b X.env)
   standAt pos
   holding [v,ov,iv] (setItem ov iv v)
   release [v,ov,iv] [])):SG X (.Subscript a b pos) fun w δ h=>(v.E st a δ h).bind fun p=>(v.E st b δ p.2).bind fun q=>(match p.1,q.1,w with
  | .c j,.d y,.d x=>rI j y x δ q.2
  | _,_,_=>none):=by
 intro κ M δ h s w u δ' h' R F r e;obtain ⟨⟨x1,h1⟩,e1,e⟩:=bind_some e;obtain ⟨⟨x2,h2⟩,e2,e⟩:=bind_some e;rw [ha];refine wpAny_bind (wpAny_holding (thn (S.E G a R F e1) fun ov s1 ⟨M1,l1,R1,r1⟩=>?_));refine wpAny_bind (wpAny_holding (thn (S.E G b R1 (F.go l1) e2) fun iv s2 ⟨M2,l2,R2,r2⟩=>?_));refine wpAny_bind (wpAny_standAt (wpAny_bind (wpAny_holding ?_)));have l:=l1.trans l2;have rw':=r.go l;have fin:∀ {hh:aA} {s3:Shared},Mem X.S κ M2 hh s3->Wp X.S X.A (release [u,ov,iv] []) (fun _ s'=>∃ κ' M',Own X κ κ'/\Le M M'/\Mem X.S κ' M' hh s'/\Fra X κ' M' δ) NE s3:=fun R3=>wpAny_release ⟨κ,M2,.refl,l,R3,F.go l⟩;rcases x1 with _ | j
 ·cases e
 rcases x2 with y | _
 case c=>cases e
 rcases w with x | _
 case c=>cases e
 obtain ⟨p,ep,rfl⟩:=r1.go l2;dsimp only at e;unfold rI at e;cases ej:h2[j]? with
 | none=>rw [ej] at e;cases e
 | some c =>
  rw [ej] at e;cases c with
  | l xs =>
   cases y<;>first | cases e;done | skip
   rename_i k;obtain ⟨n,en,e⟩:=map_some e;cases e;obtain ⟨t,rfl⟩:=wi.mp r2;exact bK8 R2 ep ej en rw' fun s3 R3=>fin R3
  | k kvs =>
   obtain ⟨⟨hk,hlt⟩,e⟩:=aE e;cases e;obtain ⟨k,ek⟩:=Option.isSome_iff_exists.mp hk;exact bK9 R2 ep ej ek hlt r2 rw' fun s3 R3=>fin R3
  | n kvs =>
   obtain ⟨⟨hk,hlt⟩,e⟩:=aE e;cases e;exact aW9 (w:=.d .none) G.rm R2 ep ej hk hlt r2 rw' fun s3 R3=>fin R3
  | _=>cases e
end
end DL

namespace DL
open PySem PySem.Spec PyProof.Rows L2 CI
structure CompSc (N N':List Str) (ixs:List (Option Nat)) (S sc:Scope):Prop where
 kind:sc.kind=.function
 nocell:∀ y∈sc.names,y.2≠.cell
 loc:∀ y∈sc.names,y.2=.local->sc.names.lookup y.1=some .local
 free:∀ y∈sc.names,y.2=.free->S.names.lookup y.1=some .cell\/S.names.lookup y.1=some .free
 nd:N'.Nodup
 len:ixs.length=N'.length
 cap:((ixs.zip N').all fun p=>match p.1 with
  | none=>true
  | some i=>decide (N[i]?=some p.2)&&decide (sc.names.lookup p.2=some NameKind.free))=true


def CompSc.at {N N':List Str} {ixs:List (Option Nat)} {S sc:Scope} (h:CompSc N N' ixs S sc) {j i:Nat} {x:Str} (e1:N'[j]?=some x) (e2:ixs[j]?=some (some i)) :
  N[i]?=some x/\sc.names.lookup x=some .free:=by
 have hm:(some i,x)∈ixs.zip N':=by
  refine List.mem_of_getElem? (i:=j) ?_;rw [List.getElem?_zip_eq_some];exact ⟨e2,e1⟩
 have q:=List.all_eq_true.mp h.cap _ hm;simp only [Bool.and_eq_true,decide_eq_true_eq] at q;exact q

theorem gH {env:Env}:∀ (names:List (Str×NameKind)) (acc:List (Str×Addr)),(∀ y∈names,y.2=.free->∃ c,env.cells.lookup y.1=some c) ->
  (∀ x c,acc.lookup x=some c->env.cells.lookup x=some c) ->
  ∃ cl,(∀ x c,cl.lookup x=some c->env.cells.lookup x=some c)/\(∀ y∈names,y.2=.free->∃ c,cl.lookup y.1=some c)/\(∀ x c,acc.lookup x=some c->∃ d,cl.lookup x=some d) /\
   (forIn names acc fun (x:Str×NameKind) (r:List (Str×Addr))=>(if (x.2==NameKind.free)=true then (do let a <- cellOf env x.1;pure (ForInStep.yield ((x.1,a)::r))) else pure (ForInStep.yield r):Sem (ForInStep (List (Str×Addr)))))=(pure cl:Sem (List (Str×Addr)))
 | [],acc,_,ha=>⟨acc,ha,fun _ h=>(nomatch h),fun x c h=>⟨c,h⟩,rfl⟩
 | (n,k)::r,acc,h,ha=>by
  by_cases hk:k=.free
  ·subst hk;obtain ⟨c,hc⟩:=h (n,.free) List.mem_cons_self rfl;obtain ⟨cl,h1,h2,h3,h4⟩:=gH r ((n,c)::acc) (fun y hy=>h y (List.mem_cons_of_mem _ hy)) (fun x d hd=>by
    rw [List.lookup_cons] at hd;cases q:x==n with
    | true =>
     rw [q] at hd;have e1:x=n:=by simpa using q
     have e2:c=d:=Option.some.inj hd;rw [e1,<- e2];exact hc
    | false=>rw [q] at hd;exact ha x d hd)
   refine ⟨cl,h1,fun y hy hf=>?_,fun x d hd=>?_,?_⟩
   ·rcases List.mem_cons.mp hy with e | hy
    ·subst e;exact h3 n c (by simp [List.lookup_cons])
    ·exact h2 y hy hf
   ·cases q:x==n with
    | true =>
     have e1:x=n:=by simpa using q
     subst e1;exact h3 x c (by simp [List.lookup_cons])
    | false=>exact h3 x d (by rw [List.lookup_cons,q];exact hd)
   ·rw [<- h4,List.forIn_cons];have e:cellOf env n=pure c:=by unfold cellOf;rw [hc]
    show ((if (NameKind.free==NameKind.free)=true then (do let a <- cellOf env n;pure (ForInStep.yield ((n,a)::acc))) else pure (ForInStep.yield acc):Sem _) >>= _)=_;rw [if_pos (by decide),e];rfl
  ·obtain ⟨cl,h1,h2,h3,h4⟩:=gH r acc (fun y hy=>h y (List.mem_cons_of_mem _ hy)) ha;refine ⟨cl,h1,fun y hy hf=>?_,h3,?_⟩
   ·rcases List.mem_cons.mp hy with e | hy
    ·subst e;exact absurd hf hk
    ·exact h2 y hy hf
   ·rw [<- h4,List.forIn_cons];have e:(k==NameKind.free)=false:=by simpa using hk
    show ((if (k==NameKind.free)=true then (do let a <- cellOf env n;pure (ForInStep.yield ((n,a)::acc))) else pure (ForInStep.yield acc):Sem _) >>= _)=_;rw [if_neg (by rw [e];exact Bool.false_ne_true)];rfl
def iC {sc:Scope} {env:Env} (h:∀ y∈sc.names,y.2=.free->∃ c,env.cells.lookup y.1=some c) :
  ∃ cl,closureFor sc env=pure cl/\(∀ x c,cl.lookup x=some c->env.cells.lookup x=some c)/\(∀ y∈sc.names,y.2=.free->∃ c,cl.lookup y.1=some c):=by
 obtain ⟨cl,h1,h2,_,h4⟩:=gH (env:=env) sc.names [] h (fun x c e=>by simp at e);refine ⟨cl,?_,h1,h2⟩;unfold closureFor;exact (congrArg (fun m:Sem (List (Str×Addr))=>m >>= fun r=>pure r) h4).trans rfl

theorem eI {env:Env} {x:Str}:∀ {names:List (Str×NameKind)} {k:NameKind},names.lookup x=some k ->
  (names.map fun (n,k)=>if (k==NameKind.free&&env.scope.kind==.function&&env.kindOf n==some .cell) then (n,NameKind.cell) else (n,k)).lookup x
   = some (if (k==NameKind.free&&env.scope.kind==.function&&env.kindOf x==some .cell) then NameKind.cell else k)
 | [],_,h=>by simp at h
 | (n,k0)::r,k,h=>by
  rw [List.lookup_cons] at h;rw [List.map_cons];cases q:x==n with
  | true =>
   have e1:x=n:=by simpa using q
   subst e1;rw [q] at h;have e2:k0=k:=Option.some.inj h;subst e2;dsimp only
   by_cases hc:(k0==NameKind.free&&env.scope.kind==.function&&env.kindOf x==some .cell)=true
   ·rw [if_pos hc,if_pos hc,List.lookup_cons,q]
   ·rw [if_neg hc,if_neg hc,List.lookup_cons,q]
  | false =>
   rw [q] at h;have ih:=eI (env:=env) h;dsimp only
   by_cases hc:(k0==NameKind.free&&env.scope.kind==.function&&env.kindOf n==some .cell)=true
   ·rw [if_pos hc,List.lookup_cons,q];exact ih
   ·rw [if_neg hc,List.lookup_cons,q];exact ih
theorem iV {env:Env} {x:Str}:∀ {names:List (Str×NameKind)},names.lookup x=none ->
  (names.map fun (n,k)=>if (k==NameKind.free&&env.scope.kind==.function&&env.kindOf n==some .cell) then (n,NameKind.cell) else (n,k)).lookup x=none
 | [],_=>rfl
 | (n,k0)::r,h=>by
  rw [List.lookup_cons] at h;rw [List.map_cons];cases q:x==n with
  | true=>rw [q] at h;cases h
  | false =>
   rw [q] at h;have ih:=iV (env:=env) h;dsimp only
   by_cases hc:(k0==NameKind.free&&env.scope.kind==.function&&env.kindOf n==some .cell)=true
   ·rw [if_pos hc,List.lookup_cons,q];exact ih
   ·rw [if_neg hc,List.lookup_cons,q];exact ih

def aB1 {prog:Program} {w:World} {A:Around} {R:Result->Shared->Prop} {s:Shared} {elt target iter:Expr} {ifs:List Expr} {scope:Scope} {pos:Pos} {it acc:Value} {env:Env} (I:Nat->Shared->Prop)
  (turn:∀ n s,I n s->wpAny (model prog w) A (pyNext it) (fun r s₁=>match r with
   | none=>R (.ok .next) s₁
   | some v=>wpAny (model prog w) A (letOwnedTupleGo target it v) (fun _ t₁=>wpAny (model prog w) A (assign target env v) (fun _ s₂ =>
     wpAny (model prog w) A (forIn ifs true fun c r=>if r=true then do let ok <- isTrue c env (eval c env);pure (ForInStep.yield ok) else pure (ForInStep.yield r)) (fun ok s₃ =>
      if ok=true then wpAny (model prog w) A (eval elt env) (fun x s₄ =>
       wpAny (model prog w) A (call (.builtin "list.append") [acc,x]) (fun _ s₅=>∃ m,m < n/\I m s₅) (fun _ _=>False) s₄) (fun _ _=>False) s₃
      else ∃ m,m < n/\I m s₃) (fun _ _=>False) s₂) (fun _ _=>False) t₁) (fun _ _=>False) s₁) (fun _ _=>False) s)
  (n:Nat) (h:I n s):codeAny (model prog w) A (.compLoop (.ListComp elt [⟨target,iter,ifs,0⟩] scope pos) 0 it acc env) R s:=by
 refine codeAny_loop rfl I (fun n s hI=>?_) n h;show wpAny _ A ((compTurn (.ListComp elt [⟨target,iter,ifs,0⟩] scope pos) 0 it acc env).onRaise (fun x=>do noteFrame x env;theTreesLotGoes x)) _ _ s;refine wpAny_noted (wpAny_noRaise ?_);rw [compTurn_list];refine wpAny_bind (wpAny_standAt (wpAny_bind (thn (turn n s hI) fun r s₁ h₁=>?_)));cases r with
 | none=>exact wpAny_pure h₁
 | some v =>
  refine wpAny_bind (thn h₁ fun _ t₁ h₂=>wpAny_bind (thn h₂ fun _ s₂ h₃=>wpAny_bind (thn h₃ fun ok s₃ h₄=>?_)));cases ok with
  | false=>exact wpAny_pure ⟨rfl,h₄⟩
  | true=>exact wpAny_bind (wpAny_bind (thn h₄ fun x s₄ h₅=>wpAny_bind (thn h₅ fun _ s₅ h₆=>wpAny_pure (wpAny_pure ⟨rfl,h₆⟩))))

def yN {ixs:List (Option Nat)} {δ:DSt} {j:Nat} {w:W} (e:(aP ixs δ)[j]?=some (some w)):∃ i,ixs[j]?=some (some i)/\δ[i]?=some (some w):=by
 unfold aP at e;rw [List.getElem?_map] at e;cases h:ixs[j]? with
 | none=>rw [h] at e;cases e
 | some o =>
  rw [h] at e;cases o with
  | none=>cases e
  | some i =>
   refine ⟨i,rfl,?_⟩;have e':(δ[i]?).bind id=some w:=Option.some.inj e;cases q:δ[i]? with
   | none=>rw [q] at e';cases e'
   | some w=>rw [q] at e';exact congrArg some e'
def Pl (S:Sx) (κ:Kp) (M:Mp) (h:aA) (ws:List W) (u:Value) (s:Shared):Prop :=
 ∃ M',Le M M'/\Mem S κ M' h s/\∃ a us n,u=.ref a/\s.heap.get? a=some (bB us n)/\bK κ M' a/\us.length<=sizeLine/\RepWs S M' ws us
def eU (g:XG) (tt:XR Bool) (te:XR W) (c:Option Nat) (all:List PyData):List PyData->DSt->aA->List W->Option (List W×aA)
 | [],_,h,ac=>if condB c all h=true then some (ac,h) else none
 | x::r,δ,h,ac=>if condB c all h=true then
   (g (.d x) δ h).bind fun p=>(tt p.1 p.2).bind fun q=>if q.1=true then
     (te p.1 q.2).bind fun y=>eU g tt te c all r p.1 y.2 (ac++[y.1])
    else eU g tt te c all r p.1 q.2 ac
  else none
theorem iW {g:XG} {tt:XR Bool} {te:XR W} {c:Option Nat} {all:List PyData}:∀ {r:List PyData} {δ:DSt} {h:aA} {ac xs:List PyData} {h':aA},aN g tt te c all r δ h ac=some (xs,h')->eU g tt te c all r δ h (ac.map .d)=some (xs.map .d,h')
 | [],δ,h,ac,xs,h',e=>by
  unfold aN at e;obtain ⟨co,e⟩:=aE e;cases e;unfold eU;rw [if_pos co]
 | x::r,δ,h,ac,xs,h',e=>by
  unfold aN at e;obtain ⟨co,e⟩:=aE e;obtain ⟨p,e1,e⟩:=bind_some e;obtain ⟨q,e2,e⟩:=bind_some e;unfold eU;rw [if_pos co,e1];show (tt p.1 p.2).bind _=_;rw [e2];show (if q.1=true then _ else _)=_
  by_cases hq:q.1=true
  ·rw [if_pos hq] at e ⊢;obtain ⟨⟨y,hy⟩,e3,e⟩:=bind_some e;rw [e3];cases y with
   | c i=>cases e
   | d z =>
    have:=iW (show aN g tt te c all r p.1 hy (ac++[z])=_ from e);rw [List.map_append] at this;exact this
  ·rw [if_neg hq] at e ⊢;exact iW e
theorem jY {g:XG} {tt:XR Bool} {te:XR W} {c:Option Nat} {all:List PyData}:∀ {r:List PyData} {δ:DSt} {h:aA} {ac xs:List Nat} {h':aA},cM g tt te c all r δ h ac=some (xs,h')->eU g tt te c all r δ h (ac.map .c)=some (xs.map .c,h')
 | [],δ,h,ac,xs,h',e=>by
  unfold cM at e;obtain ⟨co,e⟩:=aE e;cases e;unfold eU;rw [if_pos co]
 | x::r,δ,h,ac,xs,h',e=>by
  unfold cM at e;obtain ⟨co,e⟩:=aE e;obtain ⟨p,e1,e⟩:=bind_some e;obtain ⟨q,e2,e⟩:=bind_some e;unfold eU;rw [if_pos co,e1];show (tt p.1 p.2).bind _=_;rw [e2];show (if q.1=true then _ else _)=_
  by_cases hq:q.1=true
  ·rw [if_pos hq] at e ⊢;obtain ⟨⟨y,hy⟩,e3,e⟩:=bind_some e;rw [e3];cases y with
   | d i=>cases e
   | c z =>
    have:=jY (show cM g tt te c all r p.1 hy (ac++[z])=_ from e);rw [List.map_append] at this;exact this
  ·rw [if_neg hq] at e ⊢;exact jY e
noncomputable def blk (X:Cx) (N':List Str) (sc:Scope) (cl:List (Str×Addr)) (C:Addr):Cx:={ X with N:=N',env:=compEnvC sc cl C X.env,fn:=false }
def SIf (X:Cx) (ifs:List Expr) (f:XR Bool):Prop:=∀ ⦃κ M δ h s w h'⦄,Mem X.S κ M h s->Fra X κ M δ->f δ h=some (w,h')->Wp X.S X.A (forIn ifs true fun c r=>if r=true then do let ok <- isTrue c X.env (eval c X.env);pure (ForInStep.yield ok) else pure (ForInStep.yield r)) (Pt X.S κ M h' w) NE s
section
variable {X:Cx} {κ:Kp} {M:Mp} {δ:DSt} {h h':aA} {s:Shared} {N':List Str} {ixs:List (Option Nat)} {sc:Scope} {cl:List (Str×Addr)} {C:Addr} {tg iter elt:Expr} {ifs:List Expr} {pos:Pos} {g:XG} {tt:XR Bool} {te:XR W} {f:XR (List PyData×Option Nat)}
def aB2 {κ':Kp} {o:Obj} (F:Fra X κ M δ) (SC:CompSc X.N N' ixs X.env.scope sc) (hcl1:∀ x c,cl.lookup x=some c->X.env.cells.lookup x=some c) (hcl2:∀ y∈sc.names,y.2=.free->∃ c,cl.lookup y.1=some c)
  (k:∀ a,κ a≠none->κ' a=κ a) (hC:κ' C=some (false,o)) (ho:aI8 o fun _=>none) (hb:X.S.base.objs.size<=C):Fra (blk X N' sc cl C) κ' M (aP ixs δ):=by
 have kfree:∀ {x:Str} {k:NameKind},(relabel sc X.env).names.lookup x=some k->k=.cell\/k=.free->(x,NameKind.free)∈sc.names:=fun {x k} e hk=>by
  cases q:sc.names.lookup x with
  | none =>
   have z:=iV (env:=X.env) q;have z':(relabel sc X.env).names.lookup x=none:=z;rw [e] at z';cases z'
  | some k0 =>
   have z:=eI (env:=X.env) q;have z':(relabel sc X.env).names.lookup x=_:=z;rw [e] at z';have m:=PySem.mem_of_lookup q;have hz:=Option.some.inj z'
   by_cases hc:(k0==NameKind.free&&X.env.scope.kind==.function&&X.env.kindOf x==some .cell)=true
   ·have h0:k0=.free:=by
     simp only [Bool.and_eq_true,beq_iff_eq] at hc;exact hc.1.1
    rw [<- h0];exact m
   ·rw [if_neg hc] at hz;subst hz;rcases hk with hk | hk
    ·exact absurd hk (SC.nocell _ m)
    ·rw [<- hk];exact m
 refine ⟨⟨F.ok.mod,SC.kind,F.ok.glob,F.ok.blt,fun x y c e1 e2=>F.ok.inj x y c (hcl1 x c e1) (hcl1 y c e2),fun x hx=>?_,hb,SC.nd⟩,?_,⟨o,_,hC,ho,fun j x w e1 e2 e3=>?_⟩,fun x c e=>?_⟩
 ·rcases hx with hx | hx
  ·exact hcl2 _ (kfree hx (.inl rfl)) rfl
  ·exact hcl2 _ (kfree hx (.inr rfl)) rfl
 ·show (aP ixs δ).length=N'.length;unfold aP;rw [List.length_map];exact SC.len
 ·obtain ⟨i,ei,ev⟩:=yN e2;obtain ⟨eN,ef⟩:=SC.at e1 ei;have hm:=PySem.mem_of_lookup ef;have hvis:X.env.scope.names.lookup x=some .cell\/X.env.scope.names.lookup x=some .free:=SC.free _ hm rfl;obtain ⟨_,m,_,_,hl⟩:=F.loc;obtain ⟨u,r,l⟩:=hl i x w eN ev (.inr hvis);refine ⟨u,r,?_⟩;rcases l with ⟨hk,_⟩ | ⟨_,c,oc,ec,eo,ed⟩
  ·have hk':X.env.scope.names.lookup x=some .local:=hk;rcases hvis with z | z
   ·rw [hk'] at z;cases z
   ·rw [hk'] at z;cases z
  ·obtain ⟨c',ec'⟩:=hcl2 _ hm rfl;have e5:=hcl1 _ _ ec';rw [ec] at e5;have e6:c=c':=Option.some.inj e5;subst e6;refine .inr ⟨?_,c,oc,ec',by rw [k c (by rw [eo];exact fun z=>nomatch z)];exact eo,ed⟩;have z:=eI (env:=X.env) ef;have z':(relabel sc X.env).names.lookup x=_:=z
   by_cases hc:(NameKind.free==NameKind.free&&X.env.scope.kind==.function&&X.env.kindOf x==some .cell)=true
   ·rw [if_pos hc] at z';exact .inl z'
   ·rw [if_neg hc] at z';exact .inr z'
 ·obtain ⟨oc,v,e1,e2⟩:=F.cell x c (hcl1 x c e);exact ⟨oc,v,by rw [k c (by rw [e1];exact fun z=>nomatch z)];exact e1,e2⟩
def aB3 {S:Sx} {A:Around} {E:Value->Shared->Prop} {a:Addr} {us:List Value} {n:Nat} {u:Value} {Q:Value->Shared->Prop} (R:Mem S κ M h s) (ea:κ a=some (true,bB us n)) (hz:us.length < sizeLine)
  (q:∀ s' n',Mem S (κ.up a (true,bB (us++[u]) n')) M h s'->(∀ b o,b≠a->s.heap.get? b=some o->s'.heap.get? b=some o)->Q .none s'):Wp S A (call (.builtin "list.append") [.ref a,u]) Q E s:=by
 have e:=(R.k a _ _ ea).1 rfl;refine call_meets F.slot_list_append ⟨_,e,rfl⟩ F.entry_list_append (F.args_list_append_2 _ _) (PySem.list_append a us.toArray n u (by rw [List.size_toArray];omega)) ⟨e,?_⟩;have q2:=PySem.IsL.update e (·.push u);have ep:us.toArray.push u=(us++[u]).toArray:=by simp
 rw [ep] at q2;have k:∀ b o,b≠a->s.heap.get? b=some o->(s.heap.update a (Obj.mapSeq (·.push u))).get? b=some o:=fun b o hb e=>(Heap.get?_update_other s.heap _ (Ne.symm hb)).trans e;exact q _ _ (R.own ea k q2 R.bare rfl) k
def tN (hd:X.A.handled=none) (SC:CompSc X.N N' ixs X.env.scope sc) (hcl1:∀ x c,cl.lookup x=some c->X.env.cells.lookup x=some c) (hcl2:∀ y∈sc.names,y.2=.free->∃ c,cl.lookup y.1=some c)
  (hg:∀ cl C,SG (blk X N' sc cl C) tg g) (ht:∀ cl C,SIf (blk X N' sc cl C) ifs tt) (he:∀ cl C,SE (blk X N' sc cl C) elt te) {all:List PyData} {c:Option Nat} {it:Addr} {fp:List Addr} {tn:Nat->Heap->Prop} {ws:List W} {R':Value->Addr->Result->Shared->Prop}
  (F:Fra X κ M δ) (R:Mem X.S κ M h s) (T:Turn X.S tg all c M fp it tn) (t0:tn 0 s.heap) (f0:∀ b∈fp,bK κ M b) (hz:all.length<=sizeLine) (e:eU g tt te c all all (aP ixs δ) h []=some (ws,h'))
  (hR:∀ {s':Shared} {m:Str->Option Value} {M':Mp} {us:List Value} {n:Nat},Le M M'->Mem X.S κ M' h' s'->s'.heap.get? s.heap.objs.size=some (bB us n)->bK κ M' s.heap.objs.size->bK κ M' (s.heap.objs.size+1)->us.length<=sizeLine->RepWs X.S M' ws us->s'.heap.Ns (s.heap.objs.size+1) m->R' (.ref s.heap.objs.size) (s.heap.objs.size+1) (.ok .next) s') :
  Wp X.S X.A (newList []) (fun acc s₃=>Wp X.S X.A (newFunctionEnv sc X.env.globals cl [] X.env.qual none .none (some X.env)) (fun cenv s₄ =>
   codeAny (model X.S.P X.S.w) X.A (.compStart (.ListComp elt [⟨tg,iter,ifs,0⟩] sc pos) 0 (.ref it) acc { cenv with scope:=relabel sc X.env }) (R' acc cenv.locals) s₄) NE s₃) NE s:=by
 refine wpAny_newObj_type (wpAny_newFunctionEnv SC.nocell (by intro y hy;simp at hy) (fun h₁ hns₁ hsb₁=>?_) SC.kind);dsimp only at hns₁ hsb₁ ⊢;have eC:(s.heap.push { cls:=.type "list",dict:=none,data:=.seq ([]:List Value).toArray }).objs.size=s.heap.objs.size+1:=by rw [Heap.size_push]
 rw [eC] at hns₁ hsb₁ ⊢;obtain ⟨acc,ea⟩:∃ a,a=s.heap.objs.size:=⟨_,rfl⟩;rw [<- ea] at hns₁ hsb₁ hR ⊢;have nAC:acc≠acc+1:=Nat.ne_of_lt (Nat.lt_succ_self _);have old:∀ b o,s.heap.get? b=some o->h₁.get? b=some o:=fun b o e=>hsb₁.extBut b o (by rw [ea];exact Nat.ne_of_lt (Nat.lt_succ_of_lt (Heap.lt_size e))) (Heap.get?_push_of_some _ (Heap.get?_push_of_some _ e));have hacc:h₁.get? acc=some (bB [] 0):=by
  refine hsb₁.extBut _ _ nAC ?_;rw [ea];exact Heap.get?_push_of_some _ (Heap.get?_push_size _ rfl)
 obtain ⟨oC,es,ep,hoC,hd1,hk1,hm1⟩:=id hns₁;have fA:bK κ M acc:=ea ▸ R.size;have fC:bK κ M (acc+1):=R.new (Heap.get?_none_of_le (by rw [ea];exact Nat.le_succ _));have R1:Mem X.S κ M h { s with heap:=h₁,toks:=s.toks+([]:List (Str×Value)).length }:=R.kept old;have R2:=(R1.more (b:=true) ⟨fA.1,fA.2.2⟩ hacc).more (b:=false) ⟨fC.1,fC.2.2⟩ hoC;have hfl:∀ b∈fp,b≠acc/\b≠acc+1:=fun b hb=>by
  obtain ⟨o,q⟩:=T.obj _ _ t0 b hb;have:=Heap.lt_size q;rw [<- ea] at this;exact ⟨Nat.ne_of_lt this,Nat.ne_of_lt (Nat.lt_succ_of_lt this)⟩
 have F2:Fra (blk X N' sc cl (acc+1)) ((κ.up acc (true,bB [] 0)).up (acc+1) (false,oC)) M (aP ixs δ):=aB2 F SC hcl1 hcl2 (fun a ha=>by
  rw [bL fun z=>ha (by rw [z];exact fC.2.1),bL fun z=>ha (by rw [z];exact fA.2.1)]) dJ ⟨es,ep,hd1,hk1,hm1⟩ (by rw [ea];exact Nat.le_succ_of_le (F.size R))
 have f2:∀ b∈fp,bK ((κ.up acc (true,bB [] 0)).up (acc+1) (false,oC)) M b:=fun b hb=>⟨(f0 b hb).1,by rw [bL (hfl b hb).2,bL (hfl b hb).1];exact (f0 b hb).2.1,(f0 b hb).2.2⟩;generalize hY:blk X N' sc cl (acc+1)=Y at F2;have hg':SG Y tg g:=by subst hY;exact hg _ _
 have ht':SIf Y ifs tt:=by subst hY;exact ht _ _
 have he':SE Y elt te:=by subst hY;exact he _ _
 have eS:Y.S=X.S:=by subst hY;rfl
 have eA:Y.A=X.A:=by subst hY;rfl
 have eL:Y.env.locals=acc+1:=by subst hY;rfl
 have eF:Y.fn=false:=by subst hY;rfl
 have loop:∀ s₃:Shared,s₃={ s with heap:=h₁,toks:=s.toks+([]:List (Str×Value)).length } ->
   codeAny (model X.S.P X.S.w) X.A (.compLoop (.ListComp elt [⟨tg,iter,ifs,0⟩] sc pos) 0 (.ref it) (.ref acc) Y.env) (R' (.ref acc) (acc+1)) s₃:=by
  rintro s₃ rfl;clear hY;obtain ⟨I,hI⟩:∃ I:Nat->Shared->Prop,I=fun n s'=>∃ i κ' M' δ' hh us m ac,n=all.length - i/\i<=all.length/\(κ' acc=some (true,bB us m)/\∀ a,a≠acc->a≠acc+1->κ' a=κ a)/\Le M M'/\Mem X.S κ' M' hh s'/\Fra Y κ' M' δ'/\tn i s'.heap/\(∀ b∈fp,bK κ' M' b)/\ac.length<=i/\RepWs X.S M' ac us/\eU g tt te c all (all.drop i) δ' hh ac=some (ws,h'):=⟨_,rfl⟩;refine aB1 I ?_ all.length (by rw [hI];exact ⟨0,_,M,_,h,[],0,[],rfl,Nat.zero_le _,⟨by rw [bL nAC];exact dJ,fun a h1 h2=>by rw [bL h2,bL h1]⟩,.refl,R2,F2,T.keep _ _ _ t0 (fun b _ o e=>old b o e),f2,Nat.le_refl _,.nil,e⟩);intro n s3 hn;rw [hI] at hn;obtain ⟨i,κ3,M3,δ3,h3,us,m,ac,rfl,hle,⟨ka,ko⟩,l3,R3,F3,t3,f3,hac,rac,e3⟩:=hn;have hlen:=rac.length;have back:∀ {κ7 M7 h7 s7},(κ7 acc=some (true,bB us m)/\∀ a,a≠acc->a≠acc+1->κ7 a=κ a)->Mem X.S κ7 M7 h7 s7->Mem X.S κ M7 h7 s7:=fun k R7=>R7.less fun a x q=>by
   rw [k.2 a (fun z=>by rw [z,fA.2.1] at q;cases q) (fun z=>by rw [z,fC.2.1] at q;cases q)];exact q
  cases q:all[i]? with
  | none =>
   have hl:all.length<=i:=List.getElem?_eq_none_iff.mp q;rw [List.drop_of_length_le hl] at e3;obtain ⟨co,e3⟩:=aE (show (if condB c all h3=true then some (ac,h3) else none)=some (ws,h') from e3);cases e3;refine thn (T.done hd R3 l3 f3 t3 hl co) fun r s4 ⟨hr,R4⟩=>?_;subst hr;obtain ⟨mC,hnC,_⟩:=F3.ns (h:=h') (s:=s4) (by rw [eS];exact R4);rw [eL] at hnC;have ho:=(R4.k acc _ _ ka).1 rfl;have za:=(R4.k acc _ _ ka).2.2;obtain ⟨oL,_,kL,_⟩:=F3.loc;rw [eL] at kL;have R5:=back ⟨ka,ko⟩ R4;have fr:bK κ M3 acc:=⟨za,fA.2.1,R4.kc ka⟩;exact hR l3 R5 ho fr ⟨(R4.k _ _ _ kL).2.2,fC.2.1,R4.kc kL⟩ (by omega) rac hnC
  | some x =>
   have hlt:i < all.length:=(List.getElem?_eq_some_iff.mp q).1;rw [yK q] at e3;unfold eU at e3;obtain ⟨co,e3⟩:=aE e3;obtain ⟨⟨δ4,h4⟩,e4,e3⟩:=bind_some e3;obtain ⟨⟨tb,h5⟩,e5,e3⟩:=bind_some e3;refine thn (T.item hd R3 l3 f3 t3 q co) fun r s4 ⟨u,hr,q4⟩=>?_;subst hr;refine thn q4 fun _ s5 ⟨M5,l5,R5,r5,t5,fr5⟩=>?_;have F5:=F3.go l5;rw [<- eS] at R5;have w6:=hg' (R5.pin fr5) (F5.pin fr5) (show RepW Y.S M5 (.d x) u by rw [eS];exact r5) e4;rw [eS,eA] at w6;refine thn w6 fun _ s6 ⟨κ6,M6,o6,l6,R6,F6⟩=>?_;rw [<- eS] at R6;have w7:=ht' R6 F6 e5;rw [eS,eA] at w7;refine thn w7 fun t' s7 ⟨et,M7,l7,R7⟩=>?_;subst et;have notC:∀ a,a≠acc+1->κ6 a=fG κ3 fp s5.heap a:=fun a ha=>by
    by_cases z:κ6 a=fG κ3 fp s5.heap a
    ·exact z
    ·rcases o6 a z with y | y
     ·rw [eL] at y;exact absurd y ha
     ·rw [eF] at y;exact absurd y.1 Bool.false_ne_true
   have k6:κ6 acc=some (true,bB us m):=by
    rw [notC acc nAC];unfold fG;rw [if_neg fun hm=>(hfl acc hm).1 rfl];exact ka
   have kun:∀ κ8:Kp,(∀ a,a≠acc->κ8 a=κ6 a)->∀ a,a≠acc->a≠acc+1->unK fp κ8 a=κ a:=fun κ8 hk a h1 h2=>by
    unfold unK;split
    ·rename_i hm;rw [<- ko a h1 h2];exact (f3 a hm).2.1.symm
    ·rename_i hm;rw [hk a h1,notC a h2];unfold fG;rw [if_neg hm];exact ko a h1 h2
   cases t' with
   | false =>
    obtain ⟨u1,u2,u3,u4,u5⟩:=aJ8 F5 fr5 (T.obj _ _ t5) o6 R7;exact ⟨all.length - (i+1),by omega,by rw [hI];exact ⟨i+1,_,M7,δ4,h5,us,m,ac,rfl,hlt,⟨by unfold unK;rw [if_neg fun hm=>(hfl acc hm).1 rfl];exact k6,kun κ6 fun _ _=>rfl⟩,l3.trans (l5.trans (l6.trans l7)),u2,u5 _ (F6.go l7),T.keep _ _ _ t5 u4,u3,by omega,rac.go (l5.trans (l6.trans l7)),e3⟩⟩
   | true =>
    obtain ⟨⟨y,h8⟩,e8,e3⟩:=bind_some (show (te δ4 h5).bind (fun y=>eU g tt te c all (all.drop (i+1)) δ4 y.2 (ac++[y.1]))=some (ws,h') from e3);rw [<- eS] at R7;have w8:=he' R7 (F6.go l7) e8;rw [eS,eA] at w8;refine thn w8 fun v s8 ⟨M8,l8,R8,r8⟩=>?_;refine aB3 R8 k6 (by omega) fun s9 m9 R9 k9=>?_;have o9:Own Y (fG κ3 fp s5.heap) κ6:=o6;obtain ⟨_,u2,u3,u4,_⟩:=aJ8 (X:=Y) F5 fr5 (T.obj _ _ t5) o9 R8;have u4':∀ b∈fp,∀ o,s5.heap.get? b=some o->s9.heap.get? b=some o:=fun b hb o e=>k9 b o (hfl b hb).1 (u4 b hb o e);have Rn:Mem X.S (unK fp (κ6.up acc (true,bB (us++[v]) m9))) M8 h8 s9:=R9.less fun a x q=>by
     unfold unK at q;split at q
     ·cases q
     ·exact q
    have fn:∀ b∈fp,bK (unK fp (κ6.up acc (true,bB (us++[v]) m9))) M8 b:=fun b hb=>⟨(u3 b hb).1,by unfold unK;rw [if_pos hb],(u3 b hb).2.2⟩;have Fn:Fra Y (unK fp (κ6.up acc (true,bB (us++[v]) m9))) M8 δ4:=(F6.go (l7.trans l8)).kp fun a ha=>by
     have z:=F5.mine ha;have n1:a∉fp:=fun hm=>z (fr5 a hm).2.1;have n2:a≠acc:=fun hz=>by
      rcases ha with y | ⟨x,y⟩
      ·rw [eL] at y;exact nAC (hz.symm.trans y)
      ·obtain ⟨o,vv,q1,q2⟩:=F3.cell x a y;rw [hz,ka] at q1;cases q1;cases q2
     unfold unK;rw [if_neg n1,bL n2]
    have l:=l3.trans (l5.trans (l6.trans (l7.trans l8)));exact ⟨all.length - (i+1),by omega,by rw [hI];exact ⟨i+1,_,M8,δ4,h8,us++[v],m9,ac++[y],rfl,hlt,⟨by unfold unK;rw [if_neg fun hm=>(hfl acc hm).1 rfl];exact dJ,kun _ fun a h1=>bL h1⟩,l,Rn,Fn,T.keep _ _ _ t5 u4',fn,by rw [List.length_append,List.length_singleton];omega,Paired.snoc (rac.go (l5.trans (l6.trans (l7.trans l8)))) r8,e3⟩⟩
 have eEnv:Y.env={ (newEnv sc (acc+1) X.env.globals cl X.env.qual none .none (some X.env) builtinsNs) with scope:=relabel sc X.env }:=by subst hY;rfl
 rw [eEnv] at loop;exact codeAny_compStart_list (loop _ rfl) (T.self X.A 0 _ _ _ (T.keep _ _ _ t0 fun b _ o e=>old b o e) (loop _ rfl))
end
end DL

namespace DL
open PySem PySem.Spec PyProof.Rows L2 CI
section
variable {X:Cx} {st:Sta} {d:Nat} {v:Evs} {κ:Kp} {M:Mp} {δ:DSt} {h h' h2:aA} {s:Shared} {N':List Str} {ixs:List (Option Nat)} {sc:Scope} {a b e tg iter elt:Expr} {es:List Expr} {ifs:List Expr} {pos:Pos} {g:XG} {tt:XR Bool} {te:XR W} {f:XR (List PyData×Option Nat)} {x:Str} {i:Nat} {w:W}
def Mem.drop {S:Sx} {C:Addr} {h3:Heap} (R:Mem S κ M h s) (f:bK κ M C) (k:Heap.SameBut C s.heap h3):Mem S κ M h { s with heap:=h3 }:=R.keep (fun b o e nf=>(k.2 b fun z=>nf (by rw [z];exact f)).trans e) R.bare rfl
def aK1 {all:List PyData} {c:Option Nat} {h1:aA} {ws:List W} (hd:X.A.handled=none) (SC:CompSc X.N N' ixs X.env.scope sc) (hi:SI X tg iter f) (hg:∀ cl C,SG (blk X N' sc cl C) tg g) (ht:∀ cl C,SIf (blk X N' sc cl C) ifs tt) (he:∀ cl C,SE (blk X N' sc cl C) elt te) (hs:∀ x,foldedSetIterable iter X.env x=pure x)
  (R:Mem X.S κ M h s) (F:Fra X κ M δ) (e1:f δ h=some ((all,c),h1)) (e2:eU g tt te c all all (aP ixs δ) h1 []=some (ws,h')):Wp X.S X.A (eval (.ListComp elt [⟨tg,iter,ifs,0⟩] sc pos) X.env) (Pl X.S κ M h' ws) NE s:=by
 obtain ⟨cl,ecl,hcl1,hcl2⟩:=iC (sc:=sc) (env:=X.env) fun y hy hf=>F.ok.has y.1 (SC.free y hy hf);rw [eval_ListComp];refine wpAny_comprehension_free (use:=none) rfl hs ecl SC.kind SC.loc ?_;refine thn (hi R F e1) fun v s1 q1=>thn q1 fun itv s2 q2=>?_;obtain ⟨M2,it,fp,tn,l2,R2,rfl,T,t2,f2,hz⟩:=q2;refine tN (R':=fun acc C=>compPost (model X.S.P X.S.w) X.A NE none (Pl X.S κ M h' ws) acc C) hd SC hcl1 hcl2 hg ht he (F.go l2) R2 T t2 f2 hz e2 fun {s' m M' us n} l R ho fa fc z r hn=>⟨m,hn,fun h3 k3=>?_⟩;exact ⟨M',l2.trans l,R.drop fc k3,_,us,n,rfl,(k3.2 _ (Nat.ne_of_lt (Nat.lt_succ_self _))).trans ho,fa,z,r⟩
def bL0 {all:List PyData} {c:Option Nat} {h1:aA} {ws:List W} {py spos:Pos} (hd:X.A.handled=none) (SC:CompSc X.N N' ixs X.env.scope sc) (hi:SI X tg iter f) (hg:∀ cl C,SG (blk X N' sc cl C) tg g) (ht:∀ cl C,SIf (blk X N' sc cl C) ifs tt) (he:∀ cl C,SE (blk X N' sc cl C) elt te) (hs:∀ x,foldedSetIterable iter X.env x=pure x)
  (R:Mem X.S κ M h s) (F:Fra X κ M δ) (e1:f δ h=some ((all,c),h1)) (e2:eU g tt te c all all (aP ixs δ) h1 []=some (ws,h')) (cv:∀ {κ:Kp} {M:Mp} {u:Value} {s:Shared},Pl X.S κ M h' ws u s->Pw X.S κ M h2 w u s)
  (hiN:X.N[i]?=some x) (hx:X.env.scope.names.lookup x=some .local) (hsw:swapsWith (.ListComp elt [⟨tg,iter,ifs,0⟩] sc pos) (some (.Name x py)) spos.line X.env=pure true):Wp X.S X.A (exec (.Assign [.Name x py] (.ListComp elt [⟨tg,iter,ifs,0⟩] sc pos) spos) X.env) (Ps X κ M h2 (.nx (δ.set i (some w)))) NE s:=by
 obtain ⟨cl,ecl,hcl1,hcl2⟩:=iC (sc:=sc) (env:=X.env) fun y hy hf=>F.ok.has y.1 (SC.free y hy hf);rw [exec_Assign_Name_used _ _ _ _ hsw];refine wpAny_bind (wpAny_standAt (wpAny_bind ?_));show wpAny _ _ (do let _ <- comprehension (.ListComp elt [⟨tg,iter,ifs,0⟩] sc pos) sc X.env _ (newList []) false (eval iter X.env) (some (assign (.Name x py) X.env))) _ _ s;refine wpAny_bind (thn (wpAny_comprehension_free (use:=some (assign (.Name x py) X.env)) (Q:=fun _ s'=>Ps X κ M h2 (.nx (δ.set i (some w))) .next s') rfl hs ecl SC.kind SC.loc ?_) fun _ s' hq=>wpAny_pure (wpAny_pure hq));refine thn (hi R F e1) fun v s1 q1=>thn q1 fun itv s2 q2=>?_;obtain ⟨M2,it,fp,tn,l2,R2,rfl,T,t2,f2,hz⟩:=q2;refine tN (R':=fun acc C=>compPost (model X.S.P X.S.w) X.A NE (some (assign (.Name x py) X.env)) (fun _ s'=>Ps X κ M h2 (.nx (δ.set i (some w))) .next s') acc C) hd SC hcl1 hcl2 hg ht he (F.go l2) R2 T t2 f2 hz e2 fun {s' m M' us n} l R ho fa fc z r hn=>?_;show wpAny _ _ (assign (.Name x py) X.env (.ref s2.heap.objs.size)) _ _ s';generalize eC:s2.heap.objs.size+1=C at fc hn;have nA:s2.heap.objs.size≠C:=by rw [<- eC];exact Nat.ne_of_lt (Nat.lt_succ_self _)
 obtain ⟨oC,es,ep,hoC,hC⟩:=id hn;have RC:=R.more (b:=true) ⟨fc.1,fc.2.2⟩ hoC;have FC:Fra X (κ.up C (true,oC)) M' δ:=((F.go l2).go l).kp fun a ha=>bL fun z=>F.mine ha (by rw [z];exact fc.2.1);obtain ⟨M3,l3,R3,r3⟩:=cv ⟨M',.refl,RC,_,us,n,rfl,ho,⟨fa.1,by rw [bL nA];exact fa.2.1,fa.2.2⟩,z,r⟩;refine wpAny_assign_Name (aI9 (FC.go l3) R3 hiN (.inl hx) (.inr hx) r3 fun s4 κ4 o4 R4 F4 _=>?_);have kC:κ4 C=some (true,oC):=by
  by_cases q:κ4 C=κ.up C (true,oC) C
  ·rw [q];exact dJ
  ·have own:C=X.env.locals\/∃ x,X.env.cells.lookup x=some C:=by
    rcases o4 C q with y | y
    ·exact .inl y
    ·exact .inr y.2
   exact absurd fc.2.1 (F.mine own)
 have h4:=(R4.k C _ _ kC).1 rfl;refine ⟨m,⟨oC,es,ep,h4,hC⟩,fun h5 k5=>⟨unK [C] κ4,M3,fun a ha=>?_,l2.trans (l.trans l3),?_,F4.kp fun a ha=>?_⟩⟩
 ·have na:a≠C:=fun z=>ha (by unfold unK;rw [if_pos (by simp [z]),z];exact fc.2.1.symm);refine o4 a fun q=>ha ?_;unfold unK;rw [if_neg (by simpa using na),q,bL na]
 ·have R5:Mem X.S (unK [C] κ4) M3 h2 s4:=R4.less fun a x q=>by
   unfold unK at q;split at q
   ·cases q
   ·exact q
  exact R5.drop ⟨(R4.k C _ _ kC).2.2,by unfold unK;rw [if_pos (by simp)],R4.kc kC⟩ k5
 ·unfold unK;rw [if_neg fun hm=>F.mine ha (by rw [List.mem_singleton.mp hm];exact fc.2.1)]
def bY8 {S:Sx} {xs:List PyData} {u:Value} (p:Pl S κ M h (xs.map .d) u s):Pf S κ M h xs u s:=let ⟨N,l,R,a,us,n,e1,e2,f,z,r⟩:=p;⟨N,l,R,a,us,n,e1,e2,f,z,show Paired (fun a b=>RepW S N (.d a) b) xs us from tB r⟩
def cO5 {S:Sx} {is:List Nat} {u:Value} (p:Pl S κ M h (is.map .c) u s):Pw S κ M (h++[.r is]) (.c h.length) u s:=by
 obtain ⟨N,l,R,a,us,n,rfl,e,f,z,r⟩:=p;exact ⟨N.cel (a,a),l.trans .cel,R.add f f ⟨⟨_,e⟩,_,e⟩ ⟨us,n,e,z,r.go .cel⟩,(a,a),by show (N.m++[(a,a)])[h.length]?=_;rw [<- R.len];simp,rfl⟩
def lX {N:List Str} {S:Scope} (h:pE N sc S=true):CompSc N (iR sc) (fW N sc) S sc:=by
 unfold pE at h;simp only [Bool.and_eq_true,decide_eq_true_eq,List.all_eq_true] at h;obtain ⟨h1,h2,h3,h4,h5,h6⟩:=h;refine ⟨h1,fun y hy e=>?_,fun y hy e=>?_,fun y hy e=>?_,h5,by unfold fW;rw [List.length_map],?_⟩
 ·have:=h2 y hy;rw [e] at this;simp at this
 ·have:=h3 y hy;rw [e] at this
  simpa using this
 ·have:=h4 y hy;rw [e] at this
  simpa using this
 ·rw [List.all_eq_true];exact h6
def cO (G:Good X st d) (cl:List (Str×Addr)) (C:Addr):Good (blk X (iR sc) sc cl C) (st.blk sc) d:=by
 refine ⟨G.bl,G.gc,G.tk,G.fn,G.fnW,G.cls,G.om,G.fo,rfl,?_,(fun z=>nomatch z),G.rm,fun q z=>nomatch z⟩;show relabel sc X.env=bI6 sc st.S;unfold relabel bI6 Env.kindOf;rw [G.S]
theorem vW (S:Snd v) (G:Good X st d):∀ ifs,SIf X ifs (aV4 v st ifs)
 | []=>fun _ _ _ _ _ _ _ R F e=>by cases e;exact wpAny_tests_nil ⟨rfl,_,.refl,R⟩
 | [c]=>fun _ _ _ _ _ _ _ R F e=>wpAny_tests_one (S.T G c R F e)
 | _::_::_=>fun _ _ _ _ _ _ _ R F e=>by cases e
def rR (h:iQ e=false) (env:Env) (y:Value):foldedSetIterable e env y=pure y:=by
 cases e<;>first | rfl | cases h
def ItS (v:Evs):Prop:=∀ {X:Cx} {st:Sta} {d:Nat},Good X st d->∀ tg iter,SI X tg iter (pD v st tg iter)
def bL1 (S:Snd v) (I:ItS v) (G:Good X st d):SF X (.ListComp elt [⟨tg,iter,ifs,0⟩] sc pos) (kX v st elt tg iter ifs sc):=by
 unfold kX;split
 ·rename_i hc;rw [Bool.and_eq_true] at hc;have hs:iQ iter=false:=by simpa using hc.2
  intro κ M δ h s w h' R F e;obtain ⟨⟨all,c⟩,h1,e1,e⟩:=aF e;exact thn (aK1 G.rm.hd (by rw [G.S,G.N];exact lX hc.1) (I G tg iter) (fun cl C=>S.G (cO G cl C) tg) (fun cl C=>vW S (cO G cl C) ifs) (fun cl C=>S.E (cO G cl C) elt) (rR hs _) R F e1 (iW e)) fun _ _ p=>bY8 p
 ·exact fun _ _ _ _ _ _ _ _ _ e=>by cases e
def pL {f:XR (List PyData)} (hf:SF X e f):SE X e (aS f):=by
 intro κ M δ h s w h' R F e;obtain ⟨⟨xs,h1⟩,e1,e⟩:=bind_some (show (f δ h).bind _=_ from e);cases e;exact thn (hf R F e1) fun _ _ p=>aI0 p
def pO {f:XR (List PyData)} (hf:SF X e f):SE X e (aM f):=by
 intro κ M δ h s w h' R F e;obtain ⟨⟨xs,h1⟩,e1,e⟩:=bind_some (show (f δ h).bind _=_ from e);cases e;exact thn (hf R F e1) fun _ _ p=>rJ p
def fO:SF X e xno:=fun _ _ _ _ _ _ _ _ _ e=>by cases e
def Pf.go {S:Sx} {M M':Mp} {xs:List PyData} {u:Value} (l:Le M M') (p:Pf S κ M' h xs u s):Pf S κ M h xs u s:=let ⟨N,a,b⟩:=p;⟨N,l.trans a,b⟩
theorem bY9 (S:Snd v) (G:Good X st d):SF X (.BinOp a .Add b pos) (xb (v.E st a) fun u=>xb (v.E st b) fun w=>fun _ h=>(match ref h u,ref h w with
  | some (.list xs),some (.list ys)=>if xs.length+ys.length<=sizeLine then some (xs++ys,h) else none
  | _,_=>none)):=by
 intro κ M δ h s w h' R F e;obtain ⟨x,h1,e1,e⟩:=aF e;obtain ⟨y,h2,e2,e⟩:=aF e;refine wpAny_BinOp (thn (S.E G a R F e1) fun u s1 ⟨M1,l1,R1,r1⟩=>thn (S.E G b R1 (F.go l1) e2) fun v s2 ⟨M2,l2,R2,r2⟩=>?_);split at e
 ·rename_i ha hb;obtain ⟨hz,e⟩:=aE e;cases e;obtain ⟨a,us,n,rfl,ea,la,ra'⟩:=cR R2 (r1.go l2) ha;obtain ⟨b,vs,m,rfl,eb,lb,rb'⟩:=cR R2 r2 hb;have k1:=ra'.length;have k2:=rb'.length;refine PySem.P.add_list ea eb ?_ (by rw [List.size_toArray,List.size_toArray];omega);have ea:us.toArray++vs.toArray=(us++vs).toArray:=by simp
  rw [ea];exact Pf.go (l1.trans l2) (R2.lstP (t:=s2.toks) (vL ra' rb') (by rw [List.length_append];omega))
 ·cases e
theorem cO6 (S:Snd v) (G:Good X st d) {lo hi:Option Expr} {p2:Pos}:SF X (.Subscript a (.Slice lo hi none p2) pos) (xb (v.E st a) fun x=>xb (mO v st lo) fun l=>xb (mO v st hi) fun u=>fun _ h=>(match ref h x with
  | some (.list xs)=>some (cut xs l u,h)
  | _=>none)):=by
 intro κ M δ h s w h' R F e;refine bY3 S G (Q:=Pf X.S κ M h') (r:=(w,h')) R F e fun l1 R1 r1 hs pl pu e=>?_;split at e
 ·rename_i ea;cases e;obtain ⟨t,q⟩:=sl_l (A:=X.A) (E:=NE) R1 r1 ea hs pl pu;exact ⟨"list",_,slot_list_getitem.lookup,t,thn q fun _ _ p=>p.go l1⟩
 ·cases e
def bZ0 (S:Snd v) (G:Good X st d) {lo hi:Option Expr} {p2:Pos}:SE X (.Subscript a (.Slice lo hi none p2) pos) (xb (v.E st a) fun x=>xb (mO v st lo) fun l=>xb (mO v st hi) fun u=>fun _ h=>xSl x l u h):=by
 intro κ M δ h s w h' R F e;refine bY3 S G (Q:=Pw X.S κ M h') (r:=(w,h')) R F e fun l1 R1 r1 hs pl pu e=>?_;unfold xSl at e;split at e
 ·cases e;obtain ⟨t,q⟩:=sl_t (A:=X.A) (E:=NE) R1 r1 hs pl pu;exact ⟨"tuple",_,PyProof.Rows.slot_tuple_getitem.lookup,t,thn q fun _ _ p=>p.go l1⟩
 ·split at e
  ·rename_i ea;cases e;obtain ⟨t,q⟩:=sl_l (A:=X.A) (E:=NE) R1 r1 ea hs pl pu;exact ⟨"list",_,slot_list_getitem.lookup,t,thn q fun _ _ p=>(rJ p).go l1⟩
  ·cases e
theorem pQ (its:List Value):∀ (k:Nat) (acc:List Value),List.foldl (fun x1 x2=>x1++x2) acc.toArray (List.replicate k its.toArray)=(acc++(List.replicate k its).flatten).toArray
 | 0,acc=>by simp
 | k+1,acc=>by
  have e:acc.toArray++its.toArray=(acc++its).toArray:=by simp
  have e2:(acc++its)++(List.replicate k its).flatten=acc++(List.replicate (k+1) its).flatten:=by
   rw [List.replicate_succ,List.flatten_cons,List.append_assoc]
  rw [<- e2,<- pQ its k (acc++its),<- e,List.replicate_succ,List.foldl_cons]
def aX0 {α:Type} (xs:List α) (k:Nat):(List.replicate k xs).flatten.length=k*xs.length:=by
 induction k with
 | zero=>simp
 | succ k ih=>rw [List.replicate_succ,List.flatten_cons,List.length_append,ih,Nat.succ_mul,Nat.add_comm]
theorem bZ1 {S:Sx} {xs:List PyData} {us:List Value} (r:Reps' S M xs us):∀ k,Reps' S M (List.replicate k xs).flatten (List.replicate k us).flatten
 | 0=>.nil
 | k+1=>by rw [List.replicate_succ,List.replicate_succ,List.flatten_cons,List.flatten_cons];exact vL r (bZ1 r k)
theorem bZ2 (S:Snd v) (G:Good X st d) {p:Pos}:SF X (.BinOp (.List es p) .Mult b pos) (xb (aS (xPl (aR v st es))) fun u=>xb (v.E st b) fun w=>fun _ h=>(match u,w with
  | .c i,.d (.int k)=>(match h[i]? with
   | some (.l xs)=>if -(2^63)<=k/\k < 2^63/\xs.length*k.toNat<=sizeLine then some ((List.replicate k.toNat xs).flatten,h) else none
   | _=>none)
  | _,_=>none)):=by
 intro κ M δ h s w h' R F e;obtain ⟨x,h1,e1,e⟩:=aF e;obtain ⟨y,h2,e2,e⟩:=aF e;refine wpAny_BinOp (thn (pL (vP S G) R F e1) fun u s1 ⟨M1,l1,R1,r1⟩=>thn (S.E G b R1 (F.go l1) e2) fun v s2 ⟨M2,l2,R2,r2⟩=>?_);rcases x with _ | i
 ·cases e
 rcases y with (_ | _ | k | _ | _ | _ | _) | _<;>first | cases e;done | skip
 dsimp only at e;split at e
 ·rename_i xs ei;obtain ⟨⟨q1,q2,hz⟩,e⟩:=aE e;cases e;obtain ⟨t,rfl⟩:=wi.mp r2;obtain ⟨p,ep,rfl⟩:=r1.go l2;obtain ⟨us,n,ho,hl,rr⟩:=R2.cel i p _ ep ei;have hlen:=rr.length;have hsz:us.toArray.size*k.toNat<=sizeLine:=by rw [List.size_toArray,<- hlen];exact hz
  have hcap:¬ us.toArray.size*k.toNat > (2^63 - 1) / 8:=by
   have:(sizeLine:Nat)<=(2^63 - 1) / 8:=by decide
   omega
  have hfit:¬ (!Builtin.List.listFitsIndex k)=true:=by rw [fitsIndex_both q1 q2];exact Bool.false_ne_true
  have hlong:¬ Builtin.List.listTooLong (us.toArray.size*k.toNat)=true:=by
   unfold Builtin.List.listTooLong;rw [decide_eq_false (by omega)];exact Bool.false_ne_true
  have hnew:List.foldl (fun x1 x2=>x1++x2) #[] (List.replicate (if us.toArray.isEmpty=true then 0 else k.toNat) us.toArray)=(List.replicate k.toNat us).flatten.toArray:=by
   have f0:∀ m:Nat,List.foldl (fun x1 x2=>x1++x2) #[] (List.replicate m us.toArray)=(List.replicate m us).flatten.toArray:=fun m=>by
    have:=pQ us m [];rw [List.nil_append] at this;exact this
   rw [f0];cases us with
   | nil=>simp
   | cons a r'=>rw [if_neg (by simp)]
  refine wpAny_binaryOp_repeat_ref (T:="list") (U:="int") (by decide) ⟨_,ho,rfl⟩ (fun s'=>typeIs_int s' k t) noFill_list_mul PySem.F.fills_int_mul PySem.F.slot_int_rmul repeat_list PySem.F.slot_int_index.lookup
   (call_meets PySem.F.slot_int_rmul (typeIs_int s2 k t) PySem.F.entry_int_rmul (PySem.F.args_int_rmul_2 _ _) (int___rmul___int_list k t p.1 us.toArray n)
    ⟨ho,rfl,⟨_,ho,rfl⟩,call_meets PySem.F.slot_list_mul ⟨_,ho,rfl⟩ PySem.F.entry_list_mul (PySem.F.args_list_mul_2 _ _) (AutoListH.list___mul___list_int_3 p.1 us.toArray n k t hfit hcap hlong) ⟨ho,?_⟩⟩)
  rw [hnew];exact Pf.go (l1.trans l2) (R2.lstP (t:=s2.toks) (n:=0) (bZ1 rr k.toNat) (by rw [aX0,Nat.mul_comm,<- hlen];exact hz))
 ·cases e
end
end DL

namespace DL
open PySem PySem.Spec PyProof.Rows L2 CI
section
variable {S:Sx} {κ:Kp} {M:Mp} {h h':aA} {s:Shared} {A:Around} {E:Value->Shared->Prop} {d:Nat}
def Room.deeper {k:Nat} (r:Room (k+1) A) (env:Env):Room k (A.deeper env) :=
 ⟨r.hd,by have:=r.dp;show A.depth+1+3*k+5 < _;omega,by have:=r.un;show A.units+3+16*k+200 < _;omega⟩
def vX {C:Addr} {us:List Value} {kw:List (Str×Value)}:(A.under (.builtin "type.__call__" ⟨.ref C::us,kw⟩)).depth=A.depth+1:=by
 first | rfl | simp [Around.under,Code.weight,Code.isCreation,Code.isGuard,Code.isCaller,Code.frames,Code.isFrame,guardIds]
def vY {C:Addr} {us:List Value} {kw:List (Str×Value)}:(A.under (.builtin "type.__call__" ⟨.ref C::us,kw⟩)).units=A.units+1:=by
 first | rfl | simp [Around.under,Code.cUnits,Code.frames,Code.isFrame]
def Room.make {k:Nat} (r:Room (k+1) A) (C:Addr) (us:List Value) (kw:List (Str×Value)):Room k (A.under (.builtin "type.__call__" ⟨.ref C::us,kw⟩)) :=
 ⟨r.hd,by have:=r.dp;rw [vX];omega,by have:=r.un;rw [vY];omega⟩
def aK2 {f:Addr} {fd:FuncData} {ps:List Str} {m:XFW} {us:List Value} {ws:List W} {w:W} (F:FnS S d f fd ps m) (hr:Room d A) (hb:dP S.K fd ps) (md:Mod S) (hz:S.base.objs.size<=s.heap.objs.size) (R:Mem S κ M h s) (r:RepWs S M ws us) (e:m ws h=some (w,h')):Wp S A (call (.ref f) us) (Pw S κ M h' w) E s:=by
 have hl:us.length=ps.length:=by rw [<- r.length];exact F.len _ _ _ e
 refine wpAny_call (codeAny_mono (F.run (args:=⟨us,[]⟩) hr md hz R (hb s us (md.kin.keeps R.bk) hl) r e) fun r s' ⟨u,hq,p⟩=>?_);subst hq;exact p
def Mem.made {C:Addr} (R:Mem S κ M h s):Mem S κ (M.cel (s.heap.objs.size+1,s.heap.objs.size)) (h++[.o C []]) { s with heap:=(s.heap.push PySem.W.emptyDict).push (PySem.W.instObj C s.heap.objs.size) }:=by
 have e1:(s.heap.push PySem.W.emptyDict).get? s.heap.objs.size=some PySem.W.emptyDict:=Heap.get?_push_size s.heap rfl;have e1':=Heap.get?_push_of_some (PySem.W.instObj C s.heap.objs.size) e1;have e2:((s.heap.push PySem.W.emptyDict).push (PySem.W.instObj C s.heap.objs.size)).get? (s.heap.objs.size+1)=some (PySem.W.instObj C s.heap.objs.size):=by
  have:=Heap.get?_push_size (s.heap.push PySem.W.emptyDict) (o:=PySem.W.instObj C s.heap.objs.size) rfl
  rwa [Heap.size_push] at this
 have e3:(s.heap.push PySem.W.emptyDict).Ns s.heap.objs.size (fun _=>none):=⟨PySem.W.emptyDict,#[],_,e1,rfl,(fun e he=>absurd he (by simp)),fun _=>rfl⟩;have R1:Mem S κ M h { s with heap:=(s.heap.push PySem.W.emptyDict).push (PySem.W.instObj C s.heap.objs.size) }:=R.kept (t:=s.toks) fun b o e=>Heap.get?_push_of_some _ (Heap.get?_push_of_some _ e);refine R1.add (p:=(s.heap.objs.size+1,s.heap.objs.size)) (R.new (Heap.get?_none_of_le (Nat.le_succ _))) R.size ⟨⟨_,e2⟩,_,e1'⟩ ?_;exact ⟨Nat.ne_of_lt (Nat.lt_succ_self _),Nat.zero_le _,e2,fun _=>none,(Heap.Ns1.of_empty e3).at fun o q=>Heap.get?_push_of_some _ q,fun _=>True.intro,fun y hy=>absurd rfl hy⟩
def aK3 {k:Nat} {C f:Addr} {fd:FuncData} {ps:List Str} {m:XFW} {us:List Value} {ws:List W} {w:W} (K:Mk S.K C f) (F:FnS S k f fd ps m) (hr:Room (k+1) A) (hb:dP S.K fd ps) (md:Mod S) (hz:S.base.objs.size<=s.heap.objs.size) (R:Mem S κ M h s) (r:RepWs S M ws us) (e:xMk C m ws h=some (w,h')):Wp S A (call (.ref C) us) (Pw S κ M h' w) E s:=by
 obtain ⟨⟨w1,h1⟩,e1,e⟩:=bind_some (show (m (.c h.length::ws) (h++[.o C []])).bind _=_ from e);have R2:=R.made (C:=C);have ez:(M.cel (s.heap.objs.size+1,s.heap.objs.size)).m[h.length]?=some (s.heap.objs.size+1,s.heap.objs.size):=by show (M.m++[_])[h.length]?=_;rw [<- R.len];simp
 have r2:RepWs S (M.cel (s.heap.objs.size+1,s.heap.objs.size)) (.c h.length::ws) (Value.ref (s.heap.objs.size+1)::us):=.cons ⟨_,ez,rfl⟩ (r.go .cel);have hl:(Value.ref (s.heap.objs.size+1)::us).length=ps.length:=by rw [<- r2.length];exact F.len _ _ _ e1
 have kin:=md.kin.keeps R.bk;refine wpAny_call (aJ1 (f:=f) kin K.makes K.init (beq_iff_eq.mp K.fn) (codeAny_mono (F.run (args:=⟨Value.ref (s.heap.objs.size+1)::us,[]⟩) (hr.make C us []) md (by rw [Heap.size_push,Heap.size_push];omega) R2 (hb _ _ (md.kin.keeps R2.bk) hl) r2 e1) fun r s' ⟨u,hq,M3,l3,R3,r3⟩=>?_));subst hq;rcases w1 with (_ | _ | _ | _ | _ | _ | _) | _<;>first | cases e;done | skip
 cases e;exact ⟨wn.mp r3,M3,Le.trans .cel l3,R3,⟨_,l3.at ez,rfl⟩⟩
theorem pU (f g:Str) (w:W):∀ fs:List (Str×W),(dY f w fs).lookup g=if g=f then some w else fs.lookup g
 | []=>by
  show List.lookup g [(f,w)]=_
  by_cases h:g=f
  ·have hb:(g==f)=true:=beq_iff_eq.mpr h;simp only [List.lookup,hb,if_pos h]
  ·have hb:(g==f)=false:=beq_eq_false_iff_ne.mpr h;simp only [List.lookup,hb,if_neg h]
 | (k,x)::r=>by
  have ih:=pU f g w r;rw [show dY f w ((k,x)::r)=(if k=f then (k,w)::r else (k,x)::dY f w r) from rfl]
  by_cases hk:k=f
  ·rw [if_pos hk]
   by_cases h:g=k
   ·have hb:(g==k)=true:=beq_iff_eq.mpr h;simp only [List.lookup,hb,if_pos (h.trans hk)]
   ·have hb:(g==k)=false:=beq_eq_false_iff_ne.mpr h;simp only [List.lookup,hb,if_neg (fun e:g=f=>h (e.trans hk.symm))]
  ·rw [if_neg hk]
   by_cases h:g=k
   ·have hb:(g==k)=true:=beq_iff_eq.mpr h;simp only [List.lookup,hb,if_neg (fun e:g=f=>hk (h.symm.trans e))]
   ·have hb:(g==k)=false:=beq_eq_false_iff_ne.mpr h;simp only [List.lookup,hb];exact ih
theorem pV (f:Str) (w:W):∀ fs:List (Str×W),f∈(dY f w fs).map (·.1)/\(∀ g,g∈fs.map (·.1)->g∈(dY f w fs).map (·.1))/\(dY f w fs).length<=fs.length+1
 | []=>⟨by simp [dY],fun g h=>by simp at h,by simp [dY]⟩
 | (k,x)::r=>by
  obtain ⟨i1,i2,i3⟩:=pV f w r;rw [show dY f w ((k,x)::r)=(if k=f then (k,w)::r else (k,x)::dY f w r) from rfl]
  by_cases hk:k=f
  ·rw [if_pos hk];subst hk;exact ⟨by simp,fun g h=>by simpa using h,by rw [List.length_cons,List.length_cons];omega⟩
  ·rw [if_neg hk];refine ⟨?_,fun g h=>?_,by rw [List.length_cons,List.length_cons];omega⟩
   ·rw [List.map_cons];exact List.mem_cons_of_mem _ i1
   ·rw [List.map_cons] at h ⊢;rcases List.mem_cons.mp h with e | e
    ·exact List.mem_cons.mpr (.inl e)
    ·exact List.mem_cons_of_mem _ (i2 g e)
def aB4 {w:W} {u:Value} (r:RepW S M w u):PySem.W.handedIn u=true:=by
 cases w with
 | c i=>obtain ⟨p,_,rfl⟩:=r;rfl
 | d x =>
  cases x with
  | none=>cases wn.mp r;rfl
  | bool b=>cases wb.mp r;rfl
  | int i=>obtain ⟨t,rfl⟩:=wi.mp r;rfl
  | str x=>obtain ⟨⟨t,rfl⟩,_⟩:=rep_s.mp (show Rep S M.Z _ _ from r);rfl
  | list x=>obtain ⟨a,_,_,rfl,_⟩:=rep_l.mp (show Rep S M.Z _ _ from r);rfl
  | tuple x=>obtain ⟨a,_,_,rfl,_⟩:=rep_t.mp (show Rep S M.Z _ _ from r);rfl
  | dict x=>obtain ⟨a,_,_,rfl,_⟩:=rep_d.mp (show Rep S M.Z _ _ from r);rfl
def rS {i:Nat} {p:Addr×Addr} {C:Addr} {fs:List (Str×W)} (R:Mem S κ M h s) (ep:M.m[i]?=some p) (ei:h[i]?=some (.o C fs)):∃ mA,ObjM s.heap p.1 p.2 C mA/\(∀ f,RelO S M (fs.lookup f) (mA f))/\PySem.Within mA (fs.map (·.1))/\fs.length<=1000:=by
 obtain ⟨ne,z,ob,mA,n,r,q⟩:=R.cel i p _ ep ei;exact ⟨mA,⟨ob,n,ne⟩,r,q,z⟩
def RelO.some_of {w:W} {o:Option Value} (r:RelO S M (some w) o):∃ u,o=some u/\RepW S M w u:=by
 cases o with
 | none=>exact (show False from r).elim
 | some u=>exact ⟨u,rfl,r⟩
def RelO.none_of {o:Option Value} (r:RelO S M none o):o=none:=by
 cases o with
 | none=>rfl
 | some u=>exact (show False from r).elim
def vZ {b:Bool} {i:Nat} {p:Addr×Addr} {C:Addr} {fs:List (Str×W)} {f:Str} {w:W} (kin:S.K.In S.base) (R:Mem S κ M h s) (ep:M.m[i]?=some p) (ei:h[i]?=some (.o C fs)) (c:Cls S.K C) (n:NoAttr S.K C f) (l:fs.lookup f=some w):Wp S A (getAttr (.ref p.1) f b) (Pw S κ M h w) E s:=by
 obtain ⟨mA,O,r,_⟩:=rS R ep ei;obtain ⟨u,hu,ru⟩:=RelO.some_of (w:=w) (o:=mA f) (by rw [<- l];exact r f);exact aW4 (kin.keeps R.bk) O (c.get f) c.hd n hu (aB4 ru) ((R.tok _).pw ru)
def wA {i:Nat} {p:Addr×Addr} {C:Addr} {fs:List (Str×W)} {f:Str} {w:W} {u:Value} {Q:Unit->Shared->Prop} (kin:S.K.In S.base) (R:Mem S κ M h s) (ep:M.m[i]?=some p) (ei:h[i]?=some (.o C fs)) (c:Cls S.K C) (n:NoAttr S.K C f) (hl:fs.length < 1000) (rw':RepW S M w u)
  (q:∀ s',Mem S κ M (h.set i (.o C (dY f w fs))) s'->Q () s'):Wp S A (setAttr (.ref p.1) f u) Q E s:=by
 obtain ⟨mA,O,r,wi,_⟩:=rS R ep ei;have hz:(fs.map (·.1)).length<=sizeLine:=by rw [List.length_map,sizeLine_eq];omega
 refine aW5 (kin.keeps R.bk) O c.sa c.po n.taker c.hd wi hz fun h' O' sb=>q _ ?_;have hd:∃ o,h'.get? p.2=some o:=let ⟨o,_,_,e',_⟩:=O'.ns;⟨o,e'⟩
 obtain ⟨k1,k2,k3⟩:=pV f w fs;refine R.wr ep (fun b o _ n2 q=>(sb.2 b n2).trans q) ⟨⟨_,O'.obj⟩,hd⟩ R.bare rfl ⟨O.ne,by omega,O'.obj,_,O'.ns,fun g=>?_,fun g hg=>?_⟩
 ·show RelO S M ((dY f w fs).lookup g) (if g=f then some u else mA g);rw [pU]
  by_cases q:g=f
  ·rw [if_pos q,if_pos q];exact rw'
  ·rw [if_neg q,if_neg q];exact r g
 ·by_cases q:g=f
  ·rw [q];exact k1
  ·refine k2 g (wi g fun z=>hg ?_);show (if g=f then some u else mA g)=none;rw [if_neg q];exact z
def Mem.lset {i:Nat} {p:Addr×Addr} {us us':List Value} {n t:Nat} {c:Cell} {f:Array Value->Array Value} (R:Mem S κ M h s) (ei:M.m[i]?=some p) (e:s.heap.get? p.1=some (bB us n)) (hf:f us.toArray=us'.toArray)
  (x:∀ (h2:Heap) (n':Nat),h2.get? p.1=some (bB us' n')->CellOk S M h2 p c):Mem S κ M (h.set i c) { s with heap:=s.heap.update p.1 (Obj.mapSeq f),toks:=t }:=by
 have q:=PySem.IsL.update e f;rw [hf] at q;obtain ⟨_,_,o2,ho2⟩:=R.off p (List.mem_of_getElem? ei) p.2 (.inr rfl);refine R.wr ei (fun b o n1 _ q=>(Heap.get?_update_other _ _ (Ne.symm n1)).trans q) ⟨⟨_,q⟩,?_⟩ R.bare rfl (x _ _ q)
 by_cases hq:p.2=p.1
 ·exact ⟨_,by rw [hq];exact q⟩
 ·exact ⟨o2,(Heap.get?_update_other _ _ (Ne.symm hq)).trans ho2⟩
def bL2 {i:Nat} {p:Addr×Addr} {xs:List PyData} {x:PyData} {u:Value} (R:Mem S κ M h s) (ep:M.m[i]?=some p) (ei:h[i]?=some (.l xs)) (hz:xs.length < sizeLine) (rx:Rep S M.Z x u):Wp S A (call (.builtin "list.append") [.ref p.1,u]) (Pw S κ M (h.set i (.l (xs++[x]))) (.d .none)) E s:=by
 obtain ⟨us,n,e,hl,r⟩:=R.cel i p _ ep ei;have hlen:=r.length;refine call_meets F.slot_list_append ⟨_,e,rfl⟩ F.entry_list_append (F.args_list_append_2 _ _) (PySem.list_append p.1 us.toArray n u (by rw [List.size_toArray];omega)) ⟨e,?_⟩;exact (R.lset (t:=s.toks) (us':=us++[u]) (c:=.l (xs++[x])) ep e (by simp) fun h2 n' e'=>⟨_,n',e',by rw [List.length_append,List.length_singleton];omega,Paired.snoc r rx⟩).pn
theorem pW {α:Type}:∀ (l:List α) (i:Nat),(l.eraseIdx i).length<=l.length
 | [],_=>Nat.le_refl _
 | _::_,0=>Nat.le_succ _
 | _::r,i+1=>Nat.succ_le_succ (pW r i)
def bL3 {i j:Nat} {p:Addr×Addr} {xs:List PyData} {x:PyData} {k:Int} {t:Tok} (R:Mem S κ M h s) (ep:M.m[i]?=some p) (ei:h[i]?=some (.l xs)) (ej:ixN xs.length k=some j) (ex:xs[j]?=some x) (h1:-(2^63)<=k) (h2:k < 2^63):Wp S A (call (.builtin "list.pop") [.ref p.1,.int k t]) (Pw S κ M (h.set i (.l (xs.eraseIdx j))) (.d x)) E s:=by
 obtain ⟨us,n,e,hl,r⟩:=R.cel i p _ ep ei;have hlen:=r.length;obtain ⟨u,hu,ru⟩:=hU r ex;refine call_meets F.slot_list_pop ⟨_,e,rfl⟩ F.entry_list_pop (F.args_list_pop_2 _ _)
  (MeetsSeq.list_pop_at p.1 us.toArray n k t j u (fitsIndex_both h1 h2) (by rw [List.size_toArray,<- hlen];exact (rK ej).1) (by rw [<- Array.getElem?_toList];exact hu) (by rw [List.size_toArray];omega)) ⟨e,?_⟩
 have R1:=R.lset (t:=s.toks) (us':=us.eraseIdx j) (c:=.l (xs.eraseIdx j)) (f:=(·.eraseIdxIfInBounds j)) ep e (by show us.toArray.eraseIdxIfInBounds j=_;rw [List.eraseIdxIfInBounds_toArray]) fun h2 n' e'=>⟨_,n',e',Nat.le_trans (pW us j) hl,aG6 j r⟩;exact R1.pw ru
def bL4 {i:Nat} {p:Addr×Addr} {xs ys:List PyData} {b:Addr} {vs:List Value} {m:Nat} (R:Mem S κ M h s) (ep:M.m[i]?=some p) (ei:h[i]?=some (.l xs)) (eb:s.heap.get? b=some (bB vs m)) (rb:Reps' S M ys vs) (hz:xs.length+ys.length<=sizeLine) :
  Wp S A (call (.builtin "list.extend") [.ref p.1,.ref b]) (Pw S κ M (h.set i (.l (xs++ys))) (.d .none)) E s:=by
 obtain ⟨us,n,e,hl,r⟩:=R.cel i p _ ep ei;have h1:=r.length;have h2:=rb.length;have hsz:us.toArray.size+vs.toArray.size<=sizeLine:=by rw [List.size_toArray,List.size_toArray];omega
 have hlong:¬ (!us.toArray.isEmpty&&Builtin.List.listTooLong (us.toArray.size+vs.toArray.size))=true:=by
  unfold Builtin.List.listTooLong;rw [decide_eq_false (by omega),Bool.and_false];exact Bool.false_ne_true
 refine call_meets F.slot_list_extend ⟨_,e,rfl⟩ F.entry_list_extend (F.args_list_extend_2 _ _)
  (AutoSeq1.list_extend_list_list_0 p.1 us.toArray n b vs.toArray m hlong (by rw [List.size_toArray];omega) (by omega)) ⟨e,eb,?_⟩
 exact (R.lset (t:=s.toks) (us':=us++vs) (c:=.l (xs++ys)) ep e (by simp) fun h2 n' e'=>⟨_,n',e',by rw [List.length_append];omega,vL r rb⟩).pn
def aK4 {x:W} {xs:List PyData} {z:PyData} {u v:Value} {j:Nat} (hr:Room d A) (R:Mem S κ M h s) (r1:RepW S M (.d (.list xs)) u) (r2:RepW S M (.d z) v) (hp:(aI 64 (.list xs)&&aI 64 z)=true) (ej:xs.findIdx? (fun y=>PyData.eqv y z)=some j):Wp S A (call (.builtin "list.index") [u,v]) (Pw S κ M h (.d (.int j))) E s:=by
 rw [Bool.and_eq_true] at hp;obtain ⟨⟨as,z1⟩,s1⟩:=oO (h:=h) R r1 rfl hp.1;obtain ⟨⟨bs,z2⟩,s2⟩:=oO (h:=h) R r2 rfl hp.2;obtain ⟨p,us,n,rfl,ho,hz,rr⟩:=cR (h:=h) R r1 rfl;cases z1 with
 | @list _ o items m _ _ h1 h2 h3 h4 =>
  rw [ho] at h1;cases h1;injection h3 with h3 _
  subst h3;have cl:=SeqAt.canLay_of_shaped s1;rw [PyData.canLay0] at cl;have em:=SeqAt.readsAll_map xs _ _ cl h4;have hl:=rr.length;obtain ⟨hjl,hit,hno⟩:=List.findIdx?_eq_some_iff_getElem.mp ej;have sz:us.toArray.size=us.length:=List.size_toArray;have at_:∀ (m:Nat) (hm:m < us.toArray.size) (hm':m < xs.length),SeqAt.readOf s.heap us.toArray[m]=xs[m]:=fun m hm hm'=>by
   have:xs[m]?=(us.toArray.toList.map (SeqAt.readOf s.heap))[m]?:=by rw [em]
   rw [List.getElem?_map,List.getElem?_eq_getElem hm',Array.getElem?_toList,Array.getElem?_eq_getElem hm] at this;exact (Option.some.inj this).symm
  have hsl:(sizeLine:Int) < 2^63 - 1:=by decide
  refine call_meets PySem.F.slot_list_index ⟨_,ho,rfl⟩ PySem.F.entry_list_index (PySem.F.args_list_index_2 _ _)
   (SeqAt.list_indexAt p us.toArray n none #[] v (fun y=>PyData.eqv (SeqAt.readOf s.heap y) z) j (by omega) (by omega) ?_ ?_) ⟨ho,SeqAt.items_eqAt h4 z2 cl (SeqAt.canLay_of_shaped s2) ?_,R.pi⟩
  ·show PyData.eqv (SeqAt.readOf s.heap us.toArray[j]) z=true;rw [at_ j (by omega) hjl];exact hit
  ·intro m hm hmj;show PyData.eqv (SeqAt.readOf s.heap us.toArray[m]) z=false;rw [at_ m hm (by omega)];exact Bool.eq_false_iff.mpr (hno m hmj)
  ·exact room_in_shaped (xs:=xs) (A:=A) s2 hr.u65
end
def aK5 {prog:Program} {w:World} {A:Around} {E:Value->Shared->Prop} {s:Shared} {env:Env} {o:Expr} {name:Str} {apos pos:Pos} {args:List Expr} {Q:Value->Shared->Prop}
  (hbase:attributeBase o name env (eval o env)=eval o env)
  (hfew:((backTo pos (starEach args env)).all (fun x=>!x.1)&&(backToKw pos (keywordEach [] env)).all (fun x=>x.1.isSome)&&decide (args.length+([]:List Keyword).length+(if ([]:List Keyword).isEmpty then 0 else 1) < 30))=true)
  (hline:(apos.endLine==pos.line)=true)
  (h:wpAny (model prog w) A (eval o env) (fun ov s₁=>∀ pl,wpAny (model prog w) A (getMethod ov name pl) (fun fx s₂=>wpAny (model prog w) A (callWith pos fx.1 fx.2 (backTo pos (starEach args env)) (backToKw pos (keywordEach [] env))) Q E s₂) E s₁) E s) :
  wpAny (model prog w) A (eval (.Call (.Attribute o name apos) args [] pos) env) Q E s:=by
 rw [arm_eval_Call,hbase];refine wpAny_bind (wpAny_mono h (fun ov s₁ h₁=>?_) fun _ _ e=>e);refine wpAny_bind (wpAny_standAt ?_);have hform:methodCallForm (args.length+([]:List Keyword).length) (backTo pos (starEach args env)) (backToKw pos (keywordEach [] env))=true:=hfew;have hpos:methodCallPos true o env apos pos=pure pos:=by unfold methodCallPos;simp [hline]
 unfold methodCall;rw [hform];exact wpAny_bind (wpAny_holding (wpAny_mono (h₁ _) (fun fx s₂ h₂=>wpAny_bind (wpAny_of_eq hpos h₂)) fun _ _ x=>x))
section
variable {X:Cx} {st:Sta} {d:Nat} {v:Evs} {κ:Kp} {M:Mp} {δ:DSt} {h h':aA} {s:Shared} {a o:Expr} {es:List Expr} {pos p apos:Pos} {x m:Str} {w:W}
def Fra.kin (F:Fra X κ M δ):X.S.K.In X.S.base:=F.ok.mod.kin
theorem yO (S:Snd v) (G:Good X st d) (l:List Nat):∀ (es:List Expr) (n:Nat),SA X es (hZ v st l n es)
 | [],n=>fun pos _ _ _ _ _ _ _ R F e=>by cases e;exact Calls.spliced_nil ⟨_,.refl,R,.nil⟩
 | a::es,n=>by
  intro pos κ M δ h s ws h' R F e;have e:(if aG a=true then xb (if (l.contains n&&!aH1 a)=true then aS (v.F st a) else v.E st a) fun w=>xb (hZ v st l (n+1) es) fun ws=>aC (w::ws) else xno) δ h=some (ws,h'):=e
  by_cases hs:aG a=true
  ·rw [if_pos hs] at e;obtain ⟨x,h1,e1,e⟩:=aF e;obtain ⟨y,h2,e2,e⟩:=aF e;cases e;have ha:SE X a (if (l.contains n&&!aH1 a)=true then aS (v.F st a) else v.E st a):=by
    split
    ·exact pL (S.F G a)
    ·exact S.E G a
   rw [bW a hs];show Wp _ _ (spliced ((false,eval a X.env)::backTo pos (starEach es X.env))) _ _ s;refine Calls.spliced_cons (thn (ha R F e1) fun u s1 ⟨M1,l1,R1,r1⟩=>?_);exact thn (yO S G l es (n+1) pos R1 (F.go l1) e2) fun us s2 ⟨M2,l2,R2,r2⟩=>⟨M2,l1.trans l2,R2,.cons (r1.go l2) r2⟩
  ·rw [if_neg hs] at e;cases e
theorem mZ {v:Evs} {st:Sta} {l:List Nat}:∀ {es:List Expr} {n:Nat} {δ:DSt} {h:aA} {r:List W×aA},hZ v st l n es δ h=some r->es.all aG=true
 | [],_,_,_,_,_=>rfl
 | a::es,n,δ,h,r,e=>by
  have e:(if aG a=true then xb (if (l.contains n&&!aH1 a)=true then aS (v.F st a) else v.E st a) fun w=>xb (hZ v st l (n+1) es) fun ws=>aC (w::ws) else xno) δ h=some r:=e
  by_cases hs:aG a=true
  ·rw [if_pos hs] at e;obtain ⟨x,h1,e1,e⟩:=aF e;obtain ⟨y,h2,e2,e⟩:=aF e;rw [List.all_cons,hs,mZ e2];rfl
  ·rw [if_neg hs] at e;cases e
def aK6 {m:XFW} {fa:XR (List W)} (G:Good X st d) (ht:cJ st x=true) (hm:FnG X.S d x m) (hA:SA X (a::es) fa) (hstar:∀ {δ h r},fa δ h=some r->(a::es).all aG=true):SE X (.Call (.Name x p) (a::es) [] pos) (xb fa fun ws=>fun _ h=>m ws h):=by
 intro κ M δ h s w h' R F e;obtain ⟨hn,hg⟩:=mV G ht;obtain ⟨ws,h1,e1,e⟩:=aF e;have hst:=hstar e1;rw [List.all_cons,Bool.and_eq_true] at hst;rcases hm with z | ⟨f,fd,ps,mg,kp,hb,FF⟩
 ·rw [z] at e;cases e
 refine wpAny_Call_Name_kw (iU F R hg mg hn ?_);refine PySem.W.callWith_K (h₀:=X.S.base) F.kin kp (thn (hA pos R F e1) fun us s1 ⟨M1,l1,R1,r1⟩=>⟨F.kin.keeps R1.bk,?_⟩) (bW a hst.1) (cC pos es hst.2);exact thn (aK2 FF G.rm hb F.ok.mod ((F.go l1).size R1) R1 r1 e) fun _ _ q=>q.go l1
def bZ3 (S:Snd v) (G:Good X st d) {m:XFW} (ht:cJ st x=true) (hm:FnG X.S d x m):SE X (.Call (.Name x p) (a::es) [] pos) (xb (aR v st (a::es)) fun ws=>fun _ h=>m ws h):=aK6 G ht hm (cN S G _) cY
def cO7 (S:Snd v) (G:Good X st d) {C:Addr} {m:XFW} (ht:cJ st x=true) (hm:st.ob.cls x=some (C,m)):SE X (.Call (.Name x p) (a::es) [] pos) (xb (aR v st (a::es)) fun ws=>fun _ h=>xMk C m ws h):=by
 intro κ M δ h s w h' R F e;obtain ⟨hn,hg⟩:=mV G ht;obtain ⟨ws,h1,e1,e⟩:=aF e;have hst:=cY e1;rw [List.all_cons,Bool.and_eq_true] at hst;rcases G.cls _ _ _ hm with z | ⟨k,f,fd,ps,hk,K,FF,mg,hb⟩
 ·unfold xMk at e;rw [z] at e;cases e
 refine wpAny_Call_Name_kw (iU F R hg mg hn ?_);refine PySem.W.callWith_K (h₀:=X.S.base) F.kin K.kp (thn (cN S G _ pos R F e1) fun us s1 ⟨M1,l1,R1,r1⟩=>⟨F.kin.keeps R1.bk,?_⟩) (bW a hst.1) (cC pos es hst.2);exact thn (aK3 K FF (G.rm.mono hk) hb F.ok.mod ((F.go l1).size R1) R1 r1 e) fun _ _ q=>q.go l1
theorem tO (env:Env) (cpos:Pos):∀ (es:List Expr),es.all aG=true->(backTo cpos (starEach es env)).all (fun x=>!x.1)=true
 | [],_=>rfl
 | e::es,h=>by
  rw [List.all_cons,Bool.and_eq_true] at h;have t:starEach (e::es) env=(false,eval e env)::starEach es env:=by
   have h1:=h.1;cases e<;>first | rfl | cases h1
  rw [t];exact tO env cpos es h.2
def wB (hs:(a::es).all aG=true) (hl:(a::es).length < 29) (env:Env) (cpos:Pos) :
  ((backTo cpos (starEach (a::es) env)).all (fun x=>!x.1)&&(backToKw cpos (keywordEach [] env)).all (fun x=>x.1.isSome)
   && decide ((a::es).length+([]:List Keyword).length+(if ([]:List Keyword).isEmpty then 0 else 1) < 30))=true:=by
 rw [tO _ _ _ hs];have:(a::es).length+0+0 < 30:=by omega
 show (true&&true&&decide _)=true;simp only [Bool.true_and,decide_eq_true_eq];exact this
def lY (ho:fN o=true) (m:Str) (env:Env):attributeBase o m env (eval o env)=eval o env:=by
 cases o<;>first | rfl | cases ho
def aB5 (ho:aH6 o=true) (m:Str) (env:Env):attributeBase o m env (eval o env)=eval o env:=by
 cases o<;>first | rfl | (cases ho;done) | skip
 rename_i f a k p;cases f<;>first | (cases ho;done) | skip
 cases a<;>first | (cases ho;done) | skip
 cases k<;>first | (cases ho;done) | rfl
def cO8 (S:Snd v) (G:Good X st d) {C:Addr} {g:XFW} (hm:st.ob.om m=some (C,g)) (ho:aH6 o=true) (hl:(apos.endLine==pos.line)=true) (hn:(a::es).length < 29) (hst:(a::es).all aG=true) :
  SE X (.Call (.Attribute o m apos) (a::es) [] pos) (xMo v st o m C g (a::es)):=by
 intro κ M δ h s w h' R F e;obtain ⟨x,h1,e1,e⟩:=aF e;have hst':=hst;rw [List.all_cons,Bool.and_eq_true] at hst';rcases x with _ | j
 ·cases e
 dsimp only at e;split at e
 ·rename_i C' fs ej;obtain ⟨⟨hC,hlk⟩,e5⟩:=aE e;clear e;subst hC;obtain ⟨⟨ws,h2⟩,e2,e⟩:=bind_some e5;rcases G.om _ _ _ hm with z | ⟨c,f,fd,ps,hM,FF,hb⟩
  ·rw [z] at e;cases e
  refine aK5 (aB5 ho _ _) (wB hst hn _ _) hl (thn (S.E G o R F e1) fun u s1 ⟨M1,l1,R1,r1⟩ pl=>?_);obtain ⟨p,ep,rfl⟩:=id r1;obtain ⟨mA,O,r,_⟩:=rS R1 ep ej;refine aJ0 (F.kin.keeps R1.bk) O (c.get m) hM.at_ hM.fn (RelO.none_of (by rw [<- hlk];exact r m)) ?_;refine PySem.W.callWith_K (first:=[.ref p.1]) (h₀:=X.S.base) F.kin hM.kp (thn (cN S G _ pos R1 (F.go l1) e2) fun us s2 ⟨M2,l2,R2,r2⟩=>⟨F.kin.keeps R2.bk,?_⟩) (bW a hst'.1) (cC pos es hst'.2);exact thn (aK2 (us:=.ref p.1::us) FF G.rm hb F.ok.mod (((F.go l1).go l2).size R2) R2 (.cons (r1.go l2) r2) e) fun _ _ q=>q.go (l1.trans l2)
 ·cases e
def bZ4 (S:Snd v) (G:Good X st d) {f:Str} (ho:fN o=true):SE X (.Attribute o f pos) (bW3 v st o f):=by
 intro κ M δ h s w h' R F e;obtain ⟨x,h1,e1,e⟩:=aF e;refine Attribute_any_ (thn (S.E G o R F e1) fun u s1 ⟨M1,l1,R1,r1⟩=>?_) (by rw [arm_eval_Attribute,lY ho]);rcases x with _ | j
 ·cases e
 dsimp only at e;split at e
 ·rename_i C fs ej;obtain ⟨hf,e⟩:=aE e;obtain ⟨w2,e3,e4⟩:=map_some e;cases e4;obtain ⟨h5,h6⟩:=G.fo C f hf;obtain ⟨p,ep,rfl⟩:=r1;exact thn (vZ F.kin R1 ep ej h5 h6 e3) fun _ _ q=>q.go l1
 ·cases e
theorem bZ5 (S:Snd v) (G:Good X st d) {f:Str} {b:Expr} {fb:XR W} (hb:SE X b fb) (hs:swapsWith b (some (.Attribute o f apos)) pos.line X.env=pure false):SS X (.Assign [.Attribute o f apos] b pos) fun δ h=>(fb δ h).bind fun p=>(v.E st o δ p.2).bind fun q=>match q.1 with
 | .c j=>(match q.2[j]? with
  | some (.o C fs)=>if st.ob.fo C f=true/\fs.length < 1000 then some (.nx δ,q.2.set j (.o C (dY f p.1 fs))) else none
  | _=>none)
 | _=>none:=by
 intro κ M δ h s fl h' R F e;obtain ⟨⟨w,h1⟩,e1,e⟩:=bind_some e;obtain ⟨⟨x,h2⟩,e2,e⟩:=bind_some e;refine plainObj_wpAny_Assign_Attribute (thn (hb R F e1) fun u s1 ⟨M1,l1,R1,r1⟩=>thn (S.E G o R1 (F.go l1) e2) fun ov s2 ⟨M2,l2,R2,r2⟩=>?_) hs;rcases x with _ | j
 ·cases e
 dsimp only at e;split at e
 ·rename_i C fs ej;obtain ⟨⟨hf,hlt⟩,e⟩:=aE e;cases e;obtain ⟨h5,h6⟩:=G.fo C f hf;obtain ⟨p,ep,rfl⟩:=r2;exact wA F.kin R2 ep ej h5 h6 hlt (r1.go l2) fun s3 R3=>⟨κ,M2,.refl,l1.trans l2,R3,F.go (l1.trans l2)⟩
 ·cases e
def nB (S:Snd v) (G:Good X st d) {f:Value} {ws:List W} {h1:aA} {Q:Value->Shared->Prop} (hx:(cJ st x&&(slot st x).isNone&&st.bl.contains x)=true) (hv:bootBuiltins x=some f) (hf:(∃ i,f=.builtin i)\/∃ i,f=.type i) (R:Mem X.S κ M h s) (F:Fra X κ M δ) (e:aR v st (a::es) δ h=some (ws,h1))
  (q:∀ {M1 us s1},Le M M1->Mem X.S κ M1 h1 s1->RepWs X.S M1 ws us->Wp X.S X.A (call f us) Q NE s1):Wp X.S X.A (eval (.Call (.Name x p) (a::es) [] pos) X.env) Q NE s:=by
 obtain ⟨h1,h2,h3⟩:=cZ G hx;have hst:=cY e;rw [List.all_cons,Bool.and_eq_true] at hst;refine wpAny_Call_Name_kw (cX F R h2 h3 hv h1 ?_);rcases hf with ⟨i,rfl⟩ | ⟨i,rfl⟩
 ·exact PyProof.Rows.callWith_builtin1 (thn (cN S G _ pos R F e) fun us s1 ⟨M1,l1,R1,r1⟩=>q l1 R1 r1) (bW a hst.1) (cC pos es hst.2)
 ·exact PyProof.Rows.callWith_type1 (thn (cN S G _ pos R F e) fun us s1 ⟨M1,l1,R1,r1⟩=>q l1 R1 r1) (bW a hst.1) (cC pos es hst.2)
def lZ (F:Fra X κ M δ) (R:Mem X.S κ M h s):(s.heap.objs.size==sysModules)=false:=by
 have h:mainGlobals < s.heap.objs.size:=(F.ok.mod.glob.keeps R.bk).lt;have:sysModules < s.heap.objs.size:=Nat.lt_trans (by decide) h;exact beq_eq_false_iff_ne.mpr (Nat.ne_of_gt this)
def bZ6 (S:Snd v) (G:Good X st d) {f:Value} {g:List W->aA->Option (W×aA)} (hx:(cJ st x&&(slot st x).isNone&&st.bl.contains x)=true) (hv:bootBuiltins x=some f) (hf:(∃ i,f=.builtin i)\/∃ i,f=.type i) (hg:BfS X.S f g):SE X (.Call (.Name x p) (a::es) [] pos) (xb (aR v st (a::es)) fun ws=>fun _ h=>g ws h):=by
 intro κ M δ h s w h' R F e;obtain ⟨ws,h1,e1,e⟩:=aF e;exact nB S G hx hv hf R F e1 fun l1 R1 r1=>thn (hg G.rm F.kin (lZ (F.go l1) R1) R1 r1 e) fun _ _ q=>q.go l1
def Walks.raw {prog:Program} {w:World} {A:Around} (hh:A.handled=none) (I d:Addr) (hne:d≠I) (es:Array DictEntry) (ep:Nat) :
  Walks prog w A I [I,d] [I] es.size (fun i v=>∃ en,es[i]?=some en/\v=en.key) (fun i h=>h.IsKeyIter I d i es.size ep/\aJ9 h d es ep) where
 sub:=fun b hb=>by simp at hb;simp [hb]
 frame:=fun _ _ _ st hk=>⟨st.1.at fun o e=>hk I (by simp) o e,let ⟨o,e,r⟩:=st.2;⟨o,hk d (by simp) o e,r⟩⟩
 item:=fun i s Q E hi st hQ=>by
  obtain ⟨en,hx⟩:∃ p,es[i]?=some p:=⟨es[i],by simp [hi]⟩;refine vU st.1 st.2 (fun z=>by rw [hx] at z;cases z) (fun en' e' h' hit' hs'=>?_) (fun z=>by rw [hx] at z;cases z);exact hQ _ h' s.toks ⟨en',e',rfl⟩ ⟨hit',let ⟨o,e,r⟩:=st.2;⟨o,(hs'.2 d hne).trans e,r⟩⟩ fun b o hb e=>hs'.extBut b o (fun h=>hb (by simp [h])) e
 done:=fun s Q E st hQ=>vU st.1 st.2 (fun _=>hh) (fun en z=>by simp at z) fun _ h' he'=>hQ h' s.toks fun b o hb e=>he' b o (fun h=>hb (by simp [h])) e
 self:=fun _ _ _ _ st hQ=>wpAny_pyIter_keyiter st.1 hQ
def aX1 {prog:Program} {w:World} {d:Addr} {es:Array DictEntry} {ep:Nat} (lo:(d==sysModules)=false):PySem.W.KdlSrc prog w "dict" d d es.size (fun i v=>∃ en,es[i]?=some en/\v=en.key) (fun h=>aJ9 h d es ep) where
 type:=fun _ ⟨o,e,c,_⟩=>⟨o,e,c.1⟩
 there:=fun _ ⟨o,e,_⟩=>⟨Heap.lt_size e,Heap.lt_size e⟩
 keep:=fun _ _ ⟨o,e,r⟩ hk=>⟨o,hk d (.inl rfl) o e,r⟩
 notList:=by decide
 notTuple:=by decide
 hint:=fun _ _ _ _ ⟨o,e,c,_⟩ hq=>PySem.W.kdl_hint_dict ⟨o,e,c.1⟩ hq
 iter:=fun _ _ hh hm=>⟨_,_,(fun _ _ hq=>vT lo hm hq),Walks.raw hh _ d (let ⟨_,e,_⟩:=hm;Nat.ne_of_lt (Heap.lt_size e)) es ep,⟨⟨_,Heap.get?_push_size _ rfl,rfl,rfl⟩,let ⟨o,e,r⟩:=hm;⟨o,Heap.get?_push_of_some _ e,r⟩⟩⟩
theorem pX {α β:Type} {F:α->β->Prop}:∀ (l:List α) (r:List β),l.length=r.length->(∀ (i:Nat) a b,l[i]?=some a->r[i]?=some b->F a b)->Paired F l r
 | [],[],_,_=>.nil
 | [],_::_,h,_=>by simp at h
 | _::_,[],h,_=>by simp at h
 | a::l,b::r,h,k=>.cons (k 0 a b rfl rfl) (pX l r (by simpa using h) fun i x y e1 e2=>k (i+1) x y (by simpa using e1) (by simpa using e2))
def aX2 {S:Sx} {A:Around} {E:Value->Shared->Prop} {u:Value} {x:W} {kvs:List (PyData×PyData)} (hh:A.handled=none) (R:Mem S κ M h s) (r:RepW S M x u) (e:hW x h=some kvs):Wp S A (call (.type "list") [u]) (Pf S κ M h (kvs.map (·.1))) E s:=by
 obtain ⟨i,p,xs,rfl,ep,ei,rfl,dd,rr,hs,hz⟩:=yI R r e;obtain ⟨o,es,epo,h1,h2,h3,h4,_,_⟩:=dd;have hes:es.size=xs.length:=size_of_entries h4;refine PySem.W.kdl_call (aX1 (es:=es) (ep:=epo) hs) hh ⟨o,h1,h2,h3⟩ (by omega) fun h' tk acc c k hD hacc=>?_;have hl:=rr.length;refine ⟨M,.refl,R.kept (t:=tk) k,_,acc.toList,c,rfl,by show h'.get? _=some { cls:=.type "list",data:=.seq acc.toList.toArray c };rw [Array.toArray_toList];exact hD,R.size,by rw [Array.length_toList,hacc.1];omega,?_⟩;refine xY (pX _ _ (by rw [Array.length_toList (xs:=acc),hacc.1];omega) fun j q v e1 e2=>?_);rw [Array.getElem?_toList] at e2;obtain ⟨en,e3,rfl⟩:=hacc.2 j v e2;obtain ⟨y,e4,e5⟩:=hU rr e1;rw [entry_at h4,e4] at e3;cases e3;exact e5.2.1
theorem bZ7 (S:Snd v) (G:Good X st d) (hx:(cJ st "list"&&(slot st "list").isNone&&st.bl.contains "list")=true):SF X (.Call (.Name "list" p) (a::es) [] pos) (xb (aR v st (a::es)) fun ws=>fun _ h=>(match ws with
  | [w]=>(match ref h w with
   | some (.list xs)=>some (xs,h)
   | some (.tuple xs)=>some (xs,h)
   | none=>(hW w h).map fun kvs=>(kvs.map (·.1),h)
   | _=>none)
  | _=>none)):=by
 intro κ M δ h s w h' R F e;obtain ⟨ws,h1,e1,e⟩:=aF e;refine nB (f:=.type "list") S G hx (by decide +kernel) (.inr ⟨_,rfl⟩) R F e1 fun {M1 us s1} l1 R1 r1=>?_;rcases ws with _ | ⟨x,_ | ⟨_,_⟩⟩
 ·cases e
 ·obtain ⟨u,rfl,ru⟩:=w1 r1;dsimp only at e;split at e
  ·rename_i ex;cases e;exact thn (aI5 R1 ru (.inl ex)) fun _ _ q=>q.go l1
  ·rename_i ex;cases e;exact thn (aI5 R1 ru (.inr ex)) fun _ _ q=>q.go l1
  ·obtain ⟨kvs,ek,e⟩:=map_some e;cases e;exact thn (aX2 G.rm.hd R1 ru ek) fun _ _ q=>q.go l1
  ·cases e
 ·cases e
def aX3 {T:Str} {Ts:String} (h:aV3 T=some Ts):bootBuiltins T=some (.type Ts)/\mU Ts:=by
 unfold aV3 at h;split at h
 ·rename_i e;cases h;subst e;exact ⟨by decide +kernel,aW2⟩
 split at h
 ·rename_i e;cases h;subst e;exact ⟨by decide +kernel,aI6⟩
 split at h
 ·rename_i e;cases h;subst e;exact ⟨by decide +kernel,aW3⟩
 split at h
 ·rename_i e;cases h;subst e;exact ⟨by decide +kernel,aA9⟩
 split at h
 ·rename_i e;cases h;subst e;exact ⟨by decide +kernel,aI7⟩
 ·cases h
def bZ8 (S:Snd v) (G:Good X st d) {T:Str} {Ts:String} {q:Pos} (hx:(cJ st "isinstance"&&(slot st "isinstance").isNone&&st.bl.contains "isinstance")=true) (hs:aG a=true) (hT:(cJ st T&&(slot st T).isNone&&st.bl.contains T)=true) (ht:aV3 T=some Ts) :
  SE X (.Call (.Name "isinstance" p) [a,.Name T q] [] pos) (xb (v.E st a) fun w=>fun _ h=>(ref h w).bind fun d=>some (.d (.bool (isi d Ts)),h)):=by
 intro κ M δ h s w h' R F e;obtain ⟨x,h1,e1,e⟩:=aF e;obtain ⟨z,ez,e⟩:=bind_some e;cases e;obtain ⟨n1,n2,n3⟩:=cZ G hx;obtain ⟨m1,m2,m3⟩:=cZ G hT;obtain ⟨hb,hk⟩:=aX3 ht;refine wpAny_Call_Name_kw (cX (u:=.builtin "isinstance") F R n2 n3 (by decide +kernel) n1 ?_);refine PyProof.Rows.callWith_builtin1 ?_ (bW a hs) (cC pos [.Name T q] rfl);rw [bW a hs];show Wp _ _ (spliced ((false,eval a X.env)::backTo pos (starEach [.Name T q] X.env))) _ _ s;refine Calls.spliced_cons (thn (S.E G a R F e1) fun u s1 ⟨M1,l1,R1,r1⟩=>?_);rw [bW (X:=X) (es:=[]) (.Name T q) rfl];show Wp _ _ (spliced ((false,eval (.Name T q) X.env)::[])) _ _ s1;refine Calls.spliced_cons (cX (F.go l1) R1 m2 m3 hb m1 (Calls.spliced_nil ?_));exact thn (bJ9 F.kin hk R1 r1 ez) fun _ _ q=>q.go l1
def rT (S:Snd v) (G:Good X st d) {id:String} {x:W} {h1 h2:aA} {ws:List W} {Q:Value->Shared->Prop} (slot:Slot "list" m id) (hty:typeOf (.builtin id)=pure (.type "method_descriptor")) (ho:fN o=true) (hl:(apos.endLine==pos.line)=true) (hn:(a::es).length < 29)
  (R:Mem X.S κ M h s) (F:Fra X κ M δ) (e1:v.E st o δ h=some (x,h1)) (et:(∃ xs,DL.ref h1 x=some (.list xs))\/∃ i xs,x=.c i/\h1[i]?=some (.r xs)) (e2:aR v st (a::es) δ h1=some (ws,h2))
  (q:∀ {M2 u us s2},Le M M2->Mem X.S κ M2 h2 s2->RepW X.S M2 x u->RepWs X.S M2 ws us->Wp X.S X.A (call (.builtin id) (u::us)) Q NE s2):Wp X.S X.A (eval (.Call (.Attribute o m apos) (a::es) [] pos) X.env) Q NE s:=by
 have hst:=cY e2;have hst':=hst;rw [List.all_cons,Bool.and_eq_true] at hst';refine wpAny_Call_method_late (lY ho _ _) (wB hst hn _ _) hl rfl (thn (S.E G o R F e1) fun u s1 ⟨M1,l1,R1,r1⟩=>?_);have ty:∃ b us n,u=.ref b/\s1.heap.get? b=some (bB us n):=by
  obtain ⟨xs,ex⟩ | ⟨i,xs,rfl,ei⟩:=et
  ·obtain ⟨b,us,n,rfl,ho,_⟩:=cR R1 r1 ex;exact ⟨b,us,n,rfl,ho⟩
  ·obtain ⟨p,ep,rfl⟩:=r1;obtain ⟨us,n,ho,_⟩:=R1.cel i p _ ep ei;exact ⟨_,us,n,rfl,ho⟩
 obtain ⟨b,us,n,rfl,hob⟩:=ty;refine ⟨"list",id,PySem.F.plainAttrs_list,slot,hty,(cK hob).isList.typeIs,fun c ec=>by cases ec;exact ⟨_,hob,rfl⟩,?_⟩;have hA:=cN S G _ pos R1 (F.go l1) e2;rw [bW a hst'.1] at hA ⊢;refine Calls.callWith_builtin (by show (false||(backTo pos (starEach es X.env)).any (·.1))=false;rw [cC pos es hst'.2]<;>rfl) (Calls.evalArgs_plain ?_);exact thn hA fun us s2 ⟨M2,l2,R2,r2⟩=>q (l1.trans l2) R2 (r1.go l2) r2
end
end DL

namespace PySem
open PyProof.Rows
section
variable {prog:Program} {w:World} {A:Around} {E:Value->Shared->Prop} {s:Shared}
def iX {it t:Addr} {i:Nat} {items:Array Value} {x:Value} {Q:Value->Shared->Prop} (hit:s.heap.IsTupleIter it t i) (hl:s.heap.IsTuple t items) (hx:items[i]?=some x)
  (hQ:∀ h',h'.IsTupleIter it t (i+1)->Heap.SameBut it s.heap h'->Q x { s with heap:=h' }):wpAny (model prog w) A (Builtin.SmallTypes.nextOf (.ref it)) Q E s:=by
 obtain ⟨o,ho,hc,hd⟩:=id hit;obtain ⟨ol,hol,hlc,nl,hdl⟩:=hl;unfold Builtin.SmallTypes.nextOf;refine wpAny_bind (wpAny_callSpecial?_slot (hit.typeIs) F.slot_tuple_iterator_next (wpAny_call_entry F.slot_tuple_iterator_next hit.typeIs F.entry_tuple_iterator_next ?_ (F.args_tuple_iterator_next_1 _)));refine wpAny_bind (wpAny_pure (a:=(Value.ref it,[])) ?_);refine wpAny_bind (wpAny_field ho hd rfl ?_);rw [if_neg (by exact Bool.false_ne_true)];refine wpAny_bind (wpAny_field ho hd rfl ?_);refine wpAny_bind (wpAny_seqItems hol hdl ?_);show wpAny _ _ (match items[((i:Int)).toNat]? with | some x=>_ | none=>_) _ _ _;rw [Int.toNat_natCast,hx];refine wpAny_bind (wpAny_setField ho hd (by simp) ?_);refine wpAny_pure ⟨x,rfl,wpAny_pure (hQ _ ⟨_,Heap.get?_update_self _ ho (Obj.isFreed_of_fields (Obj.data_mapFields hd _)),(Obj.cls_mapFields o _).trans hc,?_⟩ (Heap.SameBut.update _ _ _))⟩;rw [Obj.data_mapFields hd];rfl
def jZ {it t:Addr} {i:Nat} {items:Array Value} {Q:Value->Shared->Prop} (hh:A.handled=none) (hit:s.heap.IsTupleIter it t i) (hl:s.heap.IsTuple t items) (hx:items[i]?=none)
  (hE:∀ h' e,Heap.ExtBut it s.heap h'->(∃ o,h'.get? e=some o/\o.cls=.type "StopIteration")->E (.ref e) { s with heap:=h' }):wpAny (model prog w) A (Builtin.SmallTypes.nextOf (.ref it)) Q E s:=by
 obtain ⟨o,ho,hc,hd⟩:=id hit;obtain ⟨ol,hol,hlc,nl,hdl⟩:=hl;unfold Builtin.SmallTypes.nextOf;refine wpAny_bind (wpAny_callSpecial?_slot (hit.typeIs) F.slot_tuple_iterator_next (wpAny_call_entry F.slot_tuple_iterator_next hit.typeIs F.entry_tuple_iterator_next ?_ (F.args_tuple_iterator_next_1 _)));refine wpAny_bind (wpAny_pure (a:=(Value.ref it,[])) ?_);refine wpAny_bind (wpAny_field ho hd rfl ?_);rw [if_neg (by exact Bool.false_ne_true)];refine wpAny_bind (wpAny_field ho hd rfl ?_);refine wpAny_bind (wpAny_seqItems hol hdl ?_);show wpAny _ _ (match items[((i:Int)).toNat]? with | some x=>_ | none=>_) _ _ _;rw [Int.toNat_natCast,hx];refine wpAny_bind (wpAny_rule ?_);refine wpAny_bind (wpAny_setField ho hd (by simp) ?_);unfold Builtin.SmallTypes.stopIteration newExc;refine wpAny_bind (wpAny_bind (wpAny_newObj_type ?_ (by show (([]:List Value).toArray.size<=sizeLine);simp)));refine wpAny_bind (wpAny_pure (a:=Value.none) ?_);refine wpAny_newObj_type ?_ (sizeOk_excFields ..);unfold raiseNew;refine wpAny_bind (wpAny_handled ?_);rw [show A.in1.handled=none from hh];refine wpAny_throw (hE _ _ (fun b o' hb e=>?_) ⟨_,Heap.get?_push_size _ rfl,rfl⟩);refine Heap.get?_push_of_some _ (Heap.get?_push_of_some _ ?_);rw [(Heap.SameBut.update s.heap it _).2 b hb];exact e
noncomputable def SqAt:Bool->Heap->Addr->Array Value->Prop
 | true,h,l,xs=>h.IsTuple l xs
 | false,h,l,xs=>h.IsList l xs
noncomputable def ItAt:Bool->Heap->Addr->Addr->Nat->Prop
 | true,h,it,l,k=>h.IsTupleIter it l k
 | false,h,it,l,k=>h.IsListIter it l k
def iY (b:Bool) (l:Addr):Obj:={ cls:=.type (if b=true then "tuple_iterator" else "list_iterator"),data:=.fields #[.ref l,.int 0 0] }
def SqAt.keep {b:Bool} {h h':Heap} {l:Addr} {xs:Array Value} (x:SqAt b h l xs) (k:∀ o,h.get? l=some o->h'.get? l=some o):SqAt b h' l xs:=by
 cases b<;>exact let ⟨o,h1,h2⟩:=x;⟨o,k o h1,h2⟩
def ItAt.keep {b:Bool} {h h':Heap} {it l:Addr} {i:Nat} (x:ItAt b h it l i) (k:∀ o,h.get? it=some o->h'.get? it=some o):ItAt b h' it l i:=by
 cases b<;>exact let ⟨o,h1,h2⟩:=x;⟨o,k o h1,h2⟩
def ItAt.new {b:Bool} {h:Heap} {it l:Addr} (e:h.get? it=some (iY b l)):ItAt b h it l 0:=by
 cases b<;>exact ⟨_,e,rfl,rfl⟩
def dU {b:Bool} {l:Addr} {xs:Array Value} {Q:Value->Shared->Prop} (hl:SqAt b s.heap l xs) (h:Q (.ref s.heap.objs.size) { s with heap:=s.heap.push (iY b l) }):wpAny (model prog w) A (pyIter (.ref l)) Q E s:=by
 cases b
 ·exact wpAny_pyIter_list hl h
 ·exact wpAny_pyIter_tuple hl h
def eV {b:Bool} {it l:Addr} {i:Nat} {items:Array Value} {x:Value} {Q:Value->Shared->Prop} (hit:ItAt b s.heap it l i) (hl:SqAt b s.heap l items) (hx:items[i]?=some x)
  (hQ:∀ h',ItAt b h' it l (i+1)->Heap.SameBut it s.heap h'->Q x { s with heap:=h' }):wpAny (model prog w) A (Builtin.SmallTypes.nextOf (.ref it)) Q E s:=by
 cases b
 ·exact wpAny_nextOf_list_item hit hl hx hQ
 ·exact iX hit hl hx hQ
def iD {b:Bool} {it l:Addr} {i:Nat} {items:Array Value} {Q:Value->Shared->Prop} (hh:A.handled=none) (hit:ItAt b s.heap it l i) (hl:SqAt b s.heap l items) (hx:items[i]?=none)
  (hE:∀ h' e,Heap.ExtBut it s.heap h'->(∃ o,h'.get? e=some o/\o.cls=.type "StopIteration")->E (.ref e) { s with heap:=h' }):wpAny (model prog w) A (Builtin.SmallTypes.nextOf (.ref it)) Q E s:=by
 cases b
 ·exact wpAny_nextOf_list_end hh hit hl hx hE
 ·exact jZ hh hit hl hx hE
abbrev zH1 (b:Bool) (h:Heap) (l1:Addr):Heap:=h.push (iY b l1)
abbrev zH2 (b c:Bool) (h:Heap) (l1 l2:Addr):Heap:=(zH1 b h l1).push (iY c l2)
abbrev zH3 (b c:Bool) (h:Heap) (l1 l2:Addr):Heap:=(zH2 b c h l1 l2).push { cls:=.type "tuple",data:=.seq #[.ref h.objs.size,.ref (zH1 b h l1).objs.size] }
abbrev zH4 (b c:Bool) (h:Heap) (l1 l2:Addr):Heap:=(zH3 b c h l1 l2).push { cls:=.type "tuple",data:=.seq #[.none,.none] }
abbrev zH5 (b c:Bool) (h:Heap) (l1 l2:Addr):Heap:=(zH4 b c h l1 l2).push { cls:=.type "zip",data:=.fields #[.none,.bool false,.bool false,.ref (zH2 b c h l1 l2).objs.size,.ref (zH3 b c h l1 l2).objs.size] }
def aX4 (b c:Bool) (l1 l2:Addr) (xs ys:Array Value):Meets (Builtin.«zip.__new__» { pos:=[.type "zip",.ref l1,.ref l2] }) fun _ R s=>SqAt b s.heap l1 xs/\SqAt c s.heap l2 ys /\
  R (.ok (.ret (.ref (zH4 b c s.heap l1 l2).objs.size))) { s with heap:=zH5 b c s.heap l1 l2 }:=by
 refine Meets.of_wp fun prog w A R s h=>?_;obtain ⟨h1,h2,h⟩:=h;unfold Builtin.«zip.__new__»;refine wpAny_bind (wpAny_pure (a:=(Value.type "zip",[Value.ref l1,Value.ref l2])) ?_);dsimp only;rw [if_neg (by decide)];refine wpAny_bind ?_;unfold Builtin.SmallTypes.iterAll;refine wpAny_bind ?_;rw [List.forIn_cons];refine wpAny_bind (wpAny_bind (wpAny_holding (dU h1 (wpAny_pure ?_))));dsimp only;rw [List.forIn_cons];refine wpAny_bind (wpAny_bind (wpAny_holding (dU (h2.keep fun o e=>Heap.get?_push_of_some _ e) (wpAny_pure ?_))));dsimp only;rw [List.forIn_nil];refine wpAny_pure (wpAny_pure ?_);refine wpAny_bind (wpAny_newObj_type ?_ (by show (_:Array Value).size<=sizeLine;simp [sizeLine_eq]));refine wpAny_bind (wpAny_newObj_type ?_ (by show (_:Array Value).size<=sizeLine;simp [sizeLine_eq]));refine wpAny_bind ?_;unfold Builtin.SmallTypes.newRecord;refine wpAny_newObj_type (wpAny_pure ⟨_,rfl,h⟩) ?_;simp [sizeOk,Builtin.SmallTypes.ownedTupleFields,sizeLine_eq]
def aK7 {b c:Bool} {l1 l2:Addr} {xs ys:Array Value} {Q:Value->Shared->Prop} (h1:SqAt b s.heap l1 xs) (h2:SqAt c s.heap l2 ys)
  (h:∀ h',IsZip h' (s.heap.objs.size+4) (s.heap.objs.size+2) (s.heap.objs.size+3) .none->IsPair h' (s.heap.objs.size+2) (.ref s.heap.objs.size) (.ref (s.heap.objs.size+1))->IsPair h' (s.heap.objs.size+3) .none .none ->
   ItAt b h' s.heap.objs.size l1 0->ItAt c h' (s.heap.objs.size+1) l2 0->h'.objs.size=s.heap.objs.size+5->(∀ a o,s.heap.get? a=some o->h'.get? a=some o)->Q (.ref (s.heap.objs.size+4)) { s with heap:=h' }) :
  wpAny (model prog w) A (call (.type "zip") [.ref l1,.ref l2]) Q E s:=by
 have z1:(zH1 b s.heap l1).objs.size=s.heap.objs.size+1:=Heap.size_push ..;have z2:(zH2 b c s.heap l1 l2).objs.size=s.heap.objs.size+2:=by rw [zH2,Heap.size_push,z1]
 have z3:(zH3 b c s.heap l1 l2).objs.size=s.heap.objs.size+3:=by rw [zH3,Heap.size_push,z2]
 have z4:(zH4 b c s.heap l1 l2).objs.size=s.heap.objs.size+4:=by rw [zH4,Heap.size_push,z3]
 have z5:(zH5 b c s.heap l1 l2).objs.size=s.heap.objs.size+5:=by rw [zH5,Heap.size_push,z4]
 have g5:(zH5 b c s.heap l1 l2).get? (zH4 b c s.heap l1 l2).objs.size=_:=Heap.get?_push_size _ rfl;have g4:(zH5 b c s.heap l1 l2).get? (zH3 b c s.heap l1 l2).objs.size=_:=Heap.get?_push_of_some _ (Heap.get?_push_size _ rfl);have g3:(zH5 b c s.heap l1 l2).get? (zH2 b c s.heap l1 l2).objs.size=_:=Heap.get?_push_of_some _ (Heap.get?_push_of_some _ (Heap.get?_push_size _ rfl));have g2:(zH5 b c s.heap l1 l2).get? (zH1 b s.heap l1).objs.size=_:=Heap.get?_push_of_some _ (Heap.get?_push_of_some _ (Heap.get?_push_of_some _ (Heap.get?_push_size _ rfl)));have g1:(zH5 b c s.heap l1 l2).get? s.heap.objs.size=_:=Heap.get?_push_of_some _ (Heap.get?_push_of_some _ (Heap.get?_push_of_some _ (Heap.get?_push_of_some _ (Heap.get?_push_size _ rfl))));refine callType_new F.called_zip (by decide) (F.typeCall_zip_2 _ _) (F.newCall_zip_2 _ _) (fun obj=>F.args_object_init_3 obj _ _) F.entry_zip_new (aX4 b c l1 l2 xs ys) ⟨h1,h2,?_⟩;have q:=h (zH5 b c s.heap l1 l2) (by rw [z4,z3,z2] at g5;exact g5) (by rw [z2,z1] at g3;exact g3) (by rw [z3] at g4;exact g4) (.new g1) (.new (by rw [z1] at g2;exact g2)) z5
  (fun a o e=>Heap.get?_push_of_some _ (Heap.get?_push_of_some _ (Heap.get?_push_of_some _ (Heap.get?_push_of_some _ (Heap.get?_push_of_some _ e)))))
 rw [<- z4] at q;exact ⟨⟨_,g5,rfl⟩,q⟩
def rU {h:Heap} {z TI TO:Addr} {f0 x:Value} (hz:IsZip h z TI TO f0):IsZip (h.update z (Obj.mapFields fun a=>a.setIfInBounds 0 x)) z TI TO x:=by
 refine (Heap.get?_update_self _ hz (Obj.isFreed_of_fields (Obj.data_mapFields rfl _))).trans ?_;rfl
def aK8 {h:Heap} {z TI TO:Addr} {f0:Value} (hz:IsZip h z TI TO f0):IsZip (h.update z (Obj.mapFields fun a=>a.setIfInBounds 1 (.bool false))) z TI TO f0:=by
 refine (Heap.get?_update_self _ hz (Obj.isFreed_of_fields (Obj.data_mapFields rfl _))).trans ?_;rfl
structure ZApart (z TI TO i1 i2:Addr):Prop where
 TIz:TI≠z
 TOz:TO≠z
 i1z:i1≠z
 i2z:i2≠z
 TITO:TI≠TO
 TOi1:TO≠i1
 TOi2:TO≠i2
 TIi1:TI≠i1
 TIi2:TI≠i2
 i12:i1≠i2
def aB6 {b c:Bool} {z TI TO i1 i2 l1 l2:Addr} {k:Nat} {xs ys:Array Value} {x y u v:Value} {Q:Value->Shared->Prop} (D:ZApart z TI TO i1 i2) (hz:IsZip s.heap z TI TO .none) (hTI:IsPair s.heap TI (.ref i1) (.ref i2)) (hTO:IsPair s.heap TO u v)
  (h1:ItAt b s.heap i1 l1 k) (h2:ItAt c s.heap i2 l2 k) (q1:SqAt b s.heap l1 xs) (q2:SqAt c s.heap l2 ys) (nz1:l1≠z) (nz2:l2≠z) (nT2:l2≠TO) (n21:l2≠i1) (hx:xs[k]?=some x) (hy:ys[k]?=some y)
  (hQ:∀ h',IsZip h' z TI TO (rawInt s.heap.objs.size)->IsPair h' TO x y->ItAt b h' i1 l1 (k+1)->ItAt c h' i2 l2 (k+1)->IsPair h' s.heap.objs.size x y->h'.objs.size=s.heap.objs.size+1 ->
   (∀ a o,a≠z->a≠TO->a≠i1->a≠i2->s.heap.get? a=some o->h'.get? a=some o)->Q (.ref s.heap.objs.size) { s with heap:=h' }) :
  wpAny (model prog w) A (Builtin.«zip.__next__» { pos:=[.ref z] }) (fun fin s'=>∃ v,fin=Fin.done (.ret v)/\Q v s') E s:=by
 unfold Builtin.«zip.__next__»;refine wpAny_bind (wpAny_pure (a:=(Value.ref z,[])) ?_);refine wpAny_bind (wpAny_field hz rfl rfl ?_);refine wpAny_bind (wpAny_field hz rfl rfl ?_);refine wpAny_bind (wpAny_seqItems hTI rfl ?_);dsimp only;rw [if_neg (by simp)];refine wpAny_bind ?_;unfold Builtin.SmallTypes.ownedTupleIsFree;refine wpAny_bind (wpAny_field hz rfl rfl ?_);refine wpAny_pure ?_;rw [if_pos rfl];refine wpAny_bind (wpAny_rule ?_);refine wpAny_bind (wpAny_field hz rfl rfl ?_);refine wpAny_bind (wpAny_setField hz rfl (by simp) ?_);have e1:=Heap.SameBut.update s.heap z (Obj.mapFields fun a=>a.setIfInBounds 0 Value.ellipsis);have hz1:=rU (x:=Value.ellipsis) hz;generalize s.heap.update z (Obj.mapFields fun a=>a.setIfInBounds 0 Value.ellipsis)=H1 at e1 hz1 ⊢;have h11:ItAt b H1 i1 l1 k:=h1.keep fun o e=>(e1.2 _ D.i1z).trans e;have q11:SqAt b H1 l1 xs:=q1.keep fun o e=>(e1.2 _ nz1).trans e;have hTO1:IsPair H1 TO u v:=(e1.2 _ D.TOz).trans hTO;refine wpAny_bind ?_;rw [show [Value.ref i1,Value.ref i2].zipIdx=[(Value.ref i1,0),(Value.ref i2,1)] from rfl,List.forIn_cons];refine wpAny_bind (wpAny_bind (wpAny_onRaise ?_))
 change wpAny _ _ (Builtin.SmallTypes.nextOf (Value.ref i1) >>= fun v=>pure (some v)) _ _ _
 refine wpAny_bind (eV h11 q11 hx fun H2 h12 e2=>wpAny_pure ?_);have hz2:IsZip H2 z TI TO .ellipsis:=(e2.2 _ D.i1z.symm).trans hz1;have hTO2:IsPair H2 TO u v:=(e2.2 _ D.TOi1).trans hTO1;refine wpAny_bind (wpAny_seqItems hTO2 rfl (wpAny_bind (wpAny_updateSeq_pair hTO2 fun H3 hTO3 e3=>wpAny_bind (wpAny_letGo (wpAny_pure ?_)))));have hTO3:IsPair H3 TO x v:=hTO3;have hz3:IsZip H3 z TI TO .ellipsis:=(e3.2 _ D.TOz.symm).trans hz2;have h23:ItAt c H3 i2 l2 k:=h2.keep fun o e=>(e3.2 _ D.TOi2.symm).trans ((e2.2 _ D.i12.symm).trans ((e1.2 _ D.i2z).trans e));have q23:SqAt c H3 l2 ys:=q2.keep fun o e=>(e3.2 _ nT2).trans ((e2.2 _ n21).trans ((e1.2 _ nz2).trans e));dsimp only;rw [List.forIn_cons];refine wpAny_bind (wpAny_bind (wpAny_onRaise ?_))
 change wpAny _ _ (Builtin.SmallTypes.nextOf (Value.ref i2) >>= fun v=>pure (some v)) _ _ _
 refine wpAny_bind (eV h23 q23 hy fun H4 h24 e4=>wpAny_pure ?_);have hz4:IsZip H4 z TI TO .ellipsis:=(e4.2 _ D.i2z.symm).trans hz3;have hTO4:IsPair H4 TO x v:=(e4.2 _ D.TOi2).trans hTO3;refine wpAny_bind (wpAny_seqItems hTO4 rfl (wpAny_bind (wpAny_updateSeq_pair hTO4 fun H5 hTO5 e5=>wpAny_bind (wpAny_letGo (wpAny_pure ?_)))));have hTO5:IsPair H5 TO x y:=hTO5;have hz5:IsZip H5 z TI TO .ellipsis:=(e5.2 _ D.TOz.symm).trans hz4;dsimp only;rw [List.forIn_nil];refine wpAny_pure ?_;refine wpAny_bind (wpAny_seqItems hTO5 rfl ?_);refine wpAny_bind (wpAny_newObj_type ?_ (by simp [sizeOk,sizeLine_eq]));have es:H5.objs.size=s.heap.objs.size:=by rw [e5.1,e4.1,e3.1,e2.1,e1.1]
 have g6:IsPair (H5.push { cls:=.type "tuple",data:=.seq #[x,y] }) H5.objs.size x y:=Heap.get?_push_size _ rfl;have k6:∀ a o,H5.get? a=some o->(H5.push { cls:=.type "tuple",data:=.seq #[x,y] }).get? a=some o:=fun a o e=>Heap.get?_push_of_some _ e;have s6:(H5.push { cls:=.type "tuple",data:=.seq #[x,y] }).objs.size=s.heap.objs.size+1:=by rw [Heap.size_push,es]
 have hz6:=k6 _ _ hz5;refine wpAny_bind ?_;unfold Builtin.SmallTypes.ownedTupleHandOut;refine wpAny_bind (wpAny_setField hz6 rfl (by simp) ?_);have hz7:=rU (x:=rawInt H5.objs.size) hz6;refine wpAny_setField hz7 rfl (by simp) ?_;have hz8:=aK8 hz7;have e7:=Heap.SameBut.update (H5.push { cls:=.type "tuple",data:=.seq #[x,y] }) z (Obj.mapFields fun a=>a.setIfInBounds 0 (rawInt H5.objs.size));have e8:=Heap.SameBut.update ((H5.push { cls:=.type "tuple",data:=.seq #[x,y] }).update z (Obj.mapFields fun a=>a.setIfInBounds 0 (rawInt H5.objs.size))) z (Obj.mapFields fun a=>a.setIfInBounds 1 (.bool false));have kk:∀ a o,a≠z->H5.get? a=some o->(((H5.push { cls:=.type "tuple",data:=.seq #[x,y] }).update z (Obj.mapFields fun a=>a.setIfInBounds 0 (rawInt H5.objs.size))).update z (Obj.mapFields fun a=>a.setIfInBounds 1 (.bool false))).get? a=some o :=
  fun a o n e=>(e8.2 a n).trans ((e7.2 a n).trans (k6 a o e))
 have nsz:H5.objs.size≠z:=fun e=>by
  have:=Heap.lt_size hz5;rw [<- e] at this;exact Nat.lt_irrefl _ this
 have g8:=(e8.2 _ nsz).trans ((e7.2 _ nsz).trans g6);have hs8:=e8.1.trans (e7.1.trans s6);have h15:ItAt b H5 i1 l1 (k+1):=h12.keep fun o e=>(e5.2 _ D.TOi1.symm).trans ((e4.2 _ D.i12).trans ((e3.2 _ D.TOi1.symm).trans e));have h25:ItAt c H5 i2 l2 (k+1):=h24.keep fun o e=>(e5.2 _ D.TOi2.symm).trans e;have q:=hQ _ (by rw [es] at hz8;rw [es];exact hz8) (kk _ _ D.TOz hTO5) (h15.keep fun o e=>kk _ _ D.i1z e) (h25.keep fun o e=>kk _ _ D.i2z e) (by rw [<- es];exact g8) hs8
  (fun a o n1 n2 n3 n4 e=>kk _ _ n1 ((e5.2 _ n2).trans ((e4.2 _ n4).trans ((e3.2 _ n2).trans ((e2.2 _ n3).trans ((e1.2 _ n1).trans e))))))
 refine wpAny_pure ⟨_,rfl,?_⟩;rw [<- es] at q;exact q
def aK9 {b c:Bool} {z TI TO i1 i2 l1 l2:Addr} {k:Nat} {xs ys:Array Value} {u v:Value} {Q:Fin->Shared->Prop} (hh:A.handled=none) (D:ZApart z TI TO i1 i2) (hz:IsZip s.heap z TI TO .none) (hTI:IsPair s.heap TI (.ref i1) (.ref i2)) (hTO:IsPair s.heap TO u v)
  (h1:ItAt b s.heap i1 l1 k) (h2:ItAt c s.heap i2 l2 k) (q1:SqAt b s.heap l1 xs) (q2:SqAt c s.heap l2 ys) (nz1:l1≠z) (nz2:l2≠z) (nT2:l2≠TO) (n21:l2≠i1) (hn:xs[k]?=none\/ys[k]?=none)
  (hE:∀ h' e,(∀ a o,a≠z->a≠TO->a≠i1->a≠i2->s.heap.get? a=some o->h'.get? a=some o)->(∃ o,h'.get? e=some o/\o.cls=.type "StopIteration")->E (.ref e) { s with heap:=h' }) :
  wpAny (model prog w) A (Builtin.«zip.__next__» { pos:=[.ref z] }) Q E s:=by
 unfold Builtin.«zip.__next__»;refine wpAny_bind (wpAny_pure (a:=(Value.ref z,[])) ?_);refine wpAny_bind (wpAny_field hz rfl rfl ?_);refine wpAny_bind (wpAny_field hz rfl rfl ?_);refine wpAny_bind (wpAny_seqItems hTI rfl ?_);dsimp only;rw [if_neg (by simp)];refine wpAny_bind ?_;unfold Builtin.SmallTypes.ownedTupleIsFree;refine wpAny_bind (wpAny_field hz rfl rfl ?_);refine wpAny_pure ?_;rw [if_pos rfl];refine wpAny_bind (wpAny_rule ?_);refine wpAny_bind (wpAny_field hz rfl rfl ?_);refine wpAny_bind (wpAny_setField hz rfl (by simp) ?_);have e1:=Heap.SameBut.update s.heap z (Obj.mapFields fun a=>a.setIfInBounds 0 Value.ellipsis);have hz1:=rU (x:=Value.ellipsis) hz;generalize s.heap.update z (Obj.mapFields fun a=>a.setIfInBounds 0 Value.ellipsis)=H1 at e1 hz1 ⊢;have h11:ItAt b H1 i1 l1 k:=h1.keep fun o e=>(e1.2 _ D.i1z).trans e;have q11:SqAt b H1 l1 xs:=q1.keep fun o e=>(e1.2 _ nz1).trans e;have hTO1:IsPair H1 TO u v:=(e1.2 _ D.TOz).trans hTO;have aO:∀ (H4 H5:Heap) (e:Addr),IsZip H5 z TI TO .ellipsis->(∀ a o,a≠z->a≠TO->a≠i1->a≠i2->s.heap.get? a=some o->H5.get? a=some o)->(∃ o,H5.get? e=some o/\o.cls=.type "StopIteration") ->
   wpAny (model prog w) A (setField (.ref z) 0 .none) (fun _ s''=>E (.ref e) s'') E { s with heap:=H5 }:=fun H4 H5 e hz5 kk ⟨o,ho,hc⟩=>by
  refine wpAny_setField hz5 rfl (by simp) ?_;have e6:=Heap.SameBut.update H5 z (Obj.mapFields fun a=>a.setIfInBounds 0 Value.none);refine hE _ e (fun a o n1 n2 n3 n4 g=>(e6.2 _ n1).trans (kk a o n1 n2 n3 n4 g)) ⟨o,(e6.2 _ fun z'=>?_).trans ho,hc⟩;rw [z'] at ho;have hz5:H5.get? z=_:=hz5;rw [ho] at hz5;cases hz5;simp at hc
 refine wpAny_bind ?_;rw [show [Value.ref i1,Value.ref i2].zipIdx=[(Value.ref i1,0),(Value.ref i2,1)] from rfl,List.forIn_cons];refine wpAny_bind (wpAny_bind (wpAny_onRaise ?_))
 change wpAny _ _ (Builtin.SmallTypes.nextOf (Value.ref i1) >>= fun v=>pure (some v)) _ _ _
 by_cases hx:xs[k]?=none
 ·refine wpAny_bind (iD hh h11 q11 hx fun H2 e g2 he=>aO H2 H2 e ?_ (fun a o n1 n2 n3 n4 g=>?_) he)
  ·exact g2 _ _ D.i1z.symm hz1
  ·exact g2 _ _ n3 ((e1.2 _ n1).trans g)
 obtain ⟨x,hx⟩:=Option.ne_none_iff_exists'.mp hx;have hy:ys[k]?=none:=hn.resolve_left (by rw [hx];simp);refine wpAny_bind (eV h11 q11 hx fun H2 h12 e2=>wpAny_pure ?_);have hz2:IsZip H2 z TI TO .ellipsis:=(e2.2 _ D.i1z.symm).trans hz1;have hTO2:IsPair H2 TO u v:=(e2.2 _ D.TOi1).trans hTO1;refine wpAny_bind (wpAny_seqItems hTO2 rfl (wpAny_bind (wpAny_updateSeq_pair hTO2 fun H3 hTO3 e3=>wpAny_bind (wpAny_letGo (wpAny_pure ?_)))));have hz3:IsZip H3 z TI TO .ellipsis:=(e3.2 _ D.TOz.symm).trans hz2;have h23:ItAt c H3 i2 l2 k:=h2.keep fun o e=>(e3.2 _ D.TOi2.symm).trans ((e2.2 _ D.i12.symm).trans ((e1.2 _ D.i2z).trans e));have q23:SqAt c H3 l2 ys:=q2.keep fun o e=>(e3.2 _ nT2).trans ((e2.2 _ n21).trans ((e1.2 _ nz2).trans e));dsimp only;rw [List.forIn_cons];refine wpAny_bind (wpAny_bind (wpAny_onRaise ?_))
 change wpAny _ _ (Builtin.SmallTypes.nextOf (Value.ref i2) >>= fun v=>pure (some v)) _ _ _
 refine wpAny_bind (iD hh h23 q23 hy fun H4 e g4 he=>aO H4 H4 e ?_ (fun a o n1 n2 n3 n4 g=>?_) he)
 ·exact g4 _ _ D.i2z.symm hz3
 ·exact g4 _ _ n4 ((e3.2 _ n2).trans ((e2.2 _ n3).trans ((e1.2 _ n1).trans g)))
end
end PySem
namespace PySem
open PySem.Spec PyProof.Rows
def SqAt.ob {b:Bool} {h:Heap} {l:Addr} {xs:Array Value} (x:SqAt b h l xs):∃ o,h.get? l=some o:=by cases b<;>exact ⟨_,x.choose_spec.1⟩
def ItAt.ob {b:Bool} {h:Heap} {it l:Addr} {i:Nat} (x:ItAt b h it l i):∃ o,h.get? it=some o:=by cases b<;>exact ⟨_,x.choose_spec.1⟩
def aL0 (b:Bool) (l:Addr) (xs:Array Value):Meets (Builtin.«enumerate.__new__» ⟨[.type "enumerate",.ref l],[]⟩) fun _ R s=>SqAt b s.heap l xs /\
  R (.ok (.ret (.ref (s.heap.push (iY b l)).objs.size))) { s with heap:=(s.heap.push (iY b l)).push { cls:=.type "enumerate",data:=.fields #[.none,.bool false,.ref s.heap.objs.size,rawInt 0,.none,.none] } }:=by
 refine Meets.of_wp fun prog w A R s h=>?_;obtain ⟨h1,h⟩:=h;obtain ⟨o,ho⟩:=h1.ob;obtain ⟨hp,g,d,tk,os⟩:=s;have hsub:=sub_enumerate
 wp_walk using AutoSeq1.wpAny_loadPart' ho
 refine wpAny_stack_any fun st=>wpAny_pure ?_;split
 ·rename_i c _ _ _ _ _;cases (c==Value.type "enumerate")
  ·wp_walk using AutoSeq1.wpAny_loadPart' ho,dU h1
   exact ⟨_,rfl,h⟩
  ·wp_walk using AutoSeq1.wpAny_loadPart' ho,dU h1
   exact ⟨_,rfl,h⟩
 ·wp_walk using AutoSeq1.wpAny_loadPart' ho,dU h1
  exact ⟨_,rfl,h⟩
section
variable {prog:Program} {w:World} {A:Around} {E:Value->Shared->Prop} {s:Shared}
def aX5 {b:Bool} {e it l:Addr} {i:Nat} {items:Array Value} {x old:Value} {Q:Option Value->Shared->Prop}
  (he:IsEnum s.heap e it i old) (hit:ItAt b s.heap it l i) (hl:SqAt b s.heap l items) (hx:items[i]?=some x) (hne:e≠it)
  (hQ:∀ h',IsEnumOut h' e it ((i:Int)+1) x s.heap.objs.size->ItAt b h' it l (i+1)->h'.get? s.heap.objs.size=some { cls:=.type "tuple",data:=.seq #[.int i s.toks,x] }->h'.objs.size=s.heap.objs.size+1 ->
   (∀ c o,c≠e->c≠it->s.heap.get? c=some o->h'.get? c=some o)->Q (some (.ref s.heap.objs.size)) { s with heap:=h',toks:=s.toks+1 }):wpAny (model prog w) A (pyNext (.ref e)) Q E s:=by
 have hT:s.TypeIs (.ref e) "enumerate":=⟨_,he,rfl⟩;have ne':∀ {h1 h2:Heap},Heap.SameBut e h1 h2->∀ o,h1.get? it=some o->h2.get? it=some o:=fun sb o q=>(sb.2 _ hne.symm).trans q;unfold pyNext;refine wpAny_bind (wpAny_attempt (wpAny_callSpecial?_slot (name:=Str.ofString "__next__") hT F.slot_enumerate_next (wpAny_call_entry F.slot_enumerate_next hT F.entry_enumerate_next ?_ (F.args_enumerate_next_1 _))));unfold Builtin.«enumerate.__next__»;refine wpAny_bind (wpAny_pure (a:=(Value.ref e,[])) (wpAny_bind (wpAny_field he rfl (x:=.ref it) rfl (wpAny_bind (eV hit hl hx fun H1 it1 e1=>?_)))));have he1:IsEnum H1 e it i old:=(e1.2 _ hne).trans he;refine wpAny_bind (wpAny_field he1 rfl (x:=rawInt i) rfl ?_);dsimp only [rawInt];refine wpAny_bind (wpAny_field he1 rfl (x:=.none) rfl ?_);rw [if_pos (by rfl)];refine wpAny_bind (wpAny_mkInt ?_);refine wpAny_bind (wpAny_setField_rec he1 (by simp) fun H2 he2 s2=>wpAny_bind (wpAny_setField_rec (s:={ s with heap:=H2,toks:=s.toks+1 }) he2 (by simp) fun H3 he3 s3=>?_));have he3':IsEnum H3 e it ((i:Int)+1) old:=he3;have z3:H3.objs.size=s.heap.objs.size:=by
  have q2:H2.objs.size=H1.objs.size:=s2.1;have q3:H3.objs.size=H2.objs.size:=s3.1;rw [q3,q2];exact e1.1
 refine wpAny_bind (wpAny_newTuple (items:=[.int i s.toks,x]) ?_);have he4:IsEnum (H3.push { cls:=.type "tuple",data:=.seq #[.int i s.toks,x] }) e it ((i:Int)+1) old:=Heap.get?_push_of_some _ he3';have g4:(H3.push { cls:=.type "tuple",data:=.seq #[.int i s.toks,x] }).get? s.heap.objs.size=some { cls:=.type "tuple",data:=.seq #[.int i s.toks,x] }:=by rw [<- z3];exact Heap.get?_push_size _ rfl
 have z4:(H3.push { cls:=.type "tuple",data:=.seq #[.int i s.toks,x] }).objs.size=s.heap.objs.size+1:=by rw [Heap.size_push,z3]
 have k4:∀ c o,c≠e->c≠it->s.heap.get? c=some o->(H3.push { cls:=.type "tuple",data:=.seq #[.int i s.toks,x] }).get? c=some o:=fun c o n1 n2 q=>Heap.get?_push_of_some _ ((s3.2 _ n1).trans ((s2.2 _ n1).trans ((e1.2 _ n2).trans q)));have it4:ItAt b (H3.push { cls:=.type "tuple",data:=.seq #[.int i s.toks,x] }) it l (i+1):=it1.keep fun o q=>Heap.get?_push_of_some _ (ne' s3 o (ne' s2 o q));refine wpAny_bind ?_;unfold Builtin.SmallTypes.ownedTupleIsFree;refine wpAny_bind (wpAny_field he4 rfl (x:=.none) rfl (wpAny_pure ?_));rw [if_pos rfl];have el:s.heap.objs.size≠e:=Nat.ne_of_gt (Heap.lt_size he);refine wpAny_bind (wpAny_rule (wpAny_bind (wpAny_field he4 rfl (x:=old) rfl (wpAny_bind (wpAny_setField_rec (s:={ s with heap:=H3.push { cls:=.type "tuple",data:=.seq #[.int i s.toks,x] },toks:=s.toks+1 }) he4 (by simp) fun H5 he5 s5=>wpAny_bind ?_)))));unfold Builtin.SmallTypes.ownedTupleHandOut;rw [z3];refine wpAny_bind (wpAny_setField_rec (s:={ s with heap:=H5,toks:=s.toks+1 }) he5 (by simp) fun H6 he6 s6=>wpAny_setField_rec (s:={ s with heap:=H6,toks:=s.toks+1 }) he6 (by simp) fun H7 he7 s7=>wpAny_bind (wpAny_letGo (wpAny_pure ⟨_,rfl,wpAny_pure (hQ H7 he7 ?_ ?_ ?_ fun c o n1 n2 q=>?_)⟩)))
 ·exact it4.keep fun o q=>ne' s7 o (ne' s6 o (ne' s5 o q))
 ·exact (s7.2 _ el).trans ((s6.2 _ el).trans ((s5.2 _ el).trans g4))
 ·have q5:H5.objs.size=_:=s5.1;have q6:H6.objs.size=H5.objs.size:=s6.1;have q7:H7.objs.size=H6.objs.size:=s7.1;rw [q7,q6,q5];exact z4
 ·exact (s7.2 _ n1).trans ((s6.2 _ n1).trans ((s5.2 _ n1).trans (k4 c o n1 n2 q)))
def bL5 {b:Bool} {e it l:Addr} {i:Nat} {items:Array Value} {old:Value} {Q:Option Value->Shared->Prop} (hh:A.handled=none) (he:IsEnum s.heap e it i old) (hit:ItAt b s.heap it l i) (hl:SqAt b s.heap l items) (hx:items[i]?=none)
  (hQ:∀ h',(∀ c o,c≠it->s.heap.get? c=some o->h'.get? c=some o)->Q none { s with heap:=h' }):wpAny (model prog w) A (pyNext (.ref e)) Q E s:=by
 have hT:s.TypeIs (.ref e) "enumerate":=⟨_,he,rfl⟩;unfold pyNext;refine wpAny_bind (wpAny_attempt (wpAny_callSpecial?_slot (name:=Str.ofString "__next__") hT F.slot_enumerate_next (wpAny_call_entry F.slot_enumerate_next hT F.entry_enumerate_next ?_ (F.args_enumerate_next_1 _))));unfold Builtin.«enumerate.__next__»;refine wpAny_bind (wpAny_pure (a:=(Value.ref e,[])) (wpAny_bind (wpAny_field he rfl (x:=.ref it) rfl (wpAny_bind (iD (A:=A.in1) hh hit hl hx fun H1 x k1 ⟨o,ho,hc⟩=>?_)))));exact wpAny_bind (wpAny_isInstance ⟨o,ho,hc⟩ isSubtype_stop (wpAny_pure (hQ H1 k1)))
end
end PySem

namespace DL
open PySem PySem.Spec PyProof.Rows L2 CI
section
variable {S:Sx} {κ:Kp} {M M0:Mp} {h:aA} {s:Shared} {A:Around} {E:Value->Shared->Prop} {elts:List Expr} {n:Nat} {pos:Pos}
def SqZ (M:Mp) (b:Bool) (a:Addr) (us:List Value):Prop:=∃ n,M.Z a=some { cls:=.type (if b=true then "tuple" else "list"),data:=.seq us.toArray n }
def SqZ.at {b:Bool} {a:Addr} {us:List Value} (x:SqZ M0 b a us) (l:Le M0 M) (R:Mem S κ M h s):SqAt b s.heap a us.toArray:=by
 obtain ⟨n,e⟩:=x;have e:=R.z _ _ (l.z _ _ e);cases b
 ·exact (cK e).isList
 ·exact eG e
def SqZ.ne {b:Bool} {a c:Addr} {us:List Value} (x:SqZ M0 b a us) (l:Le M0 M) (f:bK κ M c):a≠c:=fun z=>by
 obtain ⟨n,e⟩:=x;have e:=l.z _ _ e;rw [z,f.1] at e;cases e
def aL1 {w:W} {u:Value} {xs:List PyData} (e:gC w=some xs) (r:RepW S M w u):∃ b a us,u=.ref a/\SqZ M b a us/\us.length<=sizeLine/\Reps' S M xs us:=by
 unfold gC at e;split at e
 ·cases e;obtain ⟨a,o,us,rfl,z,⟨⟨n,rfl⟩,hz⟩,rr⟩:=rep_l.mp (show Rep S M.Z _ _ from r);exact ⟨false,a,us,rfl,⟨n,z⟩,hz,rr⟩
 ·cases e;obtain ⟨a,o,us,rfl,z,⟨⟨n,rfl⟩,hz⟩,rr⟩:=rep_t.mp (show Rep S M.Z _ _ from r);exact ⟨true,a,us,rfl,⟨n,z⟩,hz,rr⟩
 ·cases e
def Mem.pair {h2:Heap} {t:Nat} {fp:List Addr} {x y:PyData} {u v:Value} (R:Mem S κ M h s) (hf:∀ b∈fp,bK κ M b) (hs:∀ b∈fp,∃ o,s.heap.get? b=some o) (k:∀ b o,b∉fp->s.heap.get? b=some o->h2.get? b=some o) (e:h2.get? s.heap.objs.size=some { cls:=.type "tuple",data:=.seq #[u,v] }) (rx:Rep S M.Z x u) (ry:Rep S M.Z y v) :
  ∃ M',Le M M'/\Mem S κ M' h { s with heap:=h2,toks:=t }/\Rep S M'.Z (.tuple [x,y]) (.ref s.heap.objs.size)/\∀ b∈fp,bK κ M' b:=by
 have R1:Mem S κ M h { s with heap:=h2,toks:=t }:=R.turn hf k;refine ⟨_,.add R.size.1,R1.frz R.size e,rep_t.mpr ⟨_,_,[u,v],rfl,iO,⟨⟨0,rfl⟩,by simp [sizeLine_eq]⟩,.cons (Rep.go (Le.add R.size.1).z rx) (.cons (Rep.go (Le.add R.size.1).z ry) .nil)⟩,fun b hb=>⟨?_,(hf b hb).2⟩⟩;obtain ⟨o,q⟩:=hs b hb;show (if b=s.heap.objs.size then _ else M.Z b)=none;rw [if_neg (Nat.ne_of_lt (Heap.lt_size q))];exact (hf b hb).1
def ZSt (b c:Bool) (z TI TO i1 i2 l1 l2:Addr) (i:Nat) (h:Heap):Prop :=
 IsZip h z TI TO .none/\IsPair h TI (.ref i1) (.ref i2)/\(∃ u v,IsPair h TO u v)/\ItAt b h i1 l1 i/\ItAt c h i2 l2 i
def ZSt.obj {b c:Bool} {z TI TO i1 i2 l1 l2:Addr} {i:Nat} {h:Heap} (st:ZSt b c z TI TO i1 i2 l1 l2 i h):∀ a∈[z,TI,TO,i1,i2],∃ o,h.get? a=some o:=fun a ha=>by
 obtain ⟨s1,s2,⟨u,v,s3⟩,s4,s5⟩:=st;simp only [List.mem_cons,List.not_mem_nil,or_false] at ha;rcases ha with rfl | rfl | rfl | rfl | rfl
 ·exact ⟨_,s1⟩
 ·exact ⟨_,s2⟩
 ·exact ⟨_,s3⟩
 ·exact s4.ob
 ·exact s5.ob
def bL6 {xs ys:List PyData} {i:Nat} {x:PyData} (e:(jU xs ys)[i]?=some x):∃ a b,xs[i]?=some a/\ys[i]?=some b/\x=.tuple [a,b]:=by
 unfold jU at e;rw [List.getElem?_zipWith] at e;cases q1:xs[i]? with
 | none=>rw [q1] at e;cases e
 | some a =>
  cases q2:ys[i]? with
  | none=>rw [q1,q2] at e;cases e
  | some b=>rw [q1,q2] at e;cases e;exact ⟨a,b,rfl,rfl,rfl⟩
def aL2 {b c:Bool} {z TI TO i1 i2 l1 l2:Addr} {xs ys:List PyData} {us vs:List Value} (D:ZApart z TI TO i1 i2) (q1:SqZ M0 b l1 us) (q2:SqZ M0 c l2 vs) (r1:Reps' S M0 xs us) (r2:Reps' S M0 ys vs):Turn S (.Tuple elts n pos) (jU xs ys) none M0 [z,TI,TO,i1,i2] z (ZSt b c z TI TO i1 i2 l1 l2) where
 obj:=fun i h st=>st.obj
 keep:=fun i h h' st k=>by
  obtain ⟨s1,s2,⟨u,v,s3⟩,s4,s5⟩:=st;exact ⟨k z (by simp) _ s1,k TI (by simp) _ s2,⟨u,v,k TO (by simp) _ s3⟩,s4.keep fun o e=>k i1 (by simp) o e,s5.keep fun o e=>k i2 (by simp) o e⟩
 item:=by
  intro A κ M h s E i x hd R l hf st hx co;obtain ⟨x1,x2,h1,h2,rfl⟩:=bL6 hx;obtain ⟨u1,hu1,ru1⟩:=hU (r1.go l) h1;obtain ⟨u2,hu2,ru2⟩:=hU (r2.go l) h2;have ob:=st.obj;obtain ⟨s1,s2,⟨u,v,s3⟩,s4,s5⟩:=st;have hT:s.TypeIs (.ref z) "zip":=⟨_,s1,rfl⟩;have fz:=hf z (by simp);have fTO:=hf TO (by simp);have fi1:=hf i1 (by simp);refine wpAny_bind (wpAny_attempt (wpAny_callSpecial?_slot hT F.slot_zip_next (wpAny_call_entry F.slot_zip_next hT F.entry_zip_next
   (aB6 D s1 s2 s3 s4 s5 (q1.at l R) (q2.at l R) (q1.ne l fz) (q2.ne l fz) (q2.ne l fTO) (q2.ne l fi1) (x:=u1) (y:=u2) (by simpa using hu1) (by simpa using hu2)
    fun h' a1 a2 a3 a4 a5 a6 a7=>wpAny_pure ?_) (F.args_zip_next_1 _))))
  refine ⟨_,rfl,wpAny_letOwnedTupleGo_zip (s:={ s with heap:=h' }) a1 fun h'' b1 b2=>?_⟩;have zs:s.heap.objs.size≠z:=Nat.ne_of_gt (Heap.lt_size s1);obtain ⟨M',l',R',r',f'⟩:=R.pair (h2:=h'') (t:=s.toks) hf ob (fun a o ha e=>by
   simp only [List.mem_cons,List.not_mem_nil,or_false,not_or] at ha;exact (b2.2 a ha.1).trans (a7 a o ha.1 ha.2.2.1 ha.2.2.2.1 ha.2.2.2.2 e)) ((b2.2 _ zs).trans a5) ru1 ru2
  exact ⟨M',l',R',r',⟨b1,(b2.2 _ D.TIz).trans (a7 _ _ D.TIz D.TITO D.TIi1 D.TIi2 s2),⟨u1,u2,(b2.2 _ D.TOz).trans a2⟩,a3.keep fun o e=>(b2.2 _ D.i1z).trans e,a4.keep fun o e=>(b2.2 _ D.i2z).trans e⟩,f'⟩
 done:=by
  intro A κ M h s E i hd R l hf st hl co;obtain ⟨s1,s2,⟨u,v,s3⟩,s4,s5⟩:=st;have k1:=r1.length;have k2:=r2.length;unfold jU at hl;rw [List.length_zipWith] at hl;have hT:s.TypeIs (.ref z) "zip":=⟨_,s1,rfl⟩;have fz:=hf z (by simp);have fTO:=hf TO (by simp);have fi1:=hf i1 (by simp);refine wpAny_bind (wpAny_attempt (wpAny_callSpecial?_slot hT F.slot_zip_next (wpAny_call_entry F.slot_zip_next hT F.entry_zip_next
   (aK9 hd D s1 s2 s3 s4 s5 (q1.at l R) (q2.at l R) (q1.ne l fz) (q2.ne l fz) (q2.ne l fTO) (q2.ne l fi1) (by simp;omega)
    fun h' e kk ⟨o,ho,hc⟩=>wpAny_bind (wpAny_isInstance ⟨o,ho,hc⟩ isSubtype_stop (wpAny_pure ⟨rfl,?_⟩))) (F.args_zip_next_1 _))))
  exact R.turn (t:=s.toks) hf fun a o ha e=>by
   simp only [List.mem_cons,List.not_mem_nil,or_false,not_or] at ha;exact kk a o ha.1 ha.2.2.1 ha.2.2.2.1 ha.2.2.2.2 e
 self:=fun _ _ _ _ _ st h=>wpAny_pyIter_zip st.1 h
theorem pY:∀ {xs:List PyData} {k i:Nat} {z:PyData},(gZ k xs)[i]?=some z->∃ x,xs[i]?=some x/\z=.tuple [.int (k+i:Nat),x]
 | [],_,_,_,e=>by simp [gZ] at e
 | x::xs,k,0,z,e=>by simp [gZ] at e;exact ⟨x,rfl,by rw [<- e];simp⟩
 | x::xs,k,i+1,z,e=>by
  obtain ⟨y,h1,h2⟩:=pY (xs:=xs) (k:=k+1) (i:=i) (by simpa [gZ] using e);exact ⟨y,by simpa using h1,by rw [h2,show k+1+i=k+(i+1) by omega]⟩
theorem kA:∀ (xs:List PyData) (k:Nat),(gZ k xs).length=xs.length
 | [],_=>rfl
 | _::xs,k=>by rw [gZ,List.length_cons,List.length_cons,kA]
def ESt (b:Bool) (e it l:Addr) (i:Nat) (h:Heap):Prop:=(∃ old,IsEnum h e it i old)/\ItAt b h it l i
def aB7 {b:Bool} {e it l:Addr} {xs:List PyData} {us:List Value} (hne:e≠it) (q1:SqZ M0 b l us) (r1:Reps' S M0 xs us):Turn S (.Tuple elts n pos) (eT xs) none M0 [e,it] e (ESt b e it l) where
 obj:=fun i h st a ha=>by
  obtain ⟨⟨old,s1⟩,s2⟩:=st;simp only [List.mem_cons,List.not_mem_nil,or_false] at ha;rcases ha with rfl | rfl
  ·exact ⟨_,s1⟩
  ·exact s2.ob
 keep:=fun i h h' st k=>by
  obtain ⟨⟨old,s1⟩,s2⟩:=st;exact ⟨⟨old,k e (by simp) _ s1⟩,s2.keep fun o q=>k it (by simp) o q⟩
 item:=by
  intro A κ M h s E i x hd R l' hf st hx co;obtain ⟨y,h1,rfl⟩:=pY hx;rw [Nat.zero_add];obtain ⟨u,hu,ru⟩:=hU (r1.go l') h1;obtain ⟨⟨old,s1⟩,s2⟩:=st;refine aX5 s1 s2 (q1.at l' R) (x:=u) (by simpa using hu) hne fun h' a1 a2 a3 a4 a5=>⟨_,rfl,wpAny_letOwnedTupleGo_enum (s:={ s with heap:=h',toks:=s.toks+1 }) a1 fun h'' b1 b2=>?_⟩;have zs:s.heap.objs.size≠e:=Nat.ne_of_gt (Heap.lt_size s1);obtain ⟨M',l2,R',r',f'⟩:=R.pair (h2:=h'') (t:=s.toks+1) (x:=.int i) hf (fun a ha=>by
   simp only [List.mem_cons,List.not_mem_nil,or_false] at ha;rcases ha with rfl | rfl
   ·exact ⟨_,s1⟩
   ·exact s2.ob) (fun a o ha q=>by
   simp only [List.mem_cons,List.not_mem_nil,or_false,not_or] at ha;exact (b2.2 a ha.1).trans (a5 a o ha.1 ha.2 q)) ((b2.2 _ zs).trans a3) (rep_i.mpr ⟨_,rfl⟩) ru
  refine ⟨M',l2,R',r',⟨⟨u,?_⟩,a2.keep fun o q=>(b2.2 _ hne.symm).trans q⟩,f'⟩;have:((i+1:Nat):Int)=(i:Int)+1:=by omega
  unfold IsEnum;rw [this];exact b1
 done:=by
  intro A κ M h s E i hd R l' hf st hl co;obtain ⟨⟨old,s1⟩,s2⟩:=st;have k1:=r1.length;unfold eT at hl;rw [kA] at hl;refine bL5 hd s1 s2 (q1.at l' R) (by simp;omega) fun h' kk=>⟨rfl,?_⟩;exact R.turn (t:=s.toks) hf fun a o ha q=>by
   simp only [List.mem_cons,List.not_mem_nil,or_false,not_or] at ha;exact kk a o ha.2 q
 self:=fun _ _ s _ _ st h=>by
  obtain ⟨⟨old,s1⟩,s2⟩:=st;have hT:s.TypeIs (.ref e) "enumerate":=⟨_,s1,rfl⟩;refine wpAny_pyIter_slot hT PySem.F.slot_enumerate_iter (wpAny_call_entry PySem.F.slot_enumerate_iter hT PySem.F.entry_enumerate_iter ?_ (PySem.F.args_enumerate_iter_1 _));show wpAny _ _ (ret (.ref e)) _ _ s;exact wpAny_pure ⟨_,rfl,"enumerate",_,hT,PySem.F.slot_enumerate_next.lookup,h⟩
end
section
variable {X:Cx} {st:Sta} {d:Nat} {v:Evs} {a b:Expr} {κ:Kp} {M:Mp} {δ:DSt} {h h':aA} {s:Shared} {pos p tp:Pos} {elts:List Expr} {n:Nat}
theorem bZ9 (S:Snd v) (G:Good X st d) (hx:(cJ st "zip"&&(slot st "zip").isNone&&st.bl.contains "zip")=true) (hs:aG a=true) (hs2:aG b=true):SI X (.Tuple elts n tp) (.Call (.Name "zip" p) [a,b] [] pos) (xb (v.E st a) fun u=>xb (v.E st b) fun w=>fun _ h=>(match gC u,gC w with
   | some xs,some ys=>some ((jU xs ys,none),h)
   | _,_=>none)):=by
 intro κ M δ h s q h' R F e;obtain ⟨h1,h2,h3⟩:=cZ G hx;obtain ⟨x,hh,e1,e⟩:=aF e;obtain ⟨y,hh2,e2,e⟩:=aF e;have ea:aR v st [a,b] δ h=some ([x,y],hh2):=by unfold aR;rw [if_pos hs];unfold xb;rw [e1];unfold aR;dsimp only [Option.bind];rw [if_pos hs2];unfold aR xb aC;dsimp only;rw [e2];rfl
 refine Call_ (cX (u:=.type "zip") F R h2 h3 (by decide +kernel) h1 (PyProof.Rows.callWith_type1 (thn (cN S G [a,b] pos R F ea) fun us s1 ⟨M1,l1,R1,r0⟩=>?_) (bW a hs) (by rw [bW b hs2];rfl)));obtain ⟨u,v,rfl,r1,r2⟩:=w2 r0;split at e
 ·rename_i xs ys ex ey;cases e;obtain ⟨b1,l1',us,rfl,q1,z1,rr1⟩:=aL1 ex r1;obtain ⟨b2,l2',vs,rfl,q2,z2,rr2⟩:=aL1 ey r2;refine aK7 (q1.at .refl R1) (q2.at .refl R1) fun h' a1 a2 a3 a4 a5 a6 a7=>?_;have D:ZApart (s1.heap.objs.size+4) (s1.heap.objs.size+2) (s1.heap.objs.size+3) s1.heap.objs.size (s1.heap.objs.size+1):=by
   constructor<;>(intro e;exact absurd e (by simp [Addr]<;>omega))
  refine wpAny_pyIter_zip a1 (Pi.go l1 ⟨M1,_,_,_,.refl,R1.kept (t:=s1.toks) a7,rfl,aL2 D q1 q2 rr1 rr2,⟨a1,a2,⟨_,_,a3⟩,a4,a5⟩,fun x hx=>R1.new (Heap.get?_none_of_le ?_),?_⟩)
  ·simp only [List.mem_cons,List.not_mem_nil,or_false] at hx;rcases hx with rfl | rfl | rfl | rfl | rfl<;>simp
  ·show (jU xs ys).length<=sizeLine;unfold jU;rw [List.length_zipWith,rr1.length];omega
 ·cases e
theorem bL7 (S:Snd v) (G:Good X st d) (hx:(cJ st "enumerate"&&(slot st "enumerate").isNone&&st.bl.contains "enumerate")=true) (hs:aG a=true):SI X (.Tuple elts n tp) (.Call (.Name "enumerate" p) [a] [] pos) (xb (v.E st a) fun u=>fun _ h=>(match gC u with
   | some xs=>some ((eT xs,none),h)
   | none=>none)):=by
 intro κ M δ h s q h' R F e;obtain ⟨h1,h2,h3⟩:=cZ G hx;obtain ⟨x,hh,e1,e⟩:=aF e;have ea:aR v st [a] δ h=some ([x],hh):=by unfold aR;rw [if_pos hs];unfold aR xb aC;rw [e1];rfl
 refine Call_ (cX (u:=.type "enumerate") F R h2 h3 (by decide +kernel) h1 (PyProof.Rows.callWith_type1 (thn (cN S G [a] pos R F ea) fun us s1 ⟨M1,l1,R1,r0⟩=>?_) (bW a hs) rfl));obtain ⟨u,rfl,r1⟩:=w1 r0;split at e
 ·rename_i xs ex;cases e;obtain ⟨b,l,us,rfl,q1,z1,rr1⟩:=aL1 ex r1;refine callType_new PySem.F.called_enumerate (by decide) (PySem.F.typeCall_enumerate_1 _) (PySem.F.newCall_enumerate_1 _) (fun obj=>PySem.F.args_object_init_2 obj _) PySem.F.entry_enumerate_new (aL0 b l us.toArray) ⟨q1.at .refl R1,⟨_,Heap.get?_push_size _ rfl,rfl⟩,?_⟩;have z1':(s1.heap.push (iY b l)).objs.size=s1.heap.objs.size+1:=by rw [Heap.size_push]
  have ge:((s1.heap.push (iY b l)).push { cls:=.type "enumerate",data:=.fields #[.none,.bool false,.ref s1.heap.objs.size,rawInt 0,.none,.none] }).get? (s1.heap.push (iY b l)).objs.size=some { cls:=.type "enumerate",data:=.fields #[.none,.bool false,.ref s1.heap.objs.size,rawInt 0,.none,.none] }:=Heap.get?_push_size _ rfl;have gi:((s1.heap.push (iY b l)).push { cls:=.type "enumerate",data:=.fields #[.none,.bool false,.ref s1.heap.objs.size,rawInt 0,.none,.none] }).get? s1.heap.objs.size=some (iY b l):=Heap.get?_push_of_some _ (Heap.get?_push_size _ rfl);have hne:(s1.heap.push (iY b l)).objs.size≠s1.heap.objs.size:=by rw [z1'];exact Nat.succ_ne_self _
  refine wpAny_pyIter_enum (s:={ s1 with heap:=_ }) ge (Pi.go l1 ⟨M1,_,_,_,.refl,R1.kept (t:=s1.toks) fun c o e=>Heap.get?_push_of_some _ (Heap.get?_push_of_some _ e),rfl,aB7 hne q1 rr1,⟨⟨.none,ge⟩,ItAt.new gi⟩,fun x hx=>R1.new (Heap.get?_none_of_le ?_),?_⟩)
  ·simp only [List.mem_cons,List.not_mem_nil,or_false] at hx;rcases hx with rfl | rfl
   ·rw [z1'];exact Nat.le_succ _
   ·exact Nat.le_refl _
  ·show (eT xs).length<=sizeLine;unfold eT;rw [kA,rr1.length];exact z1
 ·cases e
end
end DL

namespace DL
open PySem PySem.Spec PyProof.Rows L2 CI
section
variable {X:Cx} {st:Sta} {d:Nat} {v:Evs} {κ:Kp} {M:Mp} {δ:DSt} {h h':aA} {s:Shared} {a b c e o tg iter:Expr} {es:List Expr} {pos p p2 apos:Pos} {x m:Str} {w:W}
def bL8 (S:Snd v) (G:Good X st d) {op op' op'':CmpOp} {p:Bool×aA} (hm:lastMarks [op,op',op''] [b,c,e]=false) (R:Mem X.S κ M h s) (F:Fra X κ M δ) (eq:xC3 op op' op'' (v.E st a) (v.E st b) (v.E st c) (v.E st e) δ h=some p):Wp X.S X.A (eval (.Compare a [op,op',op''] [b,c,e] pos) X.env) (Pw X.S κ M p.2 (.d (.bool p.1))) NE s:=by
 obtain ⟨x,h1,e1,eq⟩:=aF eq;obtain ⟨y,h2,e2,eq⟩:=aF eq;obtain ⟨p1,e3,eq⟩:=bind_some eq;refine Compare_chain (thn (S.E G a R F e1) fun u s1 ⟨M1,l1,R1,r1⟩=>chain_link (thn (S.E G b R1 (F.go l1) e2) fun v s2 ⟨M2,l2,R2,r2⟩=>?_)) hm;obtain ⟨q1,q2⟩:=gG (A:=X.A) (E:=NE) G.rm R2 (r1.go l2) r2 e3;obtain ⟨k,h3⟩:=p1;cases q1;refine thn q2 fun k' s3 ⟨M3,l3,R3,r3⟩=>?_;cases wb.mp r3;refine wpAny_truthy_bool ?_;dsimp only at eq;cases k with
 | false=>cases eq;exact ite_ff (R3.pb.go (l1.trans (l2.trans l3)))
 | true =>
  obtain ⟨⟨z,h4⟩,e4,eq⟩:=bind_some eq;obtain ⟨p2,e5,eq⟩:=bind_some eq;refine ite_tt (chain_link (thn (S.E G c R3 ((F.go l1).go (l2.trans l3)) e4) fun t s4 ⟨M4,l4,R4,r4⟩=>?_));obtain ⟨q5,q6⟩:=gG (A:=X.A) (E:=NE) G.rm R4 (r2.go (l3.trans l4)) r4 e5;obtain ⟨k2,h5⟩:=p2;cases q5;refine thn q6 fun k' s5 ⟨M5,l5,R5,r5⟩=>?_;cases wb.mp r5;refine wpAny_truthy_bool ?_;dsimp only at eq;cases k2 with
  | false=>cases eq;exact ite_ff (R5.pb.go (l1.trans (l2.trans (l3.trans (l4.trans l5)))))
  | true =>
   obtain ⟨⟨z',h6⟩,e6,eq⟩:=bind_some eq;refine ite_tt (chain_last (thn (S.E G e R5 ((F.go l1).go (l2.trans (l3.trans (l4.trans l5)))) e6) fun t' s6 ⟨M6,l6,R6,r6⟩=>?_));obtain ⟨q7,q8⟩:=gG (A:=X.A) (E:=NE) G.rm R6 (r4.go (l5.trans l6)) r6 eq;rw [q7];exact thn q8 fun _ _ q=>q.go (l1.trans (l2.trans (l3.trans (l4.trans (l5.trans l6)))))
def bL9 (S:Snd v) (G:Good X st d) {ops:List CmpOp} {cs:List Expr}:SE X (.Compare a ops cs pos) (cG (jW v st a ops cs)):=by
 unfold jW;rcases ops with _ | ⟨op,_ | ⟨op',_ | ⟨op'',_ | ⟨_,_⟩⟩⟩⟩
 ·exact kZ S G
 ·exact kZ S G
 ·exact kZ S G
 ·rcases cs with _ | ⟨b,_ | ⟨c,_ | ⟨e',_ | ⟨_,_⟩⟩⟩⟩
  ·exact kZ S G
  ·exact kZ S G
  ·exact kZ S G
  ·intro κ M δ h s w h' R F eq;obtain ⟨p,e2,ew⟩:=map_some (show ((if lastMarks [op,op',op''] [b,c,e']=true then xno else xC3 op op' op'' (v.E st a) (v.E st b) (v.E st c) (v.E st e')) δ h).map asW=_ from eq);cases ew
   by_cases hm:lastMarks [op,op',op''] [b,c,e']=true
   ·rw [if_pos hm] at e2;cases e2
   ·rw [if_neg hm] at e2;exact bL8 S G (by simpa using hm) R F e2
  ·exact kZ S G
 ·exact kZ S G
def gO {P:List Value->Shared->Prop} {E:Value->Shared->Prop} (hs:aG e=true) (h:Wp X.S X.A (eval e X.env) (fun v s1=>P [v] s1) E s):Wp X.S X.A (spliced (backTo pos (starEach [e] X.env))) P E s:=by
 rw [bW (es:=[]) e hs];show Wp _ _ (spliced ((false,eval e X.env)::backTo pos [])) _ _ s;exact Calls.spliced_cons (thn h fun u s1 q=>wpAny_pure q)
theorem cA0 (S:Snd v) (G:Good X st d) {pos2:Pos} (hx:okC st "list"=true) (hr:okC st "range"=true) (hs:aG b=true):SF X (.Call (.Name "list" p) [.Call (.Name "range" p2) [b] [] pos2] [] pos) (xb (aR v st [b]) fun ws=>fun _ h=>(match ws with
   | [.d (.int j)]=>if -(2^62)<=j/\j < 2^62/\j<=16000000 then some (rng 0 j.toNat,h) else none
   | _=>none)):=by
 intro κ M δ h s w h' R F e;obtain ⟨ws,h1,e1,e⟩:=aF e;obtain ⟨n1,n2,n3⟩:=cZ G hx;refine wpAny_Call_Name_kw (cX (u:=.type "list") F R n2 n3 (by decide +kernel) n1 ?_);refine PyProof.Rows.callWith_type1 (gO (by rfl) ?_) rfl rfl;refine nB (f:=.type "range") S G hr boot_range (.inr ⟨_,rfl⟩) R F e1 fun {M1 us s1} l1 R1 r1=>?_;split at e
 ·rename_i j;obtain ⟨⟨b3,b4,b5⟩,e⟩:=aE e;cases e;obtain ⟨u,rfl,ru⟩:=w1 r1;obtain ⟨t2,rfl⟩:=wi.mp ru;refine call_range_1 (call_list_range (n:=j.toNat) G.rm.hd (IsRange.new ..) (small_one (by decide) (by decide) b3 b4) (by rw [rangeSize_one];split<;>omega) (by omega) fun h' tk acc c' k hS hacc=>?_);rw [Heap.size_push] at hS ⊢;have k1:∀ b o,s1.heap.get? b=some o->h'.get? b=some o:=fun b o e=>k b o (Heap.get?_push_of_some _ e);refine ⟨M1,l1,R1.kept (t:=tk) k1,s1.heap.objs.size+1,acc.toList,c',rfl,by rw [Array.toArray_toList];exact hS,R1.new (Heap.get?_none_of_le (Nat.le_succ _)),by rw [Array.length_toList,hacc.1,sizeLine_eq];omega,?_⟩;have gen:∀ (l:List Value) (m:List PyData),l.length=m.length->(∀ (k:Nat) v,l[k]?=some v->∃ x,m[k]?=some x/\Rep X.S M1.Z x v)->Reps' X.S M1 m l:=by
   intro l;induction l with
   | nil=>intro m hm _;rw [List.length_eq_zero_iff.mp hm.symm];exact .nil
   | cons v l ih =>
    intro m hm hv;cases m with
    | nil=>simp at hm
    | cons x m =>
     obtain ⟨x',e1,e2⟩:=hv 0 v rfl;simp at e1;subst e1;exact .cons e2 (ih m (by simpa using hm) fun k v e=>hv (k+1) v (by simpa using e))
  refine gen _ _ (by simp [hacc.1,rng]) fun k v e=>?_;rw [Array.getElem?_toList] at e;obtain ⟨tk,rfl⟩:=hacc.2 k v e;have hk:k < j.toNat:=by have:=(Array.getElem?_eq_some_iff.mp e).1;rw [hacc.1] at this;exact this
  exact ⟨.int k,by simp [rng,hk],rep_i.mpr ⟨tk,by simp⟩⟩
 ·cases e
def bM0 (T T':String):Prop:=∀ (K:PySem.W.Frag) (d:PyData),PySem.W.kitAny K (.type (fE d)) [.type T,.type T']=some (isi d T||isi d T')
def bM1:bM0 "list" "tuple":=fun K d=>by cases d<;>kernel_rfl
def bM2 (S:Snd v) (G:Good X st d) {q1 q2 q3:Pos} {k} (hx:okC st "isinstance"=true) (hs:aG a=true) (hT:okC st "list"=true) (hT':okC st "tuple"=true) :
  SE X (.Call (.Name "isinstance" p) [a,.Tuple [.Name "list" q1,.Name "tuple" q2] k q3] [] pos) (xb (v.E st a) fun w=>fun _ h=>(ref h w).bind fun d=>some (.d (.bool (isi d "list"||isi d "tuple")),h)):=by
 intro κ M δ h s w h' R F e;obtain ⟨x,h1,e1,e⟩:=aF e;obtain ⟨z,ez,e⟩:=bind_some e;cases e;obtain ⟨n1,n2,n3⟩:=cZ G hx;obtain ⟨m1,m2,m3⟩:=cZ G hT;obtain ⟨m4,m5,m6⟩:=cZ G hT';refine wpAny_Call_Name_kw (cX (u:=.builtin "isinstance") F R n2 n3 (by decide +kernel) n1 ?_);refine PyProof.Rows.callWith_builtin1 ?_ (bW a hs) (cC pos [.Tuple [.Name "list" q1,.Name "tuple" q2] k q3] rfl);rw [bW a hs];show Wp _ _ (spliced ((false,eval a X.env)::backTo pos (starEach [.Tuple [.Name "list" q1,.Name "tuple" q2] k q3] X.env))) _ _ s;refine Calls.spliced_cons (thn (S.E G a R F e1) fun u s1 ⟨M1,l1,R1,r1⟩=>gO (by rfl) ?_);refine wpAny_Tuple_spliced ?_;rw [bW (X:=X) (es:=[.Name "tuple" q2]) (.Name "list" q1) rfl];show Wp _ _ (spliced ((false,eval (.Name "list" q1) X.env)::backTo q3 (starEach [.Name "tuple" q2] X.env))) _ _ s1;refine Calls.spliced_cons (cX (u:=.type "list") (F.go l1) R1 m2 m3 (by decide +kernel) m1 (gO (by rfl) (cX (u:=.type "tuple") (F.go l1) R1 m5 m6 (by decide +kernel) m4 ⟨by decide,?_⟩)));have R2:Mem X.S κ M1 h' { s1 with heap:=s1.heap.push { cls:=.type "tuple",data:=.seq #[.type "list",.type "tuple"] } }:=R1.kept (t:=s1.toks) fun b o e=>Heap.get?_push_of_some _ e;obtain ⟨H,kx,hp,n⟩:=bF2 R2 r1 ez;exact PySem.W.kia_tup kx (F.kin.keeps R2.bk) hp (Heap.get?_push_size _ rfl) (bM1 X.S.K z) n fun tk=>((R2.tok tk).pb).go l1
end
end DL

namespace DL
open PySem PySem.Spec PyProof.Rows L2 CI
section
variable {X:Cx} {st:Sta} {d:Nat} {v:Evs} {κ:Kp} {M:Mp} {δ:DSt} {h h':aA} {s:Shared} {a b c e o tg iter:Expr} {es:List Expr} {pos p p2 apos:Pos} {x m:Str} {w:W}
theorem aL3 {h1:aA} {j:Nat} (hp:(match W.c j with
  | .c j=>(match h1[j]? with
   | some (.l _)=>true
   | some (.r _)=>true
   | _=>false)
  | _=>false)=true):(∃ xs,DL.ref h1 (.c j)=some (.list xs))\/∃ i xs,W.c j=.c i/\h1[i]?=some (.r xs):=by
 dsimp only at hp;split at hp
 ·rename_i xs e;exact .inl ⟨xs,by unfold DL.ref;dsimp only;rw [e]⟩
 ·rename_i xs e;exact .inr ⟨j,xs,rfl,e⟩
 ·cases hp
def aX6 {S:Sx} {A:Around} {E:Value->Shared->Prop} {i k:Nat} {p:Addr×Addr} {is:List Nat} {u:Value} (R:Mem S κ M h s) (ep:M.m[i]?=some p) (ei:h[i]?=some (.r is)) (hz:is.length < sizeLine) (rx:RepW S M (.c k) u):Wp S A (call (.builtin "list.append") [.ref p.1,u]) (Pw S κ M (h.set i (.r (is++[k]))) (.d .none)) E s:=by
 obtain ⟨us,n,e,hl,r⟩:=R.cel i p _ ep ei;have hlen:=r.length;rw [List.length_map] at hlen;refine call_meets F.slot_list_append ⟨_,e,rfl⟩ F.entry_list_append (F.args_list_append_2 _ _) (PySem.list_append p.1 us.toArray n u (by rw [List.size_toArray];omega)) ⟨e,?_⟩;exact (R.lset (t:=s.toks) (us':=us++[u]) (c:=.r (is++[k])) ep e (by simp) fun h2 n' e'=>⟨_,n',e',by rw [List.length_append,List.length_singleton];omega,by rw [List.map_append];exact Paired.snoc r rx⟩).pn
def pdl {α β:Type} {F:α->β->Prop} {l:List α} {r:List β} (p:Paired F l r):Paired F l.dropLast r.dropLast:=by
 rw [List.dropLast_eq_take,List.dropLast_eq_take,p.length];exact tA _ p
def bF8 {α β:Type} {F:α->β->Prop} {l:List α} {r:List β} {a:α} (p:Paired F l r) (e:l.getLast?=some a):∃ b,r.getLast?=some b/\F a b:=by
 rw [List.getLast?_eq_getElem?] at e ⊢;rw [<- p.length];exact hU p e
def aX7 {S:Sx} {A:Around} {E:Value->Shared->Prop} {x w:W} {h':aA} {u:Value} (R:Mem S κ M h s) (r:RepW S M x u) (e:rH x h=some (w,h')):(∃ b us n,u=.ref b/\s.heap.get? b=some (bB us n))/\Wp S A (call (.builtin "list.pop") [u]) (Pw S κ M h' w) E s:=by
 have go:∀ {i:Nat} {p:Addr×Addr} {us:List Value} {n:Nat} {c:Cell} {y:Value} {w:W},M.m[i]?=some p->s.heap.get? p.1=some (bB us n)->us.length<=sizeLine->us.getLast?=some y->RepW S M w y->(∀ (h2:Heap) (n':Nat),h2.get? p.1=some (bB us.dropLast n')->CellOk S M h2 p c)->Wp S A (call (.builtin "list.pop") [.ref p.1]) (Pw S κ M (h.set i c) w) E s:=fun {i p us n c y w} ep ho hz hy ry hc=>by
  refine call_meets F.slot_list_pop ⟨_,ho,rfl⟩ F.entry_list_pop (F.args_list_pop_1 _) (MeetsSeq.list_pop_last p.1 us.toArray n y (by simpa [List.getLast?_eq_getElem?,Array.back?] using hy) (by rw [List.size_toArray];omega)) ⟨ho,?_⟩;exact (R.lset (t:=s.toks) (us':=us.dropLast) (c:=c) ep ho (by simp) hc).pw ry
 unfold rH at e;split at e
 ·rename_i j;obtain ⟨p,ep,rfl⟩:=r;split at e
  ·rename_i xs ej;obtain ⟨y,ey,e⟩:=map_some e;cases e;obtain ⟨us,n,ho,hz,rr⟩:=R.cel j p _ ep ej;obtain ⟨b,eb,rb⟩:=bF8 rr ey;exact ⟨⟨_,us,n,rfl,ho⟩,go ep ho hz eb rb fun h2 n' e'=>⟨_,n',e',by rw [List.length_dropLast];omega,pdl rr⟩⟩
  ·rename_i is ej;obtain ⟨y,ey,e⟩:=map_some e;cases e;obtain ⟨us,n,ho,hz,rr⟩:=R.cel j p _ ep ej;obtain ⟨b,eb,rb⟩:=bF8 (tB rr) ey;exact ⟨⟨_,us,n,rfl,ho⟩,go ep ho hz eb rb fun h2 n' e'=>⟨_,n',e',by rw [List.length_dropLast];omega,by rw [List.map_dropLast];exact pdl rr⟩⟩
  ·cases e
 ·cases e
def bM3 (S:Snd v) (G:Good X st d) (ho:fN o=true) (hl:(apos.endLine==pos.line)=true):SE X (.Call (.Attribute o "pop" apos) [] [] pos) (bE9 v st o):=by
 intro κ M δ h s w h' R F e;obtain ⟨x,h1,e1,e⟩:=aF e;refine wpAny_Call_method_late (lY ho _ _) (by rfl) hl rfl (thn (S.E G o R F e1) fun u s1 ⟨M1,l1,R1,r1⟩=>?_);obtain ⟨⟨b,us,n,rfl,hob⟩,hw⟩:=aX7 (A:=X.A) (E:=NE) R1 r1 e;refine ⟨"list",_,PySem.F.plainAttrs_list,PySem.F.slot_list_pop,PySem.F.type_list_pop,(cK hob).isList.typeIs,fun c ec=>by cases ec;exact ⟨_,hob,rfl⟩,?_⟩;exact Calls.callWith_builtin rfl (evalArgs_nil3 (thn hw fun _ _ q=>q.go l1))
def bM4 (S:Snd v) (G:Good X st d) {g:W->List W->aA->Option (W×aA)} (hg:bI8 m=some g) (ho:fN o=true) (hl:(apos.endLine==pos.line)=true) (hn:(a::es).length < 29):SE X (.Call (.Attribute o m apos) (a::es) [] pos) (bE8 v st o m g (a::es)):=by
 intro κ M δ h s w h' R F q0;obtain ⟨x,h1,e1,q1⟩:=aF q0;obtain ⟨hp,q2⟩:=aE q1;obtain ⟨⟨ws,h2⟩,e2,e⟩:=bind_some q2;clear q0 q1 q2;unfold bI8 at hg;split at hg
 ·rename_i hm;subst hm;cases hg;unfold eP at hp;rw [if_pos rfl] at hp;unfold rG at e;dsimp only at e;split at e
  ·rename_i j z;refine rT S G PySem.F.slot_list_append PySem.F.type_list_append ho hl hn R F e1 (aL3 hp) e2 fun {M2 u us s2} l2 R2 r2 rs=>?_;split at e
   ·rename_i xs ej;obtain ⟨hz,e⟩:=aE e;cases e;obtain ⟨u1,rfl,ru⟩:=w1 rs;obtain ⟨p,ep,rfl⟩:=r2;exact thn (bL2 R2 ep ej hz ru) fun _ _ q=>q.go l2
   ·cases e
  ·rename_i j k;refine rT S G PySem.F.slot_list_append PySem.F.type_list_append ho hl hn R F e1 (aL3 hp) e2 fun {M2 u us s2} l2 R2 r2 rs=>?_;split at e
   ·rename_i is ej;obtain ⟨hz,e⟩:=aE e;cases e;obtain ⟨u1,rfl,ru⟩:=w1 rs;obtain ⟨p,ep,rfl⟩:=r2;exact thn (aX6 R2 ep ej hz ru) fun _ _ q=>q.go l2
   ·cases e
  ·cases e
 ·split at hg
  ·rename_i hm;subst hm;cases hg;dsimp only at e;split at e
   ·rename_i xs z;obtain ⟨hz,e⟩:=aE e;obtain ⟨j,ej,e⟩:=map_some e;cases e;refine rT S G PySem.F.slot_list_index PySem.F.type_list_index ho hl hn R F e1 (.inl ⟨xs,rfl⟩) e2 fun {M2 u us s2} l2 R2 r2 rs=>?_;obtain ⟨u1,rfl,ru⟩:=w1 rs;exact thn (aK4 (x:=.d .none) G.rm R2 r2 ru hz ej) fun _ _ q=>q.go l2
   ·cases e
  ·cases hg
def cA1 (S:Snd v) (G:Good X st d) (ho:fN o=true) (hl:(apos.endLine==pos.line)=true):SE X (.Call (.Attribute o "pop" apos) [a] [] pos) (bW1 v st o a):=by
 intro κ M δ h s w h' R F e;obtain ⟨x,h1,e1,e⟩:=aF e;rcases x with _ | j
 ·cases e
 dsimp only at e;split at e
 ·rename_i xs0 ej;obtain ⟨⟨ws,h2⟩,e2,e⟩:=bind_some e;refine rT S G PySem.F.slot_list_pop PySem.F.type_list_pop ho hl (by decide:1 < 29) R F e1 (.inl ⟨xs0,by unfold DL.ref;dsimp only;rw [ej]⟩) e2 fun {M2 u us s2} l2 R2 r2 rs=>?_;have e:aA6 j ws h2=some (w,h'):=e;rcases ws with _ | ⟨(_ | _ | i | _ | _ | _ | _) | _,_ | ⟨_,_⟩⟩<;>first | cases e;done | skip
  unfold aA6 at e;rcases ej2:h2[j]? with _ | c
  ·rw [ej2] at e;cases e
  rw [ej2] at e;cases c<;>first | (cases e;done) | skip
  rename_i i xs;obtain ⟨n,en,e⟩:=bind_some e;obtain ⟨z,ez,e⟩:=bind_some e;obtain ⟨⟨q1,q2⟩,e⟩:=aE e;cases e;obtain ⟨u1,rfl,ru⟩:=w1 rs;obtain ⟨t,rfl⟩:=wi.mp ru;obtain ⟨p,ep,rfl⟩:=r2;exact thn (bL3 R2 ep ej2 en ez q1 q2) fun _ _ q=>q.go l2
 ·cases e
def cA2 (S:Snd v) (G:Good X st d) (ho:fN o=true) (hl:(apos.endLine==pos.line)=true) (hs:aG a=true):SE X (.Call (.Attribute o "extend" apos) [a] [] pos) (bW2 v st o a):=by
 intro κ M δ h s w h' R F e;obtain ⟨x,h1,e1,e⟩:=aF e;rcases x with _ | j
 ·cases e
 dsimp only at e;split at e
 ·rename_i xs0 ej;obtain ⟨⟨ys,h2⟩,e2,e⟩:=bind_some e;have hst:([a]:List Expr).all aG=true:=by rw [List.all_cons,hs];rfl
  refine wpAny_Call_method_late (lY ho _ _) (wB hst (by decide:1 < 29) _ _) hl rfl (thn (S.E G o R F e1) fun u s1 ⟨M1,l1,R1,r1⟩=>?_);obtain ⟨p,ep,rfl⟩:=r1;obtain ⟨us,n,hob,_⟩:=R1.cel j p _ ep ej;refine ⟨"list",_,PySem.F.plainAttrs_list,PySem.F.slot_list_extend,PySem.F.type_list_extend,(cK hob).isList.typeIs,fun c ec=>by cases ec;exact ⟨_,hob,rfl⟩,?_⟩;have hsp:=gO (pos:=pos) (E:=NE) hs (P:=fun us s2=>Wp X.S X.A (call (.builtin "list.extend") (.ref p.1::us)) (Pw X.S κ M h' w) NE s2) (thn (S.F G a R1 (F.go l1) e2) fun u2 s2 ⟨M2,l2,R2,b,vs,m,eb,hb,fb,hz,rb⟩=>?_)
  ·have han:=cC (X:=X) pos [a] hst;rw [bW (es:=[]) a hs] at hsp han ⊢;exact Calls.callWith_builtin han (Calls.evalArgs_plain hsp)
  subst eb;dsimp only at e;split at e
  ·rename_i xs ej2;obtain ⟨hz2,e⟩:=aE e;cases e;exact thn (bL4 R2 (l2.at ep) ej2 hb rb hz2) fun _ _ q=>q.go (l1.trans l2)
  ·cases e
 ·cases e
def aL4:SI X tg iter xno:=fun _ _ _ _ _ _ _ _ _ e=>by cases e
def aL5 (h:yA tg=true):∃ es k p,tg=.Tuple es k p:=by
 cases tg<;>first | exact ⟨_,_,_,rfl⟩ | cases h
def rV (S:Snd v):ItS v:=by
 intro X st d G tg iter;unfold pD;cases hq:itS iter with
 | some y =>
  obtain ⟨⟨x,a,ob⟩,p,pos,he⟩:=y;clear hq;subst he;cases ob with
  | none =>
  dsimp only;split
  ·rename_i hx;subst hx;split
   ·rename_i hc;rw [Bool.and_eq_true] at hc;exact bK4 S G hc.1 hc.2
   ·exact aL4
  ·split
   ·rename_i hx;subst hx;split
    ·rename_i hc;rw [Bool.and_eq_true,Bool.and_eq_true] at hc;obtain ⟨es,k,p,rfl⟩:=aL5 hc.2;exact bL7 S G hc.1.1 hc.1.2
    ·exact aL4
   ·exact vS S G
  | some b =>
  dsimp only;split
  ·rename_i hx;subst hx;split
   ·rename_i hc;rw [Bool.and_eq_true,Bool.and_eq_true] at hc;exact bK5 S G hc.1.1 hc.1.2 hc.2
   ·exact aL4
  ·split
   ·rename_i hx;subst hx;split
    ·rename_i hc;rw [Bool.and_eq_true,Bool.and_eq_true,Bool.and_eq_true] at hc;obtain ⟨es,k,p,rfl⟩:=aL5 hc.2;exact bZ9 S G hc.1.1.1 hc.1.1.2 hc.1.2
    ·exact aL4
   ·exact vS S G
 | none =>
  dsimp only;split
  ·exact aL4
  ·exact vS S G
def cA3 (S:Snd v) (G:Good X st d):SE X e (bJ1 v st e):=by
 unfold bJ1;cases hq:lcS e with
 | some y =>
  obtain ⟨⟨tg,iter,ifs,a,sc⟩,lp,p,he⟩:=y;clear hq;subst he;dsimp only;split
  ·rename_i ha;subst ha;unfold aH9;split
   ·rename_i hc;rw [Bool.and_eq_true] at hc;have hset:iQ iter=false:=by simpa using hc.2
    intro κ M δ h s w h' R F e;obtain ⟨⟨all,c⟩,h1,e1,e⟩:=aF e;obtain ⟨⟨is,h2⟩,e2,e3⟩:=bind_some e;cases e3;refine thn (aK1 G.rm.hd (by rw [G.S,G.N];exact lX hc.1) (rV S G tg iter) (fun cl C=>S.G (cO G cl C) tg) (fun cl C=>vW S (cO G cl C) ifs) (fun cl C=>?_) (rR hset _) R F e1 (jY e2)) fun _ _ p=>cO5 p;exact pL (vP (es:=[]) S (cO G cl C))
   ·exact bY
  ·exact bY
 | none=>exact S.E G _
end
end DL

namespace DL
open PySem PySem.Spec PyProof.Rows L2 CI
theorem pZ {q:Pos×Str} {c:Addr}:∀ {qs:List (Pos×Str)} {cs:List Addr},qs.length=cs.length->dQ (qs++[q]) (cs++[c])=dQ qs cs++[rawInt q.1.line,rawInt q.1.col,.ref c]
 | [],[],_=>rfl
 | [],_::_,h=>by simp at h
 | _::_,[],h=>by simp at h
 | p::qs,d::cs,h=>by
  show rawInt _::rawInt _::Value.ref d::dQ (qs++[q]) (cs++[c])=_;rw [pZ (by simpa using h)];rfl
def aX8 (l:List Value) (h:TriplesOk l):∀ (qs:List (Pos×Str)) (cs:List Addr),TriplesOk (l++dQ qs cs):=by
 have base:∀ (qs:List (Pos×Str)) (cs:List Addr),TriplesOk (dQ qs cs):=by
  intro qs;induction qs with
  | nil=>intro cs;exact True.intro
  | cons q qs ih =>
   intro cs;cases cs with
   | nil=>exact True.intro
   | cons c cs=>exact ih cs
 intro qs cs
 fun_induction TriplesOk l with
 | case1=>exact base qs cs
 | case2 a' t b' u x rest ih=>simp only [List.cons_append,TriplesOk];exact ih h
 | case3 l h1 h2=>exact h.elim
def among_trip {pos:Pos} {l:List Value} (h:TriplesOk l) (hn:codeAmong pos l=none):∀ {qs:List (Pos×Str)} {cs:List Addr},qs.length=cs.length ->
  (qs.find? (atP pos)=none/\codeAmong pos (l++dQ qs cs)=none)\/∃ (q:Pos×Str) (c:Addr) (i:Nat),qs.find? (atP pos)=some q/\qs[i]?=some q/\cs[i]?=some c/\codeAmong pos (l++dQ qs cs)=some (.ref c):=by
 have base:∀ {qs:List (Pos×Str)} {cs:List Addr},qs.length=cs.length->(qs.find? (atP pos)=none/\codeAmong pos (dQ qs cs)=none)\/∃ (q:Pos×Str) (c:Addr) (i:Nat),qs.find? (atP pos)=some q/\qs[i]?=some q/\cs[i]?=some c/\codeAmong pos (dQ qs cs)=some (.ref c):=by
  intro qs;induction qs with
  | nil=>intro cs _;exact .inl ⟨rfl,rfl⟩
  | cons q qs ih =>
   intro cs hl;cases cs with
   | nil=>simp at hl
   | cons c cs =>
    have e:codeAmong pos (dQ (q::qs) (c::cs))=if atP pos q=true then some (.ref c) else codeAmong pos (dQ qs cs):=by
     show (if ((q.1.line:Int)==pos.line&&(q.1.col:Int)==pos.col)=true then _ else _)=_;have e1:(((q.1.line:Int)==pos.line)&&((q.1.col:Int)==pos.col))=atP pos q:=by
      unfold atP;rw [Bool.eq_iff_iff];simp only [Bool.and_eq_true,beq_iff_eq];omega
     rw [e1]
    rw [e,List.find?_cons];cases ha:atP pos q with
    | true=>exact .inr ⟨q,c,0,rfl,rfl,rfl,rfl⟩
    | false =>
     rw [if_neg Bool.false_ne_true];rcases ih (cs:=cs) (by simpa using hl) with ⟨a,b⟩ | ⟨q',c',i,a,b,d,f⟩
     ·exact .inl ⟨a,b⟩
     ·exact .inr ⟨q',c',i+1,a,by simpa using b,by simpa using d,f⟩
 intro qs cs hl;have e:codeAmong pos (l++dQ qs cs)=codeAmong pos (dQ qs cs):=by
  fun_induction TriplesOk l with
  | case1=>rfl
  | case2 a t b u x rest ih =>
   simp only [List.cons_append,codeAmong] at hn ⊢;split at hn
   ·cases hn
   ·rename_i hc;rw [if_neg hc];exact ih h hn
  | case3 l h1 h2=>exact h.elim
 rw [e];exact base hl
section
variable {X:Cx} {st:Sta} {d:Nat} {v:Evs} {κ:Kp} {M:Mp} {δ:DSt} {h h':aA} {s:Shared} {E:Value->Shared->Prop}
def aL6 {params:Arguments} {body:Expr} {scope:Scope} {pos:Pos} {c0:Addr} {j:Nat} {qs qs':List (Pos×Str)} {clos:List (Str×Addr)} (R:Mem X.S κ M h s) (F:Fra X κ M δ) (T:TbS X.S c0 pos) (hcode:X.env.code=.ref c0) (hcl:closureFor scope X.env=pure clos) (hdef:defaultsOf params X.env=([],[]))
  (eh:h[j]?=some (.t qs)) (eq:tD pos (X.env.qual++"<lambda>") qs=some qs') :
  Wp X.S X.A (eval (.Lambda params body scope pos) X.env) (fun u s'=>∃ f cc pm ctv M',u=.ref f/\Le M M'/\Mem X.S κ M' (h.set j (.t qs')) s'/\bK κ M' f/\s'.heap.get? f=some (PySem.W.kla_obj "<lambda>" (X.env.qual++"<lambda>") params body scope clos pm cc ctv)/\bE7 M'.Z (pos,X.env.qual++"<lambda>") cc) E s:=by
 refine PySem.W.kla_eval hdef ?_;obtain ⟨pP,ej⟩:∃ p,M.m[j]?=some p:=⟨_,List.getElem?_eq_getElem (by rw [R.len];exact (List.getElem?_eq_some_iff.mp eh).1)⟩;obtain ⟨cs,oP,rc,ep⟩:=R.cel j _ _ ej eh;subst ep;have oP:s.heap.get? X.S.tp=some (PySem.W.tabObj (X.S.tb++(dQ qs cs).toArray)):=oP;have hl:=rc.length;have kin:=F.ok.mod.kin.keeps R.bk;have C:=PySem.W.codeHd_of_K kin T.hd;have bm:s.heap.BuiltinsAt X.S.mg X.S.tp:=by
  obtain ⟨b,o,h1,h2,h3,h4,h5,h6⟩:=T.bm;exact ⟨b,o,h1,h2,h3,h4,R.bk _ _ h5,h6⟩
 have hg:s.heap.Ns mainGlobals X.S.mg:=F.ok.mod.glob.keeps R.bk;have hgP:mainGlobals≠X.S.tp:=fun q=>by
  obtain ⟨o,es,ep,e,hd,_⟩:=hg;rw [q,oP] at e;cases e;cases hd
 have etl:(X.S.tb++(dQ qs cs).toArray).toList=X.S.tb.toList++dQ qs cs:=by simp
 have ht:TriplesOk (X.S.tb++(dQ qs cs).toArray).toList:=by rw [etl];exact aX8 _ T.tr _ _
 have hset:∀ {c:Cell},h[j]?=some c->h.set j c=h:=fun e=>List.ext_getElem? fun i=>by
  by_cases z:i=j
  ·subst z;rw [List.getElem?_set_self (List.getElem?_eq_some_iff.mp e).1,e]
  ·rw [List.getElem?_set_ne (Ne.symm z)]
 unfold tD at eq;rcases among_trip T.tr T.no hl with ⟨e1,e2⟩ | ⟨q,c,i,e1,e2,e3,e4⟩
 ·rw [e1] at eq;cases eq;refine PySem.W.kla_makeFunction hcl F.ok.glob hg hcode C oP ht (by rw [etl];exact e2) hgP bm fun cc ctv h1 tk hx hge hlt hrec htb=>?_;obtain ⟨c',oc,vs,t,q1,q2,q3,q4⟩:=hrec;cases q1;have hP2:=R.off _ (List.mem_of_getElem? ej) X.S.tp (.inl rfl);have fcc:bK κ M cc:=R.new (Heap.get?_none_of_le hge);have ncP:cc≠X.S.tp:=fun z=>by obtain ⟨_,_,o,ho⟩:=hP2;rw [<- z] at ho;exact absurd (Heap.lt_size ho) (Nat.not_lt_of_le hge)
  have g2:(h1.push (PySem.W.kla_obj "<lambda>" (X.env.qual++"<lambda>") params body scope clos ((X.S.mg "__name__").getD .none) cc ctv)).get? X.S.tp=_:=Heap.get?_push_of_some _ htb;have kk:∀ b o,b≠X.S.tp->s.heap.get? b=some o->(h1.push (PySem.W.kla_obj "<lambda>" (X.env.qual++"<lambda>") params body scope clos ((X.S.mg "__name__").getD .none) cc ctv)).get? b=some o:=fun b o hb e=>Heap.get?_push_of_some _ (hx b o hb e);have hsz:s.heap.objs.size<=h1.objs.size:=Nat.le_trans hge (Nat.le_of_lt hlt);have gf:(h1.push (PySem.W.kla_obj "<lambda>" (X.env.qual++"<lambda>") params body scope clos ((X.S.mg "__name__").getD .none) cc ctv)).get? h1.objs.size=_:=Heap.get?_push_size _ rfl;have gc2:=Heap.get?_push_of_some (PySem.W.kla_obj "<lambda>" (X.env.qual++"<lambda>") params body scope clos ((X.S.mg "__name__").getD .none) cc ctv) q2;generalize (h1.push (PySem.W.kla_obj "<lambda>" (X.env.qual++"<lambda>") params body scope clos ((X.S.mg "__name__").getD .none) cc ctv))=h2 at g2 kk gf gc2 ⊢;have gm:(h2.update X.S.tp fun _=>PySem.W.tabObj (X.S.tb++(dQ qs cs).toArray)).get? X.S.tp=some (PySem.W.tabObj (X.S.tb++(dQ qs cs).toArray)):=Heap.get?_update_self _ g2 rfl;have go:∀ b,b≠X.S.tp->(h2.update X.S.tp fun _=>PySem.W.tabObj (X.S.tb++(dQ qs cs).toArray)).get? b=h2.get? b:=fun b hb=>Heap.get?_update_other _ _ (Ne.symm hb);have R1:Mem X.S κ M h { s with heap:=h2.update X.S.tp fun _=>PySem.W.tabObj (X.S.tb++(dQ qs cs).toArray),toks:=tk }:=R.keep (fun b o e _=>by
   by_cases hb:b=X.S.tp
   ·subst hb;rw [oP] at e;cases e;exact gm
   ·exact (go b hb).trans (kk b o hb e)) R.bare rfl
  have R2:=R1.frz fcc ((go cc ncP).trans gc2);have R3:Mem X.S κ (M.add cc oc) (h.set j (.t (qs++[(pos,X.env.qual++"<lambda>")]))) { s with heap:=h2,toks:=tk }:=R2.wr (p:=(X.S.tp,X.S.tp)) (s':={ s with heap:=h2,toks:=tk }) ej (fun b o n1 _ q=>by rw [go b n1] at q;exact q) ⟨⟨_,g2⟩,_,g2⟩ R.bare rfl
   ⟨cs++[cc],by rw [g2,pZ hl];simp,Paired.snoc (rA (fun _ _ ⟨o,vs,t,a,b⟩=>⟨o,vs,t,(Le.add fcc.1).z _ _ a,b⟩) rc) ⟨oc,vs,t,iO,q3,q4⟩,rfl⟩
  have ff:bK κ M h1.objs.size:=R.new (Heap.get?_none_of_le hsz);exact ⟨h1.objs.size,cc,_,ctv,M.add cc oc,rfl,Le.add fcc.1,R3,⟨by show (if _=cc then some oc else M.Z _)=none;rw [if_neg (Nat.ne_of_gt hlt)];exact ff.1,ff.2⟩,gf,⟨oc,vs,t,iO,q3,q4⟩⟩
 ·rw [e1] at eq;obtain ⟨hq,eq⟩:=aE eq;cases eq;rw [hset eh];refine PySem.W.kla_makeFunctionHit hcl F.ok.glob hg hcode C oP ht (by rw [etl];exact e4) bm fun ctv h1 tk k sz=>?_;have kk:∀ b o,s.heap.get? b=some o->(h1.push (PySem.W.kla_obj "<lambda>" (X.env.qual++"<lambda>") params body scope clos ((X.S.mg "__name__").getD .none) c ctv)).get? b=some o:=fun b o e=>Heap.get?_push_of_some _ (k b o e);obtain ⟨c',e5,o,vs,t,z1,z2,z3⟩:=hU rc e2;rw [e3] at e5;cases e5;exact ⟨h1.objs.size,c,_,ctv,M,rfl,.refl,R.kept (t:=tk) kk,R.new (Heap.get?_none_of_le sz),Heap.get?_push_size _ rfl,⟨o,vs,t,z1,z2,by rw [show (pos,X.env.qual++"<lambda>").2=_ from hq.symm];exact z3⟩⟩
abbrev cA4 (sc:Scope) (q:Str) (L f cc:Addr) (cl:List (Str×Addr)):Env:=newEnv sc L mainGlobals cl (q++".<locals>.") (some f) (.ref cc) none builtinsNs
abbrev cxL (X:Cx) (A:Around) (N':List Str) (sc:Scope) (q:Str) (L f cc:Addr) (cl:List (Str×Addr)):Cx:=⟨X.S,A.deeper (cA4 sc q L f cc cl),N',cA4 sc q L f cc cl,false⟩
variable {N':List Str} {ixs:List (Option Nat)} {sc:Scope} {cl:List (Str×Addr)} {A:Around} {q par:Str} {L f cc:Addr} {i0:Nat} {u:Value} {w:W}
def aB8 {κ':Kp} {o:Obj} (F:Fra X κ M δ) (SC:CompSc X.N N' ixs X.env.scope sc) (hcl1:∀ x c,cl.lookup x=some c->X.env.cells.lookup x=some c) (hcl2:∀ y∈sc.names,y.2=.free->∃ c,cl.lookup y.1=some c)
  (k:∀ a,κ a≠none->κ' a=κ a) (hL:κ' L=some (false,o)) (ho:aI8 o fun x=>List.lookup x [(par,u)]) (hb:X.S.base.objs.size<=L) (hp:N'[i0]?=some par) (hpl:sc.names.lookup par=some .local) (hi:ixs[i0]?=some none) (ru:RepW X.S M w u) :
  Fra (cxL X A N' sc q L f cc cl) κ' M ((aP ixs δ).set i0 (some w)):=by
 have hlen:(aP ixs δ).length=N'.length:=by
  unfold aP;rw [List.length_map];exact SC.len
 refine ⟨⟨F.ok.mod,SC.kind,rfl,rfl,fun x y c e1 e2=>F.ok.inj x y c (hcl1 x c e1) (hcl1 y c e2),fun x hx=>?_,hb,SC.nd⟩,by rw [List.length_set];exact hlen,⟨o,_,hL,ho,fun j x w' e1 e2 e3=>?_⟩,fun x c e=>?_⟩
 ·have hx:sc.names.lookup x=some .cell\/sc.names.lookup x=some .free:=hx;rcases hx with hx | hx
  ·exact absurd rfl (SC.nocell _ (PySem.mem_of_lookup hx))
  ·exact hcl2 _ (PySem.mem_of_lookup hx) rfl
 ·by_cases hj:j=i0
  ·subst hj;have e1:N'[j]?=some x:=e1;rw [hp] at e1;cases e1;rw [List.getElem?_set_self (by rw [hlen];exact (List.getElem?_eq_some_iff.mp hp).1)] at e2;cases e2;exact ⟨u,ru,.inl ⟨hpl,by simp [List.lookup]⟩⟩
  ·rw [List.getElem?_set_ne (Ne.symm hj)] at e2;obtain ⟨i,ei,ev⟩:=yN e2;obtain ⟨eN,ef⟩:=SC.at e1 ei;have hm:=PySem.mem_of_lookup ef;have hvis:X.env.scope.names.lookup x=some .cell\/X.env.scope.names.lookup x=some .free:=SC.free _ hm rfl;obtain ⟨_,m,_,_,hl⟩:=F.loc;obtain ⟨u',r,l⟩:=hl i x w' eN ev (.inr hvis);refine ⟨u',r,?_⟩;rcases l with ⟨hk,_⟩ | ⟨_,c,oc,ec,eo,ed⟩
   ·have hk':X.env.scope.names.lookup x=some .local:=hk;rcases hvis with z | z
    ·rw [hk'] at z;cases z
    ·rw [hk'] at z;cases z
   ·obtain ⟨c',ec'⟩:=hcl2 _ hm rfl;have e5:=hcl1 _ _ ec';rw [ec] at e5;have e6:c=c':=Option.some.inj e5;subst e6;exact .inr ⟨.inr ef,c,oc,ec',by rw [k c (by rw [eo];exact fun z=>nomatch z)];exact eo,ed⟩
 ·obtain ⟨oc,v,e1,e2⟩:=F.cell x c (hcl1 x c e);exact ⟨oc,v,by rw [k c (by rw [e1];exact fun z=>nomatch z)];exact e1,e2⟩
def aX9 {params:Arguments} {body:Expr} {pm ctv:Value} {te:XR W} {z:W} (hdep:A.depth < recursionLimit) (R:Mem X.S κ M h s) (F:Fra X κ M δ) (SC:CompSc X.N N' ixs X.env.scope sc) (hcl1:∀ x c,cl.lookup x=some c->X.env.cells.lookup x=some c) (hcl2:∀ y∈sc.names,y.2=.free->∃ c,cl.lookup y.1=some c)
  (hf:s.heap.get? f=some (PySem.W.kla_obj "<lambda>" q params body sc cl pm cc ctv)) (hcd:s.heap.CodeRec (.ref cc) q) (hbd:∀ fd:FuncData,fd.params=params->fd.defaults=.none->fd.kwdefaults=.none->bindArgs fd ⟨[u],[]⟩=pure [(par,u)]) (hco:sc.isCoroutine=false) (hgen:sc.isGenerator=false)
  (hp:N'[i0]?=some par) (hpl:sc.names.lookup par=some .local) (hi:ixs[i0]?=some none) (ru:RepW X.S M w u) (he:∀ L,SE (cxL X A N' sc q L f cc cl) body te) (e:te ((aP ixs δ).set i0 (some w)) h=some (z,h')) :
  Wp X.S A (call (.ref f) [u]) (Pw X.S κ M h' z) E s:=by
 refine wpAny_call (PySem.W.kla_callFunE hdep hf rfl hco hgen rfl hcd ?_);rw [hbd _ rfl rfl rfl];refine wpAny_pure (wpAny_newFunctionEnv SC.nocell (fun y hy=>by rw [List.mem_singleton.mp hy];exact hpl) (fun h1 hns hsb=>?_) SC.kind);have kk:∀ b o,s.heap.get? b=some o->h1.get? b=some o:=fun b o e=>hsb.extBut b o (Nat.ne_of_lt (Heap.lt_size e)) (Heap.get?_push_of_some _ e);have R1:Mem X.S κ M h { s with heap:=h1,toks:=s.toks+1 }:=R.kept kk;obtain ⟨o,es,ep,ho,hd,hs,hf2⟩:=hns;have f0:=R.size;have R2:=R1.more (b:=false) ⟨f0.1,f0.2.2⟩ ho;have F2:=aB8 (A:=A) (q:=q) (f:=f) (cc:=cc) (κ':=κ.up s.heap.objs.size (false,o)) F SC hcl1 hcl2 (fun a ha=>bL fun z=>ha (by rw [z];exact f0.2.1)) dJ ⟨es,ep,hd,hs,hf2⟩ (F.size R) hp hpl hi ru;refine ⟨(F.ok.mod.nolimit.keeps R1.bk),PySem.W.kla_codeExpr (wpAny_mono (he _ R2 F2 e) (fun u' s2 ⟨M2,l2,R3,r3⟩=>?_) fun _ _ z=>z.elim)⟩;exact ⟨M2,l2,R3.less fun a x q=>by rw [bL fun z=>by rw [z,f0.2.1] at q;cases q];exact q,r3⟩
end
end DL

namespace ST
open PySem PySem.Spec PyProof.Rows PySem.W
noncomputable def oR {α:Type} (lt:Nat->Nat->Bool):KasT α->α
 | .ret a=>a
 | .ask i j k=>oR lt (k (lt i j))
noncomputable def qA {α:Type} (n:Nat) (lt:Nat->Nat->Bool):KasT α->Bool
 | .ret _=>true
 | .ask i j k=>Nat.blt i n&&(Nat.blt j n&&(!(Nat.beq i j)&&qA n lt (k (lt i j))))
theorem aL7 {α:Type} {cmp:Nat->Nat->(Bool->Shared->Prop)->Shared->Prop} {n:Nat} {lt lt':Nat->Nat->Bool} {s:Shared}
  (hc:∀ i j,i < n->j < n->i≠j->∀ C:Bool->Shared->Prop,C (lt i j) s->cmp i j C s) (he:∀ i j,i < n->j < n->lt i j=lt' i j):∀ (T:KasT α) (G:α->Shared->Prop),qA n lt' T=true->G (oR lt' T) s->KasT.kasWp cmp T G s
 | .ret a,G,_,h=>h
 | .ask i j k,G,ht,h=>by
  simp only [qA,Bool.and_eq_true,Nat.blt_eq,Bool.not_eq_true'] at ht;obtain ⟨h1,h2,h3,h4⟩:=ht;refine hc i j h1 h2 (fun z=>by subst z;rw [Nat.beq_refl] at h3;cases h3) _ ?_;rw [he i j h1 h2];exact aL7 hc he (k (lt' i j)) G h4 h
noncomputable def rlt (r:List Nat) (i j:Nat):Bool:=Nat.blt (r.getD i 0) (r.getD j 0)
def lB (lt:Nat->Nat->Bool) (n:Nat):Bool :=
 qA n lt (kas_sort n)&&(let p:=(oR lt (kas_sort n)).toList
 Nat.beq p.length n&&(p.all fun i=>Nat.blt i n)&&((List.range n).all fun i=>Nat.beq (p.count i) 1)&&((List.range n).all fun i=>(List.range n).all fun j=>!(Nat.blt i j)||lt (p.getD i 0) (p.getD j 0)))
noncomputable def wC (f:List Nat->Bool):Nat->List Nat->List Nat->Bool
 | 0,_,acc=>f acc.reverse
 | n+1,av,acc=>av.all fun x=>wC f n (av.erase x) (x::acc)
theorem gP {f:List Nat->Bool}:∀ {n:Nat} {av acc r:List Nat},wC f n av acc=true->av.length=n->r.Perm av->f (acc.reverse++r)=true
 | 0,av,acc,r,h,hl,hp=>by
  have e:r=[]:=List.eq_nil_of_length_eq_zero (by rw [hp.length_eq];exact hl);subst e;rw [List.append_nil];exact h
 | n+1,av,acc,[],h,hl,hp=>by have:=hp.length_eq;simp at this;omega
 | n+1,av,acc,x::r,h,hl,hp=>by
  have hx:x∈av:=hp.mem_iff.mp List.mem_cons_self;have h1:=List.all_eq_true.mp h x hx;have h2:=gP (r:=r) h1 (by rw [List.length_erase_of_mem hx];omega) ((List.cons_perm_iff_perm_erase.mp hp).2);rw [List.reverse_cons,List.append_assoc] at h2;exact h2
def cA5:wC (fun r=>lB (rlt r) 2) 2 (List.range 2) []=true:=by decide +kernel
def cA6:wC (fun r=>lB (rlt r) 3) 3 (List.range 3) []=true:=by decide +kernel
def cA7:wC (fun r=>lB (rlt r) 4) 4 (List.range 4) []=true:=by decide +kernel
def cA8:wC (fun r=>lB (rlt r) 5) 5 (List.range 5) []=true:=by decide +kernel
def cA9:wC (fun r=>lB (rlt r) 6) 6 (List.range 6) []=true:=by decide +kernel
def cB0 {r:List Nat} {n:Nat} (h2:2<=n) (h6:n<=6) (hp:r.Perm (List.range n)):lB (rlt r) n=true:=by
 match n,h2,h6 with
 | 2,_,_=>simpa using gP cA5 (by simp) hp
 | 3,_,_=>simpa using gP cA6 (by simp) hp
 | 4,_,_=>simpa using gP cA7 (by simp) hp
 | 5,_,_=>simpa using gP cA8 (by simp) hp
 | 6,_,_=>simpa using gP cA9 (by simp) hp
def aL8 {lt:Nat->Nat->Bool} {n:Nat} (h:lB lt n=true):qA n lt (kas_sort n)=true/\((oR lt (kas_sort n)).toList.Perm (List.range n))/\(oR lt (kas_sort n)).toList.Pairwise (fun i j=>lt i j=true):=by
 unfold lB at h;rw [Bool.and_eq_true] at h;obtain ⟨h0,h⟩:=h;refine ⟨h0,?_⟩;dsimp only at h;generalize (oR lt (kas_sort n)).toList=p at h;simp only [Bool.and_eq_true,List.all_eq_true,List.mem_range,Bool.or_eq_true,Bool.not_eq_true',Nat.beq_eq,Nat.blt_eq] at h;obtain ⟨⟨⟨h1,h2⟩,h3⟩,h4⟩:=h;constructor
 ·rw [List.perm_iff_count];intro a
  by_cases ha:a < n
  ·rw [h3 a ha,List.Nodup.count (List.nodup_range)];simp [ha]
  ·rw [List.count_eq_zero.mpr fun z=>ha (h2 a z),List.count_eq_zero.mpr fun z=>ha (by simpa using z)]
 ·rw [List.pairwise_iff_getElem];intro i j hi hj hij;have:=h4 i (by omega) j (by omega);rcases this with z | z
  ·rw [<- Bool.not_eq_true,Nat.blt_eq] at z;omega
  ·simpa [List.getD_eq_getElem?_getD,hi,hj] using z
noncomputable def ltK (ks:List Int) (i j:Nat):Bool:=decide (ks.getD i 0 < ks.getD j 0)
def aY0 {ks:List Int} (nd:ks.Nodup):∃ r:List Nat,r.Perm (List.range ks.length)/\∀ i j,i < ks.length->j < ks.length->ltK ks i j=rlt r i j:=by
 have p:(srt ks).Perm ks:=List.mergeSort_perm _ _;have nd':(srt ks).Nodup:=p.nodup_iff.mpr nd;have o:(srt ks).Pairwise (· < ·):=by
  have h:=List.pairwise_mergeSort (le:=fun a b:Int=>decide (a<=b)) (fun a b c h1 h2=>by simp at *;omega) (fun a b=>by simp;omega) ks;have h:(srt ks).Pairwise fun a b=>decide (a<=b)=true:=h;refine (h.and nd').imp fun ⟨h1,h2⟩=>?_;simp at h1;omega
 refine ⟨ks.map (srt ks).idxOf,?_,fun i j hi hj=>?_⟩
 ·refine (p.symm.map _).trans (.of_eq ?_);apply List.ext_getElem
  ·simp [p.length_eq]
  ·intro i h1 h2;simp [nd'.idxOf_getElem]
 ·have key:∀ {x y:Int},x∈ks->y∈ks->(x < y ↔ (srt ks).idxOf x < (srt ks).idxOf y):=fun {x y} hx hy=>by
   have lx:=List.idxOf_lt_length_of_mem (p.mem_iff.mpr hx);have ly:=List.idxOf_lt_length_of_mem (p.mem_iff.mpr hy);have ex:=List.getElem_idxOf lx;have ey:=List.getElem_idxOf ly;have po:=List.pairwise_iff_getElem.mp o;constructor
   ·intro h;rcases Nat.lt_trichotomy ((srt ks).idxOf x) ((srt ks).idxOf y) with z | z | z
    ·exact z
    ·have e:x=y:=by rw [<- ex,<- ey];simp only [z]
     omega
    ·have:=po _ _ ly lx z;rw [ex,ey] at this;omega
   ·intro z;have:=po _ _ lx ly z;rw [ex,ey] at this;exact this
  have k:=key (List.getElem_mem hi) (List.getElem_mem hj);unfold ltK rlt;rw [Bool.eq_iff_iff,decide_eq_true_eq,Nat.blt_eq]
  simpa [List.getD_eq_getElem?_getD,hi,hj] using k
def aY1 {ks:List Int} (nd:ks.Nodup) (h2:2<=ks.length) (h6:ks.length<=6):∃ lt':Nat->Nat->Bool,(∀ i j,i < ks.length->j < ks.length->ltK ks i j=lt' i j)/\qA ks.length lt' (kas_sort ks.length)=true /\
  ((oR lt' (kas_sort ks.length)).toList.Perm (List.range ks.length))/\(oR lt' (kas_sort ks.length)).toList.Pairwise (fun i j=>ltK ks i j=true):=by
 obtain ⟨r,hp,he⟩:=aY0 nd;obtain ⟨h1,h3,h4⟩:=aL8 (cB0 h2 h6 hp);refine ⟨rlt r,he,h1,h3,h4.imp_of_mem fun {i j} hi hj h=>?_⟩;have hi:=h3.mem_iff.mp hi;have hj:=h3.mem_iff.mp hj;rw [he i j (List.mem_range.mp hi) (List.mem_range.mp hj)];exact h
end ST

namespace ST
open PySem PySem.Spec PyProof.Rows PySem.W
section
variable {prog:Program} {w:World} {A:Around} {E:Value->Shared->Prop} {s:Shared}
def tP {a b:Bool} {Q:Bool->Shared->Prop} (h:Q (a==b) s):wpAny (model prog w) A (eqBool (.bool a) (.bool b)) Q E s:=by
 unfold eqBool;show wpAny _ _ (if (Value.bool a==Value.bool b)=true then _ else _) Q E s
 by_cases hab:(Value.bool a==Value.bool b)=true
 ·rw [if_pos hab];have e:a=b:=by have:=eq_of_beq hab;injection this
  subst e;exact wpAny_bind (wpAny_rule (wpAny_pure (by simpa using h)))
 ·rw [if_neg hab];exact wpAny_bind (eq_bool (wpAny_truthy_bool h))
def wD {a b:Bool} {Q:Bool->Shared->Prop} (h:Q (!a&&b) s):wpAny (model prog w) A (oneLt' true (.bool a) (.bool b)) Q E s:=by
 rw [oneLt'_eq];simp only [if_true];refine wpAny_bind (wpAny_cRoomFor_byValue rfl ?_);refine wpAny_bind (wpAny_callSpecialIfBound?_slot (typeIs_bool' s a) PySem.F.slot_bool_lt ?_);refine wpAny_call_entry PySem.F.slot_bool_lt (typeIs_bool' s a) PySem.F.entry_int_lt ?_ (PySem.F.args_int_lt_2 _ _);show wpAny _ _ (ret (.bool (decide ((if a=true then (1:Int) else 0) < (if b=true then (1:Int) else 0))))) _ _ s;refine wpAny_pure ⟨_,rfl,wpAny_truthy_bool ?_⟩;have e:decide ((if a=true then (1:Int) else 0) < (if b=true then (1:Int) else 0))=(!a&&b):=by cases a<;>cases b<;>decide
 rw [e];exact h
noncomputable def oS (a b:Bool) (i:Int):Int:=(if a=true then 2000000 else 0)+(if b=true then 1000000 else 0)+i
def qB (h:Heap) (k:Int) (u:Value):Prop:=∃ (a b:Bool) (i:Int) (t:Tok) (A:Addr) (o:Obj) (n:Nat),u=.ref A/\h.get? A=some o/\o.cls=.type "tuple"/\o.data=.seq #[.bool a,.bool b,.int i t] n/\k=oS a b i/\0<=i/\i < 1000000
def bM5 {x y:Int} {u v:Value} {C:Bool->Shared->Prop} (hx:qB s.heap x u) (hy:qB s.heap y v) (h:C (decide (x < y)) s):wpAny (model prog w) A (keyLt' (tuples' true) u v) C E s:=by
 obtain ⟨a,b,i,t,X,o,n,rfl,h1,h2,h3,rfl,i1,i2⟩:=hx;obtain ⟨a',b',i',t',X',o',n',rfl,g1,g2,g3,rfl,j1,j2⟩:=hy;refine kat_lt h1 h3 g1 g3 ?_;show KatLex prog w A true false C [(.bool a,.bool a'),(.bool b,.bool b'),(.int i t,.int i' t')] 0 s;refine kat_cons (tP ?_)
 by_cases ha:a=a'
 ·subst ha;rw [beq_self_eq_true];refine kat_yes (kat_cons (tP ?_))
  by_cases hb:b=b'
  ·subst hb;rw [beq_self_eq_true];refine kat_yes (kat_cons (wpAny_eqBool_int ?_))
   by_cases hi:i=i'
   ·subst hi;rw [beq_self_eq_true];refine kat_yes (kat_nil ?_);rw [decide_eq_false (Int.lt_irrefl _)] at h;exact h
   ·rw [beq_eq_false_iff_ne.mpr hi];refine kat_no (kat_one _ _ (lt_int ?_));have e:decide (oS a b i < oS a b i')=decide (i < i'):=by rw [decide_eq_decide];unfold oS;omega
    rw [e] at h;exact h
  ·rw [beq_eq_false_iff_ne.mpr hb];refine kat_no (kat_one _ _ (lt_bool ?_));have e:decide (oS a b i < oS a b' i')=decide (b2i b < b2i b'):=by
    rw [decide_eq_decide];unfold oS b2i;cases b<;>cases b'<;>first | exact absurd rfl hb | (simp;omega)
   rw [e] at h;exact h
 ·rw [beq_eq_false_iff_ne.mpr ha];refine kat_no (wD ?_);have e:decide (oS a b i < oS a' b' i')=(!a&&a'):=by
   unfold oS;cases a<;>cases a'<;>first | exact absurd rfl ha | (cases b<;>cases b'<;>simp<;>omega)
  rw [e] at h;exact h
theorem tQ {h:Heap}:∀ {ks:List Int} {us:List Value},Paired (qB h) ks us->∃ fs,KatTups h us fs/\fs.length=us.length/\∀ v∈fs,∃ b,v=.bool b
 | _,_,.nil=>⟨[],.nil,rfl,fun v hv=>nomatch hv⟩
 | _,_,.cons k r=>by
  obtain ⟨a,b,i,t,X,o,n,rfl,h1,h2,h3,_⟩:=k;obtain ⟨fs,t,l,e⟩:=tQ r;refine ⟨.bool a::fs,.cons h1 h2 h3 rfl t,by simp [l],fun v hv=>?_⟩;rcases List.mem_cons.mp hv with rfl | hv
  ·exact ⟨_,rfl⟩
  ·exact e v hv
end
end ST

namespace ST
open PySem PySem.Spec PyProof.Rows PySem.W
def yP {α β:Type}:∀ {l:List α} {r:List β},l.length=r.length->(l.zip r).reverse=l.reverse.zip r.reverse:=by
 intro l;induction l with
 | nil=>intro r h;simp
 | cons a l ih =>
  intro r h;cases r with
  | nil=>simp at h
  | cons b r =>
   simp only [List.length_cons,Nat.add_right_cancel_iff] at h;rw [List.zip_cons_cons,List.reverse_cons,ih h,List.reverse_cons,List.reverse_cons,List.zip_append (by simp [h])];rfl
def aY2 {α β:Type} {l:List α} {r:List β} {a:α} {b:β} (h:l.length=r.length):(List.range l.length).map (fun i=>(l.getD i a,r.getD i b))=l.zip r:=by
 apply List.ext_getElem
 ·simp [h]
 ·intro i h1 h2;simp at h1 h2;simp [List.getD_eq_getElem?_getD,h1,show i < r.length by omega]
section
variable {prog:Program} {w:World} {A:Around} {E:Value->Shared->Prop} {s:Shared}
def cB1 {α β:Type} {F:α->β->Prop} {l:List α} {r:List β} (h:Paired F l r):Paired F l.reverse r.reverse:=by
 induction h with
 | nil=>exact .nil
 | cons a _ ih=>rw [List.reverse_cons,List.reverse_cons];exact Paired.snoc ih a
theorem aL9 {α β:Type} {F:α->β->Prop}:∀ {l:List α} {r:List β} {i:Nat} {a:α},Paired F l r->l[i]?=some a->∃ b,r[i]?=some b/\F a b
 | _,_,_,_,.nil,e=>by simp at e
 | _,_,0,_,.cons h _,e=>by simp at e;subst e;exact ⟨_,rfl,h⟩
 | _,_,i+1,a,.cons _ t,e=>by
  obtain ⟨b,h1,h2⟩:=aL9 (i:=i) (a:=a) t (by simpa using e);exact ⟨b,by simpa using h1,h2⟩
def pw1 {α:Type} {R:α->α->Prop} {l:List α} (h:l.length < 2):l.Pairwise R:=by
 rcases l with _ | ⟨a,_ | ⟨b,r⟩⟩
 ·exact .nil
 ·exact List.pairwise_singleton _ _
 ·exact absurd h (Nat.not_lt.mpr (Nat.le_add_left 2 _))
def aY3 {a kS:Addr} {us vs:List Value} {ks:List Int} {e e1:Nat} {P:PySem.Fin->Shared->Prop} (hk:s.heap.get? kS=some (seqObj "list" us.toArray e)) (ha:s.heap.get? a=some (seqObj "list" #[] e1)) (hka:kS≠a) (K:Paired (qB s.heap) ks us) (nd:ks.Nodup) (hl:us.length=vs.length) (h6:vs.length<=6)
  (h:∀ (ps:List (Int×Value)) c h',ps.Perm (ks.zip vs)->ps.Pairwise (fun p q=>q.1<=p.1)->h'.get? a=some (seqObj "list" (ps.map (·.2)).toArray c)->(∀ b o,b≠a->b≠kS->s.heap.get? b=some o->h'.get? b=some o)->P (.done (.ret .none)) { s with heap:=h' }) :
  wpAny (model prog w) A (ksk_end a true vs.toArray e1 (.ref kS) us.toArray) P E s:=by
 have kl:ks.length=us.length:=K.length;have zl:sizeLine=16777216:=sizeLine_eq;have tail:∀ (st:SortSt) (ps:List (Int×Value)),ps.Perm (ks.zip vs)->ps.Pairwise (fun p q=>q.1<=p.1)->failedOf st=none->((arrOf st).map (·.2)).reverse=(ps.map (·.2)).toArray->wpAny (model prog w) A (ksk_tail a true e1 (.ref kS) st) P E s:=fun st ps hp ho hf he=>by
  have s1:=Heap.SameBut.update s.heap kS (Obj.mapSeq fun _=>(#[]:Array Value));have na1:(s.heap.update kS (Obj.mapSeq fun _=>(#[]:Array Value))).get? a=some (seqObj "list" #[] e1):=(s1.2 a hka.symm).trans ha;have s2:=Heap.SameBut.update (s.heap.update kS (Obj.mapSeq fun _=>(#[]:Array Value))) a (Obj.mapSeq fun _=>(ps.map (·.2)).toArray);obtain ⟨c2,hc2⟩:∃ c2,((s.heap.update kS (Obj.mapSeq fun _=>(#[]:Array Value))).update a (Obj.mapSeq fun _=>(ps.map (·.2)).toArray)).get? a=some (seqObj "list" (ps.map (·.2)).toArray c2):=⟨_,get?_update_seq na1 fun _=>(ps.map (·.2)).toArray⟩;have pl:ps.length=vs.length:=by rw [hp.length_eq,List.length_zip];omega
  unfold ksk_tail;try dsimp only
  refine wpAny_bind (listUpdate_at hk rfl ?_ (by rw [List.size_toArray,zl];omega) (Nat.zero_le _));refine wpAny_bind (wpAny_letGo ?_);refine wpAny_bind (seqEpoch_at na1 rfl ?_);simp only [if_true];rw [he];refine wpAny_bind (listUpdate_at na1 rfl ?_ (Nat.zero_le _) (by rw [List.size_toArray,List.length_map,zl];omega));rw [hf];simp only [bne_self_eq_false,Bool.false_eq_true,if_false];exact wpAny_pure (h ps c2 _ hp ho hc2 fun b o n1 n2 q=>(s2.2 b n1).trans ((s1.2 b n2).trans q))
 have ez:us.toArray.zip vs.toArray=(us.zip vs).toArray:=by simp
 have er:(us.toArray.zip vs.toArray).reverse=us.reverse.toArray.zip vs.reverse.toArray:=by
  rw [ez];simp [yP hl]
 unfold ksk_end;try dsimp only
 simp only [if_true];refine wpAny_bind (wpAny_rule ?_)
 by_cases h2:vs.toArray.size < 2
 ·rw [if_pos h2,if_pos h2];rw [List.size_toArray] at h2;refine wpAny_bind (wpAny_pure ?_);rw [StateT.run_pure];refine wpAny_bind (wpAny_pure ?_);refine tail _ (ks.zip vs) (.refl _) ?_ rfl ?_
  ·exact pw1 (by rw [List.length_zip];omega)
  ·show ((us.toArray.zip vs.toArray).reverse.map (·.2)).reverse=_;rw [ez,List.map_snd_zip (by omega)];simp [List.map_snd_zip (l₁:=us) (l₂:=vs) (by omega),List.map_reverse]
 ·rw [if_neg h2,if_neg h2];rw [List.size_toArray] at h2;obtain ⟨fs,kt,fl,fi⟩:=tQ K;refine wpAny_bind (kat_kind (T:=.type "bool") kt (by omega) (fun v hv=>?_) (by decide) ?_)
  ·obtain ⟨b,rfl⟩:=fi v hv;exact fun A Q E s _ q=>wpAny_pure q
  ·rw [er];have Kr:=cB1 K;have rl:ks.reverse.length=vs.reverse.length:=by simp;omega
   have rn:ks.reverse.Nodup:=(List.reverse_perm ks).nodup_iff.mpr nd;have rl2:us.reverse.length=vs.reverse.length:=by simp;omega
   have n2:ks.reverse.length=vs.reverse.length:=rl;obtain ⟨lt',he,h1,h3,h4⟩:=aY1 rn (by simp;omega) (by simp;omega);rw [rl] at he h1 h3 h4;refine wpAny_bind (kat_run (κ:=tuples' true) (Q:=fun st s'=>wpAny (model prog w) A (ksk_tail a true e1 (.ref kS) st) P E s') (vs:=vs.reverse) (ks:=us.reverse) (G:=fun p s'=>p=oR lt' (kas_sort vs.reverse.length)/\s'=s) rl2 (by simp;omega) (by simp;omega) ?_ ?_)
   ·rintro p st s' hp har hf ⟨rfl,rfl⟩;refine tail st (((oR lt' (kas_sort vs.reverse.length)).toList.map fun i=>(ks.reverse.getD i 0,vs.reverse.getD i Value.none)).reverse) ?_ ?_ hf ?_
    ·refine (List.reverse_perm _).trans ((h3.map _).trans ?_);rw [<- rl,aY2 rl,<- yP (by omega)];exact List.reverse_perm _
    ·rw [List.pairwise_reverse,List.pairwise_map];refine h4.imp fun {i j} hz=>?_;unfold ltK at hz;exact Int.le_of_lt (of_decide_eq_true hz)
    ·rw [kat_snds rl2 har];simp [List.map_reverse,Function.comp_def]
   ·refine aL7 (fun i j hi hj hij C hC=>?_) he _ _ h1 ⟨rfl,rfl⟩;have hi':i < ks.reverse.length:=by rw [rl];exact hi
    have hj':j < ks.reverse.length:=by rw [rl];exact hj
    obtain ⟨u,eu,ku⟩:=aL9 Kr (List.getElem?_eq_getElem hi');obtain ⟨v,ev,kv⟩:=aL9 Kr (List.getElem?_eq_getElem hj');unfold kas_ask;have e1:us.reverse.getD i .none=u:=by rw [List.getD_eq_getElem?_getD,eu];rfl
    have e2:us.reverse.getD j .none=v:=by rw [List.getD_eq_getElem?_getD,ev];rfl
    rw [e1,e2];refine bM5 ku kv ?_;have e3:ltK ks.reverse i j=decide (ks.reverse[i] < ks.reverse[j]):=by
     unfold ltK;rw [List.getD_eq_getElem?_getD,List.getD_eq_getElem?_getD,List.getElem?_eq_getElem hi',List.getElem?_eq_getElem hj'];rfl
    rw [<- e3];exact hC
end
end ST

namespace DL
open PySem PySem.Spec PyProof.Rows L2 CI ST
theorem yQ {α:Type}:∀ {l:List (Int×α)},(l.map (·.1)).Nodup->∀ a∈l,∀ b∈l,a.1=b.1->a=b
 | [],_,_,h,_,_,_=>nomatch h
 | x::l,nd,a,ha,b,hb,e=>by
  rw [List.map_cons,List.nodup_cons] at nd;rcases List.mem_cons.mp ha with q1 | q1
  ·rcases List.mem_cons.mp hb with q2 | q2
   ·rw [q1,q2]
   ·exact (nd.1 (by rw [<- q1,e];exact List.mem_map_of_mem q2)).elim
  ·rcases List.mem_cons.mp hb with q2 | q2
   ·exact (nd.1 (by rw [<- q2,<- e];exact List.mem_map_of_mem q1)).elim
   ·exact yQ nd.2 a q1 b q2 e
noncomputable def dsc {α:Type} (l:List (Int×α)):List (Int×α):=l.mergeSort fun a b=>decide (b.1<=a.1)
def gI {α:Type} (l:List (Int×α)):(dsc l).Perm l:=List.mergeSort_perm _ _
def wE {α:Type} (l:List (Int×α)):(dsc l).Pairwise fun a b=>b.1<=a.1:=by
 have h:=List.pairwise_mergeSort (le:=fun a b:Int×α=>decide (b.1<=a.1)) (fun a b c h1 h2=>by simp at *;omega) (fun a b=>by simp;omega) l;exact h.imp fun h=>by simpa using h
def iZ {α:Type} {l ps:List (Int×α)} (nd:(l.map (·.1)).Nodup) (p:ps.Perm l) (o:ps.Pairwise fun a b=>b.1<=a.1):ps=dsc l :=
 (p.trans (gI l).symm).eq_of_pairwise (fun a b ha hb h1 h2=>yQ nd a (p.mem_iff.mp ha) b ((gI l).mem_iff.mp hb) (Int.le_antisymm h2 h1)) o (wE l)
def mB {α:Type} {ks:List Int} {r:List α} (h:ks.length<=r.length):(ks.zip r).map (·.1)=ks:=List.map_fst_zip h
def aY4 {α β:Type} {F:α->β->Prop} {ks:List Int} {xs:List α} {vs:List β} (nd:ks.Nodup) (hl:ks.length=xs.length) (r:Paired F xs vs):Paired F ((dsc (ks.zip xs)).map (·.2)) ((dsc (ks.zip vs)).map (·.2)):=by
 have hv:=r.length;have pz:∀ {xs:List α} {vs:List β},Paired F xs vs->∀ t∈xs.zip vs,F t.1 t.2:=by
  intro xs vs r;induction r with
  | nil=>intro t h;simp at h
  | cons a _ ih =>
   intro t h;rw [List.zip_cons_cons] at h;rcases List.mem_cons.mp h with rfl | h
   ·exact a
   ·exact ih t h
 have e1:(ks.zip (xs.zip vs)).map (fun t=>(t.1,t.2.1))=ks.zip xs:=by
  apply List.ext_getElem
  ·simp;omega
  ·intro i h1 h2;simp
 have e2:(ks.zip (xs.zip vs)).map (fun t=>(t.1,t.2.2))=ks.zip vs:=by
  apply List.ext_getElem
  ·simp;omega
  ·intro i h1 h2;simp
 have p:=gI (ks.zip (xs.zip vs));have o:=wE (ks.zip (xs.zip vs));have f1:(dsc (ks.zip (xs.zip vs))).map (fun t=>(t.1,t.2.1))=dsc (ks.zip xs):=iZ (by rw [mB (by omega)];exact nd) (by rw [<- e1];exact p.map _) (by rw [List.pairwise_map];exact o);have f2:(dsc (ks.zip (xs.zip vs))).map (fun t=>(t.1,t.2.2))=dsc (ks.zip vs):=iZ (by rw [mB (by omega)];exact nd) (by rw [<- e2];exact p.map _) (by rw [List.pairwise_map];exact o);rw [<- f1,<- f2,List.map_map,List.map_map];have all:∀ t∈dsc (ks.zip (xs.zip vs)),F t.2.1 t.2.2:=fun t ht=>pz r t.2 (List.of_mem_zip (show (t.1,t.2)∈_ from p.mem_iff.mp ht)).2;generalize dsc (ks.zip (xs.zip vs))=l at all;induction l with
 | nil=>exact .nil
 | cons t l ih=>exact .cons (all t List.mem_cons_self) (ih fun t h=>all t (List.mem_cons_of_mem _ h))
theorem tR:∀ {zs:List PyData} {ks:List Int},mP zs=some ks->zs.length=ks.length
 | [],_,e=>by cases e;rfl
 | z::zs,_,e=>by
  obtain ⟨k,e1,e⟩:=bind_some (show (aH4 z).bind _=_ from e);obtain ⟨ks,e2,rfl⟩:=map_some e;simp [tR e2]
theorem yR {S:Sx} {Z:Zm} {hp:Heap} (hz:∀ a o,Z a=some o->hp.get? a=some o):∀ {zs:List PyData} {ks:List Int} {us:List Value},mP zs=some ks->Paired (Rep S Z) zs us->Paired (qB hp) ks us
 | [],_,_,e,r=>by cases e;cases r;exact .nil
 | z::zs,_,_,e,r=>by
  obtain ⟨k,e1,e⟩:=bind_some (show (aH4 z).bind _=_ from e);obtain ⟨ks,e2,rfl⟩:=map_some e;cases r with
  | cons a b =>
   refine .cons ?_ (yR hz e2 b);obtain ⟨⟨k',x,y,i,ez,hi,ek⟩,hh,rfl⟩:=Option.map_eq_some_iff.mp (show (bI7 _).map (·.1)=_ from e1);clear hh e1;subst ez
   ·show qB hp k' _;rw [ek];obtain ⟨A,o,us,rfl,zA,⟨⟨n,rfl⟩,_⟩,rr⟩:=rep_t.mp a;cases rr with
    | cons r1 rr =>
     cases rr with
     | cons r2 rr =>
      cases rr with
      | cons r3 rr =>
       cases rr;cases rep_b.mp r1;cases rep_b.mp r2;obtain ⟨t,rfl⟩:=rep_i.mp r3;exact ⟨x,y,i,t,A,_,n,rfl,hz _ _ zA,rfl,rfl,rfl,hi.1,hi.2⟩
theorem wF {te:XR W} {δ:DSt} {i:Nat}:∀ {xs zs:List PyData} {h h':aA},fX te δ i xs h=some (zs,h')->zs.length=xs.length
 | [],_,_,_,e=>by cases e;rfl
 | x::xs,_,h,h',e=>by
  unfold fX at e;obtain ⟨⟨p,h1⟩,e1,e⟩:=bind_some e;cases p with
  | c j=>cases e
  | d z =>
   obtain ⟨⟨q,h2⟩,e2,e⟩:=bind_some (show (fX te δ i xs h1).bind _=_ from e);cases e;simp [wF e2]
section
variable {S:Sx} {A:Around} {κ1:Kp} {kS a f:Addr} {e1 n0 i:Nat} {te:XR W} {δ':DSt} {vs:List Value} {xs zs:List PyData} {h h':aA} {M:Mp} {s:Shared} {P:PySem.Fin->Shared->Prop} {E:Value->Shared->Prop}
def cB2 {x y:Bool×Obj} (R:Mem S ((κ1.up a x).up a y) M h s):Mem S (κ1.up a y) M h s:=R.less fun b z q=>by
 by_cases hb:b=a
 ·subst hb;rw [dJ] at q ⊢;exact q
 ·rw [bL hb] at q;rw [bL hb,bL hb];exact q
def aM0 (turn:∀ (o:Obj) {M':Mp} {h1 h2:aA} {s1:Shared} {u:Value} {x:PyData} {z:W},Le M M'->Mem S (κ1.up kS (true,o)) M' h1 s1->Rep S M'.Z x u->te (δ'.set i (some (.d x))) h1=some (z,h2)->Wp S A (call (.ref f) [u]) (Pw S (κ1.up kS (true,o)) M' h2 z) NE s1)
  (R:Mem S (κ1.up kS (true,bB [] n0)) M h s) (rv:Reps' S M xs vs) (h6:xs.length<=6) (e:fX te δ' i xs h=some (zs,h'))
  (fin:∀ (M':Mp) (us:List Value) (n:Nat) (s':Shared),Le M M'->Mem S (κ1.up kS (true,bB us n)) M' h' s'->Reps' S M' zs us->Wp S A (ksk_end a true vs.toArray e1 (.ref kS) us.toArray) P E s') :
  Wp S A (ksk_rest a (.ref f) true vs.toArray e1 (.ref kS)) P E s:=by
 have vl:=rv.length;have zl:sizeLine=16777216:=sizeLine_eq;unfold ksk_rest;refine wpAny_bind (wpAny_rule ?_)
 first
  | rw [List.forIn_toArray]
  | (rw [<- Array.forIn_toList];simp only [List.toList_toArray])
  | rw [<- Array.forIn_toList]
 refine wpAny_bind (ksk_fold (fun j s'=>∃ hj M' us n zp zr,Le M M'/\Mem S (κ1.up kS (true,bB us n)) M' hj s'/\Reps' S M' zp us/\fX te δ' i (xs.drop j) hj=some (zr,h')/\zp++zr=zs/\zp.length=j) vs 0 s
  ⟨h,M,[],n0,[],zs,.refl,R,.nil,e,rfl,rfl⟩ ?aV9 ?done)
 case aV9 =>
  rintro j v s' hv ⟨hj,M',us,n,zp,zr,l,R',rp,ez,eq,hlen⟩;simp only [Nat.zero_add] at ez hlen ⊢;have hjl:j < xs.length:=by rw [vl];exact (List.getElem?_eq_some_iff.mp hv).1
  obtain ⟨v',ev',rx⟩:=hU rv (List.getElem?_eq_getElem hjl);rw [hv] at ev';cases ev';rw [List.drop_eq_getElem_cons hjl] at ez;unfold fX at ez;obtain ⟨⟨p,h1⟩,ep,ez⟩:=bind_some ez;cases p with
  | c j=>cases ez
  | d z =>
   obtain ⟨⟨zr',h2⟩,ezr,ez⟩:=bind_some (show (fX te δ' i (xs.drop (j+1)) h1).bind _=_ from ez);cases ez;refine wpAny_bind (wpAny_attempt (wpAny_mono (turn _ l R' (Rep.go l.z rx) ep) (fun k s'' he=>?_) fun _ _ hF=>hF.elim));obtain ⟨M2,l2,R2,rz⟩:=he;try dsimp only
   have nk:=(R2.k kS true _ dJ).1 rfl;have hul:=rp.length;have s1:=Heap.SameBut.update s''.heap kS (Obj.mapSeq (·.push k));obtain ⟨c2,hc2⟩:∃ c2,(s''.heap.update kS (Obj.mapSeq (·.push k))).get? kS=some (seqObj "list" (us.toArray.push k) c2):=⟨_,get?_update_seq nk (·.push k)⟩;refine wpAny_bind (listUpdate_at nk rfl ?_ (by rw [List.size_toArray,zl];omega) (by rw [Array.size_push,List.size_toArray,zl];omega));refine wpAny_pure ⟨rfl,h1,M2,us++[k],c2,zp++[z],zr',l.trans l2,cB2 (R2.own (b:=true) (s':={ s'' with heap:=s''.heap.update kS (Obj.mapSeq (·.push k)) }) dJ (fun b o hb q=>(s1.2 b hb).trans q) (show _=some (bB (us++[k]) c2) by rw [hc2];simp [seqObj]) R2.bare rfl),vL (Reps'.go l2 rp) (.cons rz .nil),ezr,by rw [<- eq];simp,by simp [hlen]⟩
 case done =>
  rintro s' ⟨hj,M',us,n,zp,zr,l,R',rp,ez,eq,hlen⟩;rw [Nat.zero_add,List.drop_of_length_le (by omega)] at ez;cases ez;rw [List.append_nil] at eq;subst eq;refine wpAny_bind (listItems_at ((R'.k kS true _ dJ).1 rfl) rfl ?_);exact fin M' us n s' l R' rp
end
end DL

namespace DL
open PySem PySem.Spec PyProof.Rows L2 CI ST
section
variable {X:Cx} {st:Sta} {d:Nat} {v:Evs} {κ:Kp} {M:Mp} {δ δ':DSt} {h h':aA} {s:Shared} {te:XR W} {i:Nat} {f l:Addr} {vs:List Value} {xs zs:List PyData} {ks:List Int}
def aM1 {n:Nat} {oF:Obj} (R:Mem X.S κ M h s) (ff:bK κ M f) (hf:s.heap.get? f=some oF) (hl:s.heap.get? l=some (bB vs n)) (rv:Reps' X.S M xs vs) (h6:xs.length<=6) (e:fX te δ' i xs h=some (zs,h')) (ek:mP zs=some ks) (nd:ks.Nodup)
  (turn:∀ {κ':Kp} {M':Mp} {h1 h2:aA} {s1:Shared} {u:Value} {x:PyData} {z:W},(∀ a,κ a≠none->κ' a=κ a)->Le M M'->κ' f=some (true,oF)->Mem X.S κ' M' h1 s1->Rep X.S M'.Z x u->te (δ'.set i (some (.d x))) h1=some (z,h2)->Wp X.S X.A.in1.in1 (call (.ref f) [u]) (Pw X.S κ' M' h2 z) NE s1) :
  Wp X.S X.A (call (.builtin "sorted") [.ref l] [(Str.ofString "key",.ref f),(Str.ofString "reverse",.bool true)]) (Pf X.S κ M h' (aH5 ks xs)) NE s:=by
 have vl:=rv.length;have zl:sizeLine=16777216:=sizeLine_eq;refine call_function_entry_kw kind_sorted plain_sorted entry_sorted (ksk_s2 _ _ _) ?_;unfold Builtin.«sorted»;refine wpAny_bind (m:=checkCount "sorted" 1 1 _) (wpAny_pure ?_);refine wpAny_bind (collect_list (cK hl).isList ?_ (by rw [zl];omega));refine wpAny_bind (wpAny_newList ?_ (by rw [zl];omega));have hsz:((s.heap.push (seqObj "list" #[] 0)).update s.heap.objs.size (Obj.mapSeq (·++vs.toArray))).objs.size=s.heap.objs.size+1:=by
  rw [Heap.size_update,size_push']
 have hoL:(((s.heap.push (seqObj "list" #[] 0)).update s.heap.objs.size (Obj.mapSeq (·++vs.toArray))).push (seqObj "list" vs.toArray 0)).get? (s.heap.objs.size+1)=some (seqObj "list" vs.toArray 0):=by
  rw [<- hsz];exact Heap.get?_push_size _ rfl
 have keep:∀ b o,s.heap.get? b=some o->(((s.heap.push (seqObj "list" #[] 0)).update s.heap.objs.size (Obj.mapSeq (·++vs.toArray))).push (seqObj "list" vs.toArray 0)).get? b=some o:=fun b o q=>by
  have hlt:b < s.heap.objs.size:=Heap.lt_size q;rw [Heap.get?_push_ne _ _ _ (by rw [hsz];exact Nat.ne_of_lt (Nat.lt_succ_of_lt hlt)),Heap.get?_update_ne _ _ _ _ (Nat.ne_of_lt hlt),Heap.get?_push_ne _ _ _ (Nat.ne_of_lt hlt)];exact q
 have hs1:(((s.heap.push (seqObj "list" #[] 0)).update s.heap.objs.size (Obj.mapSeq (·++vs.toArray))).push (seqObj "list" vs.toArray 0)).objs.size=s.heap.objs.size+2:=by rw [size_push',hsz]
 show wpAny _ _ _ _ _ { s with heap:=((s.heap.push (seqObj "list" #[] 0)).update s.heap.objs.size (Obj.mapSeq (·++vs.toArray))).push (seqObj "list" vs.toArray 0) };rw [hsz];generalize (((s.heap.push (seqObj "list" #[] 0)).update s.heap.objs.size (Obj.mapSeq (·++vs.toArray))).push (seqObj "list" vs.toArray 0))=H1 at hoL keep hs1;refine wpAny_bind (wpAny_holding (wpAny_call_entry_kw slot_list_sort ⟨_,hoL,rfl⟩ entry_list_sort ?body (ksk_l2 _ _ _)))
 case body =>
  show wpAny (model X.S.P X.S.w) X.A.in1.in1 (Builtin.«list.sort» ⟨[.ref (s.heap.objs.size+1)],[(Str.ofString "key",.ref f),(Str.ofString "reverse",.bool true)]⟩) _ _ _;rw [ksk_t2];have fa:bK κ M (s.heap.objs.size+1):=R.new (Heap.get?_none_of_le (Nat.le_succ _));have fk:bK κ M (s.heap.objs.size+3):=R.new (Heap.get?_none_of_le (by omega));have la:∀ {b o},s.heap.get? b=some o->b < s.heap.objs.size:=fun q=>Heap.lt_size q;have nfa:f≠s.heap.objs.size+1:=Nat.ne_of_lt (Nat.lt_succ_of_lt (la hf));have nfk:f≠s.heap.objs.size+3:=Nat.ne_of_lt (Nat.lt_add_right 3 (la hf));have nak:s.heap.objs.size+3≠s.heap.objs.size+1:=by simp
  generalize ea:s.heap.objs.size+1=a at hoL fa nfa nak;have al:∀ {b o},s.heap.get? b=some o->b≠a:=fun q=>by rw [<- ea];exact Nat.ne_of_lt (Nat.lt_succ_of_lt (la q))
  obtain ⟨e1,ho1⟩:∃ e1,(H1.update a (Obj.mapSeq fun _=>(#[]:Array Value))).get? a=some (seqObj "list" #[] e1):=⟨_,get?_update_seq hoL fun _=>#[]⟩;have s1:=Heap.SameBut.update H1 a (Obj.mapSeq fun _=>(#[]:Array Value));have hs2:(H1.update a (Obj.mapSeq fun _=>(#[]:Array Value))).objs.size=s.heap.objs.size+2:=by rw [Heap.size_update,hs1]
  unfold ksk_tree;refine wpAny_bind (listItems_at hoL rfl ?_);refine wpAny_bind (listUpdate_at hoL rfl ?_ (by rw [List.size_toArray,zl];omega) (Nat.zero_le _));refine wpAny_bind (seqEpoch_at ho1 rfl ?_);refine wpAny_bind (wpAny_newTuple ?_ (by show vs.length<=_;rw [zl];omega));refine wpAny_bind (wpAny_newList ?_ (Nat.zero_le _));refine wpAny_holding ?_;have kz:((H1.update a (Obj.mapSeq fun _=>(#[]:Array Value))).push (seqObj "tuple" vs.toArray 0)).objs.size=s.heap.objs.size+3:=by rw [size_push',hs2]
  have hk0:(((H1.update a (Obj.mapSeq fun _=>(#[]:Array Value))).push (seqObj "tuple" vs.toArray 0)).push (seqObj "list" #[] 0)).get? (s.heap.objs.size+3)=some (bB [] 0):=by rw [<- kz];exact Heap.get?_push_size _ rfl
  have ha0:(((H1.update a (Obj.mapSeq fun _=>(#[]:Array Value))).push (seqObj "tuple" vs.toArray 0)).push (seqObj "list" #[] 0)).get? a=some (bB [] e1):=Heap.get?_push_of_some _ (Heap.get?_push_of_some _ ho1);have keep2:∀ b o,s.heap.get? b=some o->(((H1.update a (Obj.mapSeq fun _=>(#[]:Array Value))).push (seqObj "tuple" vs.toArray 0)).push (seqObj "list" #[] 0)).get? b=some o:=fun b o q=>Heap.get?_push_of_some _ (Heap.get?_push_of_some _ ((s1.2 b (al q)).trans (keep b o q)));show wpAny _ _ (ksk_rest a (.ref f) true vs.toArray e1 (.ref ((H1.update a (Obj.mapSeq fun _=>(#[]:Array Value))).push (seqObj "tuple" vs.toArray 0)).objs.size)) _ _ { s with heap:=((H1.update a (Obj.mapSeq fun _=>(#[]:Array Value))).push (seqObj "tuple" vs.toArray 0)).push (seqObj "list" #[] 0) };rw [kz];generalize ((H1.update a (Obj.mapSeq fun _=>(#[]:Array Value))).push (seqObj "tuple" vs.toArray 0)).push (seqObj "list" #[] 0)=H2 at hk0 ha0 keep2;generalize s.heap.objs.size+3=kS at fk nfk nak hk0;have R1:Mem X.S κ M h { s with heap:=H2 }:=R.kept (t:=s.toks) keep2;have R2:=R1.more (b:=true) ⟨ff.1,ff.2.2⟩ (keep2 _ _ hf);have R3:=R2.more (b:=true) ⟨fa.1,fa.2.2⟩ ha0;have R4:=R3.more (b:=true) ⟨fk.1,fk.2.2⟩ hk0;refine aM0 (a:=a) (κ1:=(κ.up f (true,oF)).up a (true,bB [] e1)) (zs:=zs) (h':=h') (fun o {M' h1 h2 s1 u x z} l R' r' e'=>turn (fun b hb=>?_) l ?_ R' r' e') R4 rv h6 e fun M' us m s' l R' rz=>?_
  ·rw [bL fun q=>hb (by rw [q];exact fk.2.1),bL fun q=>hb (by rw [q];exact fa.2.1),bL fun q=>hb (by rw [q];exact ff.2.1)]
  ·rw [bL nfk,bL nfa,dJ]
  ·have kk:(((κ.up f (true,oF)).up a (true,bB [] e1)).up kS (true,bB us m)) a=some (true,bB [] e1):=by rw [bL (Ne.symm nak),dJ]
   have kf:∀ b x,κ b=some x->(((κ.up f (true,oF)).up a (true,bB [] e1)).up kS (true,bB us m)) b=some x:=fun b x q=>by
    rw [bL (a:=kS) (fun q2=>by rw [q2,fk.2.1] at q;cases q),bL (a:=a) (fun q2=>by rw [q2,fa.2.1] at q;cases q),bL (a:=f) (fun q2=>by rw [q2,ff.2.1] at q;cases q)];exact q
   refine aY3 (ks:=ks) ((R'.k kS true _ dJ).1 rfl) ((R'.k a true _ kk).1 rfl) nak (yR R'.z ek rz) nd (by rw [<- rz.length,wF e,vl]) (by omega) fun ps c h2 hp ho hc hk=>⟨_,rfl,wpAny_pure ⟨_,rfl,?_⟩⟩;have kl:ks.length=xs.length:=by rw [<- tR ek,wF e]
   have e2:ps=dsc (ks.zip vs):=iZ (by rw [mB (by omega)];exact nd) hp ho;have R5:Mem X.S κ M' h' s':=R'.less kf;have fA:bK κ M' a:=⟨(R'.k a true _ kk).2.2,fa.2.1,R'.kc kk⟩;have fK:bK κ M' kS:=⟨(R'.k kS true _ dJ).2.2,fk.2.1,R'.kc dJ⟩;refine ⟨M',l,R5.keep (s':={ s' with heap:=h2 }) (fun b o q nf=>hk b o (fun z=>nf (by rw [z];exact fA)) (fun z=>nf (by rw [z];exact fK)) q) R5.bare rfl,a,ps.map (·.2),c,rfl,hc,fA,?_,?_⟩
   ·rw [List.length_map,hp.length_eq,List.length_zip,zl];omega
   ·rw [e2];exact aY4 nd kl (Reps'.go l rv)
def aM2 {a:Arg} (fd:FuncData) (hp:fd.params=⟨[],[a],none,[],[],none,[]⟩) (h1:fd.defaults=.none) (h2:fd.kwdefaults=.none) (u:Value):bindArgs fd ⟨[u],[]⟩=pure [(a.arg,u)]:=by
 unfold bindArgs;rw [hp,h1,h2];simp [show seqItems? Value.none=pure none from rfl,List.lookup]
def aM3 {A:Around} {sc:Scope} {q:Str} {L f cc:Addr} {cl:List (Str×Addr)} {qp:Str×Pos} (G:Good X st d) (lk:LamOk X d qp):Good (cxL X X.A.in1.in1 (iR sc) sc q L f cc cl) (st.lam sc) d:=by
 refine ⟨G.bl,G.gc,G.tk,G.fn,G.fnW,G.cls,G.om,G.fo,rfl,rfl,(fun z=>nomatch z),⟨G.rm.hd,?_,?_⟩,fun q z=>nomatch z⟩
 ·have:=lk.dp;show X.A.depth+1+3*d+5 < _;omega
 ·have:=lk.un;show X.A.units+1+1+3+16*d+200 < _;omega
def bM6 {kws:List Keyword} {a:Arg} {body:Expr} {sc:Scope} {lp:Pos} (e:tC kws=some (a,body,sc,lp)):∃ p1 p2 j p3,kws=[⟨some "key",.Lambda ⟨[],[a],none,[],[],none,[]⟩ body sc lp,p1⟩,⟨some "reverse",.Constant (.bool true) j p3,p2⟩]:=by
 unfold tC at e;obtain ⟨y,_,ey⟩:=Option.map_eq_some_iff.mp e;obtain ⟨p1,p2,j,p3,hk⟩:=y.2;rw [ey] at hk;exact ⟨p1,p2,j,p3,hk⟩
def cB3 (S:Snd v) (G:Good X st d) {a:Expr} {kws:List Keyword} {p pos:Pos} (hx:(cJ st "sorted"&&(slot st "sorted").isNone&&st.bl.contains "sorted")=true):SF X (.Call (.Name "sorted" p) [a] kws pos) (aV6 v st a kws):=by
 intro κ M δ h s w h' R F e;unfold aV6 at e;obtain ⟨q,eq⟩:∃ q,st.qn=some q:=by
  cases eq:st.qn with
  | none=>rw [eq] at e;cases e
  | some q=>exact ⟨q,rfl⟩
 obtain ⟨⟨ar,body,sc,lp⟩,el⟩:∃ y,tC kws=some y:=by
  cases el:tC kws with
  | none=>rw [eq,el] at e;cases e
  | some y=>exact ⟨y,rfl⟩
 rw [eq,el] at e;dsimp only at e;obtain ⟨p1,p2,j,p3,rfl⟩:=bM6 el;obtain ⟨hb,e⟩:aV5 st q ar sc lp=true/\(match (iR sc).findIdx? (·==ar.arg) with
  | some i=>xb (aR v st [a]) fun ws=>(match ws with
   | [w]=>mQ (v.E (st.lam sc) body) (fW st.N sc) i (q.1++"<lambda>") lp w
   | _=>xno)
  | none=>xno) δ h=some (w,h'):=by
  by_cases hb:aV5 st q ar sc lp=true
  ·rw [if_pos hb] at e;exact ⟨hb,e⟩
  ·rw [if_neg hb] at e;cases e
 obtain ⟨i0,ei⟩:∃ i,(iR sc).findIdx? (·==ar.arg)=some i:=by
  cases ei:(iR sc).findIdx? (·==ar.arg) with
  | none=>rw [ei] at e;cases e
  | some i=>exact ⟨i,rfl⟩
 rw [ei] at e;obtain ⟨ws,h1,e1,e⟩:=aF e;have LK:=G.qn q eq;obtain ⟨c0,ec,T⟩:=LK.code;obtain ⟨b1,b2,b3⟩:=cZ G hx;have hst:=cY e1;rw [List.all_cons,Bool.and_eq_true] at hst;unfold aV5 at hb;simp only [Bool.and_eq_true,decide_eq_true_eq,Bool.not_eq_true'] at hb;obtain ⟨rfl,hc,hco,hg,hloc⟩:=hb;have SC:CompSc X.N (iR sc) (fW st.N sc) X.env.scope sc:=by rw [G.N,G.S];exact lX hc
 obtain ⟨cl,ecl,hcl1,hcl2⟩:=iC (sc:=sc) (env:=X.env) fun y hy hf=>F.ok.has y.1 (SC.free y hy hf);refine wpAny_Call_Name_kw (cX (u:=.builtin "sorted") F R b2 b3 (by decide +kernel) b1 ?_);refine callWith_kw (e:=a) (rest:=[]) ?_ (by show _=_;unfold backTo;rw [bW a hst.1];rfl) (by have:=cC pos [] (by rfl) (X:=X);show _=_;unfold backTo;rw [bW a hst.1];rfl);refine thn (cN S G _ pos R F e1) fun us s1 ⟨M1,l1,R1,r1⟩=>?_;obtain ⟨wa,rfl⟩:∃ w,ws=[w]:=by
  rcases ws with _ | ⟨w,_ | ⟨_,_⟩⟩
  ·cases e
  ·exact ⟨w,rfl⟩
  ·cases e
 obtain ⟨u,rfl,ru⟩:=w1 r1
 change mQ (v.E (st.lam sc) body) (fW st.N sc) i0 (q.1++"<lambda>") q.2 wa δ h1=some (w,h') at e
 unfold mQ at e;split at e
 case h_2=>cases e
 rename_i xs ts ex eh;obtain ⟨ts',et,e⟩:=bind_some e;obtain ⟨⟨zs,h2⟩,ez,e⟩:=bind_some e;obtain ⟨ks,ek,e⟩:=bind_some e;obtain ⟨⟨nd,h6⟩,e⟩:=aE e;cases e;have F1:=F.go l1;refine kws_cons (thn (aL6 (qs':=ts') R1 F1 T ec ecl rfl eh (by rw [LK.qual];exact et)) fun uf s2 ⟨f,cc,pm,ctv,M2,euf,l2,R2,ff,hf,hcz⟩=>?_);subst euf;refine kws_cons (Constant_bool (kws_nil ?_));have F2:=F1.go l2;have ex2:ref (h1.set 0 (.t ts')) wa=some (.list xs):=by
  cases wa with
  | d y=>exact ex
  | c k =>
   dsimp only [DL.ref] at ex ⊢
   by_cases hk:k=0
   ·subst hk;rw [eh] at ex;cases ex
   ·rw [List.getElem?_set_ne (Ne.symm hk)];exact ex
 obtain ⟨l,vs,n,rfl,hl,hz,rv⟩:=cR R2 (ru.go l2) ex2;have hp:(iR sc)[i0]?=some ar.arg:=by
  obtain ⟨z1,z2,_⟩:=List.findIdx?_eq_some_iff_getElem.mp ei;rw [List.getElem?_eq_getElem z1,eq_of_beq z2]
 have hi:(fW st.N sc)[i0]?=some none:=by
  unfold fW;rw [List.getElem?_map,hp];show some (if sc.names.lookup ar.arg=some NameKind.free then _ else _)=_;rw [hloc,if_neg (by decide)]
 refine thn (aM1 R2 ff hf hl rv h6 ez ek nd fun {κ' M' h3 h4 s3 u x z} hκ l3 kf R3 r3 e3=>?_) fun _ _ q=>Pf.go (l1.trans l2) q;have FX:Fra X κ' M' δ:=(F2.go l3).kp fun b hb=>hκ b (F2.mine hb);have hf3:=(R3.k f true _ kf).1 rfl;obtain ⟨oc,vs',t,z1,z2,z3⟩:=hcz;exact aX9 (A:=X.A.in1.in1) (w:=.d x) (by have:=LK.dp;show X.A.depth < _;omega) R3 FX SC hcl1 hcl2 hf3 ⟨cc,oc,vs',t,rfl,R3.z _ _ (l3.z _ _ z1),z2,z3⟩ (fun fd q1 q2 q3=>aM2 fd q1 q2 q3 u) hco hg hp hloc hi r3 (fun L=>S.E (aM3 (A:=X.A) G LK) body) e3
end
end DL

namespace ST
open PySem PySem.Spec PyProof.Rows
section
variable {prog:Program} {w:World} {A:Around} {E:Value->Shared->Prop} {s:Shared} {ks:List Int}
def aB9 {x:Value} {Q:Value->Shared->Prop} {n:Nat} (h64:n < 64)
  (hc:∀ R,(∀ (vs:List Value) (ns:List Int) h' dr tk,IntsAre vs ns->vs.length=n->ns.Perm ks->(∀ b o,s.heap.get? b=some o->h'.get? b=some o)->R vs { s with heap:=h',drawn:=dr,toks:=tk })->wpAny (model prog w) A.in1 (collect x) R E s)
  (h:∀ (a:Addr) (vs:List Value) (ns:List Int) (c:Nat) h' dr tk,IntsAre vs ns->ns.Perm ks->ns.Pairwise (·<=·)->s.heap.get? a=none->h'.get? a=some (seqObj "list" vs.toArray c)->(∀ b o,s.heap.get? b=some o->h'.get? b=some o)->Q (.ref a) { s with heap:=h',drawn:=dr,toks:=tk }) :
  wpAny (model prog w) A (call (.builtin "sorted") [x]) Q E s:=by
 refine Calls.call_function_entry kind_sorted plain_sorted entry_sorted (args_sorted1 _) ?_;unfold Builtin.«sorted»;refine wpAny_bind (m:=checkCount "sorted" 1 1 _) (wpAny_pure (wpAny_bind (hc _ fun vs ns h1 dr tk hi hl hp k1=>?_)));refine wpAny_bind (wpAny_newList ?_ (by rw [hl,sizeLine_eq];omega));have hoL:(h1.push (seqObj "list" vs.toArray 0)).get? h1.objs.size=some (seqObj "list" vs.toArray 0):=Heap.get?_push_size _ rfl;refine wpAny_bind (wpAny_holding (wpAny_call_entry slot_list_sort ⟨_,hoL,rfl⟩ entry_list_sort (list_sort_tree hoL hi (by omega) fun out ns' a1 a2 a3=>⟨_,rfl,?_⟩) (args_list_sort _)));obtain ⟨c,ec⟩:=sortedHeap_at (out:=out) hoL;refine wpAny_pure ⟨_,rfl,h h1.objs.size out.toList ns' c _ dr tk a1 (a2.trans hp) a3 (by cases q:s.heap.get? h1.objs.size with | none=>rfl | some o=>exact absurd (Heap.lt_size (k1 _ o q)) (Nat.lt_irrefl _)) (by rw [Array.toArray_toList];exact ec) fun b o e=>?_⟩;have bl:b < h1.objs.size:=Heap.lt_size (k1 b o e);rw [sortedHeap_old (Nat.ne_of_lt bl) (by rw [size_push'];exact Nat.lt_succ_of_lt bl)];exact Heap.get?_push_of_some _ (k1 b o e)
end
def srt_perm (ns:List Int):(srt ns).Perm ns:=List.mergeSort_perm _ _
def srt_le (ns:List Int):(srt ns).Pairwise (·<=·):=by
 have h:=List.pairwise_mergeSort (le:=fun a b:Int=>decide (a<=b)) (fun a b c h1 h2=>by simp at *;omega) (fun a b=>by simp;omega) ns;exact h.imp fun h=>by simpa using h
def srt_only {a ns:List Int} (p:a.Perm ns) (o:a.Pairwise (·<=·)):a=srt ns:=(p.trans (srt_perm ns).symm).eq_of_pairwise (fun a b _ _ h1 h2=>Int.le_antisymm h1 h2) o (srt_le ns)
end ST
namespace DL
open PySem PySem.Spec PyProof.Rows L2 CI ST
theorem jA {S:Sx} {Z:Zm}:∀ {xs:List PyData} {ns:List Int} {us:List Value},dF xs=some ns->Paired (Rep S Z) xs us->IntsAre us ns
 | [],_,_,e,r=>by cases e;cases r;exact .nil
 | x::xs,_,_,e,r=>by
  cases r with
  | cons a b =>
   cases x<;>first | cases e;done | skip
   obtain ⟨ns,e1,rfl⟩:=map_some (show (dF xs).map _=_ from e);obtain ⟨t,rfl⟩:=rep_i.mp a;exact .cons _ _ (jA e1 b)
theorem qC {S:Sx} {Z:Zm}:∀ {ns:List Int} {vs:List Value},IntsAre vs ns->Paired (Rep S Z) (ns.map .int) vs
 | _,_,.nil=>.nil
 | _,_,.cons n t h=>.cons (rep_i.mpr ⟨t,rfl⟩) (qC h)
def Mem.dr {S:Sx} {κ:Kp} {M:Mp} {h:aA} {s:Shared} (R:Mem S κ M h s) (h':Heap) (d:Drawn) (t:Nat) (k:∀ b o,s.heap.get? b=some o->h'.get? b=some o):Mem S κ M h { s with heap:=h',drawn:=d,toks:=t }:=R.keep (fun b o e _=>k b o e) R.bare rfl
section
variable {X:Cx} {st:Sta} {d:Nat} {v:Evs} {a:Expr} {es:List Expr} {p pos:Pos}
def cB4 (S:Snd v) (G:Good X st d) (hx:(cJ st "sorted"&&(slot st "sorted").isNone&&st.bl.contains "sorted")=true):SF X (.Call (.Name "sorted" p) (a::es) [] pos) (xb (aR v st (a::es)) fun ws=>fun _ h=>rF ws h):=by
 intro κ M δ h s w h' R F e;obtain ⟨ws,h1,e1,e⟩:=aF e;refine nB (f:=.builtin "sorted") S G hx (by decide +kernel) (.inl ⟨_,rfl⟩) R F e1 fun {M1 us s1} l1 R1 r1=>?_;have fin:∀ {ns:List Int} {u:Value} {vs:List Value},IntsAre vs ns->ns.length < 64->(∀ Rr:List Value->Shared->Prop,(∀ h2,(∀ b o,s1.heap.get? b=some o->h2.get? b=some o)->Rr vs { s1 with heap:=h2 })->Wp X.S X.A.in1 (collect u) Rr NE s1)->Wp X.S X.A (call (.builtin "sorted") [u]) (Pf X.S κ M h1 ((srt ns).map .int)) NE s1:=fun {ns u vs} hi hl hc=>by
  refine aB9 (ks:=ns) (n:=vs.length) (by rw [hi.length];exact hl) (fun Rr hR=>hc Rr fun h2 k=>hR vs ns h2 s1.drawn s1.toks hi rfl (List.Perm.refl _) k) fun b vs' ns' c h2 dr tk hi' hp ho hz hb k=>?_;have e2:=srt_only hp ho;subst e2;have hlen:=hi'.length;have hpl:=hp.length_eq;exact ⟨M1,l1,R1.dr h2 dr tk k,b,vs',c,rfl,hb,R1.new hz,by rw [hlen,hpl,sizeLine_eq];omega,qC hi'⟩
 unfold rF at e;split at e
 ·obtain ⟨u,rfl,ru⟩:=w1 r1;split at e
  ·rename_i xs ex;obtain ⟨ns,en,e⟩:=bind_some e;obtain ⟨hl,e⟩:=aE e;cases e;obtain ⟨b,vs,n,rfl,ho,hz,rr⟩:=cR R1 ru ex;exact fin (jA en rr) hl fun Rr hR=>wpAny_collect_seq b (.inl rfl) ho rfl rfl (fun h2 k=>hR h2 k) (by simpa using hz)
  ·rename_i xs ex;obtain ⟨ns,en,e⟩:=bind_some e;obtain ⟨hl,e⟩:=aE e;cases e;obtain ⟨b,vs,n,rfl,z,hz,rr⟩:=fY R1 ru ex;exact fin (jA en rr) hl fun Rr hR=>wpAny_collect_seq b (.inr rfl) (R1.z _ _ z) rfl rfl (fun h2 k=>hR h2 k) (by simpa using hz)
  ·cases e
 ·cases e
end
end DL

namespace L2
open PySem PySem.Spec PyProof.Rows
def wG {kvs:List (Key×Value)} {k:Key} {v:Value}:(stored kvs k v).length<=kvs.length+1:=by
 unfold stored;split
 ·rw [List.length_map];omega
 ·rw [List.length_append];simp
theorem iE:∀ (more kvs:List (Key×Value)),(merged kvs more).length<=kvs.length+more.length
 | [],kvs=>by simp [merged]
 | p::r,kvs=>by
  have:=iE r (stored kvs p.1 p.2);have h2:=wG (kvs:=kvs) (k:=p.1) (v:=p.2);show (merged (stored kvs p.1 p.2) r).length<=_;rw [List.length_cons];omega
def tS:entryFor table "dict.update.loop"=some Builtin.«dict.update.loop»:=entryFor_of_tree (by kernel_rfl)
def jB:plainId "dict.update.loop"=true:=by decide +kernel
section
variable {prog:Program} {w:World} {A:Around} {R:Result->Shared->Prop} {I:Addr} {fp wr:List Addr} {n:Nat} {P:Nat->Value->Prop} {St:Nat->Heap->Prop}
def aC0 (W:Walks prog w A.in1 I fp wr n P St) (D:Addr) (hDf:D∉fp) (g0:Heap) (DS:Nat->Heap->Prop) (hmv:∀ i h h',DS i h->(∀ b o,b∉wr->h.get? b=some o->h'.get? b=some o)->DS i h')
  (hval:∀ i v,P i v->∃ p kv u,v=.ref p/\g0.IsTuple p #[kv,u]/\p≠D/\p∉wr/\∀ (s:Shared) (Q:Unit->Shared->Prop) (E:Value->Shared->Prop),DS i s.heap->(∀ b o,b≠D->b∉wr->g0.get? b=some o->s.heap.get? b=some o)->(∀ h2 tk,DS (i+1) h2->Heap.SameBut D s.heap h2->Q () { s with heap:=h2,toks:=tk })->wpAny (model prog w) A.in1 (dictSet D kv u) Q E s) :
  ∀ (k i:Nat) (s:Shared) (j:Int) (t:Tok),n - i=k->i<=n->St i s.heap->DS i s.heap ->
   (∀ b o,b≠D->b∉wr->g0.get? b=some o->s.heap.get? b=some o) ->
   (∀ h' tk,DS n h'->(∀ b o,b≠D->b∉wr->s.heap.get? b=some o->h'.get? b=some o)->R (.ok (.ret .none)) { s with heap:=h',toks:=tk }) ->
   codeAny (model prog w) A (.builtin "dict.update.loop" ⟨[.ref D,.ref I,.int j t,.none],[]⟩) R s:=by
 intro k;induction k with
 | zero =>
  intro i s j t hk hi hst hD hg hR;have e:i=n:=by omega
  subst e;refine codeAny_builtin tS ?_;rw [Around.under_plainId jB _];show wpAny _ A.in1 (pyNext (.ref I) >>= _) _ _ s;refine wpAny_bind (W.done s _ _ hst fun h' tk hm=>?_);have q:=hR h' tk (hmv _ _ _ hD hm) (fun b o _ hb e=>hm b o hb e);clear hR;unfold Builtin.Dict.addKeywords
  repeat (any_goals (first | assumption | wp_step))
 | succ k ih =>
  intro i s j t hk hi hst hD hg hR;have hlt:i < n:=by omega
  refine codeAny_builtin tS ?_;rw [Around.under_plainId jB _];show wpAny _ A.in1 (pyNext (.ref I) >>= _) _ _ s;refine wpAny_bind (W.item i s _ _ hlt hst fun v h' tk hP hst' hm=>?_);obtain ⟨p,kv,u,rfl,⟨op,hop,hcp,np,hdp⟩,hpD,hpw,hset⟩:=hval i v hP;have hp1:h'.get? p=some op:=hm p op hpw (hg p op hpD hpw hop);have hT:({ s with heap:=h',toks:=tk }:Shared).TypeIs (.ref p) "tuple":=⟨_,hp1,hcp⟩;have LT:PySem.W.Looks (model prog w) h' (typeOf (.ref p)) (.type "tuple"):=hcp ▸ (PySem.W.Looks.ld hp1).andThen .now;unfold Builtin.Dict.pairItems;dsimp only;refine wpAny_bind (wpAny_holding ?_);refine wpAny_bind (wpAny_tryCatch ?_);refine wpAny_bind (LT.at ?_);rw [if_pos (by decide)];refine wpAny_bind (wpAny_seqItems hp1 hdp (wpAny_pure ?_));dsimp only [Option.getD];refine wpAny_holding ?_;refine hset _ _ _ (hmv _ _ _ hD hm) (fun b o b1 b2 e=>hm b o b2 (hg b o b1 b2 e)) fun h2 tk2 hD2 hs2=>?_;refine wpAny_pure ⟨plainId_quiet jB _,ih (i+1) _ (j+1) 0 (by omega) hlt (W.frame _ h' _ hst' fun b hb o e=>?_) hD2 (fun b o b1 b2 e=>?_) fun h3 tk3 hD3 hk3=>hR h3 tk3 hD3 fun b o b1 b2 e=>hk3 b o b1 b2 ?_⟩
  ·rw [hs2.2 b (fun z=>hDf (by rw [<- z];exact hb))];exact e
  ·rw [hs2.2 b b1];exact hm b o b2 (hg b o b1 b2 e)
  ·rw [hs2.2 b b1];exact hm b o b2 e
end
def rW:typeLookup (.type "list") "keys"=pure none:=by rw [typeLookup_type,builtinLookup_eq_fast];kernel_rfl
def aC1:typeLookup (.type "list") "__getattr__"=pure none:=by rw [typeLookup_type,builtinLookup_eq_fast];kernel_rfl
def aC2:entryFor table "list.__getattribute__"=some Builtin.«object.__getattribute__»:=entryFor_alias (id':="object.__getattribute__") (by kernel_rfl) (by decide +kernel) (by decide +kernel) (by kernel_rfl)
def iF {prog:Program} {w:World} {A:Around} {E:Value->Shared->Prop} {s:Shared} {a:Addr} {o:Obj} {xs:Array Value} {k:Nat} {name:Str} {Q:Option Value->Shared->Prop}
  (hx:s.heap.get? a=some o) (hc:o.cls=.type "list") (hdat:o.data=.seq xs k) (hd:o.dict=none) (hmiss:typeLookup (.type "list") name=pure none) (hname:(["__module__","__name__","__qualname__","__doc__","__annotations__"]:List Str).contains name=false) (hA:A.handled=none)
  (h:∀ h' tk e,Heap.NewExcOf s.heap h' e "AttributeError"->Q none { s with heap:=h',toks:=tk }) (hsz:name.length+100<=sizeLine:=by size_fits):wpAny (model prog w) A (getAttr? (.ref a) name) Q E s:=by
 obtain ⟨c,dct,dat,sl⟩:=o;dsimp only at hc hdat hd;subst hc hdat hd;obtain ⟨hp,g,d,tk,os⟩:=s;have hT:∀ tk',(⟨hp,g,d,tk',os⟩:Shared).TypeIs (.ref a) "list":=fun _=>⟨_,hx,rfl⟩;have g1:=sub_AttributeError;have g3:=F.slot_list_getattribute.lookup;have g4:=F.slot_list_getattribute.bind (.ref a);have g5:=aC1;unfold getAttr? getAttrBy? getAttrBy
 repeat (any_goals (first | assumption | exact hT _ | ((with_reducible show wpAny _ _ (call (Value.builtin "list.__getattribute__") _ _) _ _ _);refine call_meets F.slot_list_getattribute (hT _) aC2 (F.args_list_getattribute_2 _ _) (meets_getattribute_miss_list a xs k sl name _ hmiss hname hsz) ⟨hx,hA,fun h' tk' e hx'=>?_⟩) | wp_step))
 obtain ⟨t',u',he⟩:=hx'.there;show wpAny _ _ (getattributeRaised _ _ _ _ _ _ _) _ _ _;unfold getattributeRaised
 repeat (any_goals (first | assumption | wp_step))
 exact h _ _ _ hx'.of
section
variable {prog:Program} {w:World} {A:Around} {E:Value->Shared->Prop} {s:Shared}
def nC {a:Addr} {o:Obj} {its:List Value} {n:Nat} {Q:Value->Shared->Prop} (hh:A.handled=none) (ho:s.heap.get? a=some o) (hc:o.cls=.type "list") (hdat:o.data=.seq its.toArray n) (hd:o.dict=none) (DS:Nat->Heap->Prop)
  (hmv:∀ i h h',DS i h->(∀ b o,b<=s.heap.objs.size->h.get? b=some o->h'.get? b=some o)->DS i h') (h0:∀ h',(∀ b o,(s.heap.push { cls:=.type "dict",data:=.dict #[] }).get? b=some o->h'.get? b=some o)->DS 0 h')
  (hval:∀ (i:Nat) (v:Value),its[i]?=some v->∃ p kv u,v=.ref p/\s.heap.IsTuple p #[kv,u]/\∀ (s':Shared) (Q:Unit->Shared->Prop) (E:Value->Shared->Prop),DS i s'.heap->(∀ b o,s.heap.get? b=some o->s'.heap.get? b=some o)->(∀ h2 tk,DS (i+1) h2->Heap.SameBut s.heap.objs.size s'.heap h2->Q () { s' with heap:=h2,toks:=tk })->wpAny (model prog w) A.in1.in1 (dictSet s.heap.objs.size kv u) Q E s')
  (h:∀ h' tk,DS its.length h'->(∀ b o,s.heap.get? b=some o->h'.get? b=some o)->Q (.ref s.heap.objs.size) { s with heap:=h',toks:=tk }) :
  wpAny (model prog w) A (call (.type "dict") [.ref a]) Q E s:=by
 refine callType_codes (Q₁:=fun obj s₁=>obj=.ref s.heap.objs.size/\s₁={ s with heap:=s.heap.push { cls:=.type "dict",data:=.dict #[] } }) F.kt_called_dict (F.kt_typeCall_dict_1 _) F.entry_dict_init (kt_code_dict_new _ ⟨rfl,rfl⟩) ?_;rintro obj s₁ ⟨rfl,rfl⟩;have hnew:(s.heap.push { cls:=.type "dict",data:=.dict #[] }).DictOf (bF prog w) s.heap.objs.size []:=Heap.DictOf.new s.heap;have ho':(s.heap.push { cls:=.type "dict",data:=.dict #[] }).get? a=some o:=Heap.get?_push_of_some _ ho;have hT:Shared.TypeIs { s with heap:=s.heap.push { cls:=.type "dict",data:=.dict #[] } } (.ref a) "list":=⟨_,ho',hc⟩;refine ⟨hnew.typeIs,F.args_dict_init_2 _ _,?_⟩;unfold Builtin.«dict.__init__»;refine wpAny_bind ?_;unfold Builtin.Dict.selfAndRest;refine wpAny_bind (wpAny_notOrdered_dict hnew.typeIs (wpAny_pure ?_));show wpAny _ _ (Builtin.Dict.updateFrom "dict.__init__" s.heap.objs.size (.ref a) [] .none) _ _ _;unfold Builtin.Dict.updateFrom;refine wpAny_bind (wpAny_typeOf hT ?_);rw [if_pos (by decide)];refine wpAny_bind (iF ho' hc hdat hd rW (by decide +kernel) (by simp [hh]) fun h1 tk1 e1 ne=>?_);rw [if_pos (by rfl)];have keep1:∀ b q,s.heap.get? b=some q->h1.get? b=some q:=fun b q e=>ne.keeps b q (Heap.get?_push_of_some _ e);have hD1:DS 0 h1:=h0 h1 ne.keeps;have hi1:h1.IsList a its.toArray:=⟨o,keep1 a o ho,hc,n,hdat⟩;have hlt:a < s.heap.objs.size:=Heap.lt_size ho;have hsz:s.heap.objs.size < h1.objs.size:=by
  obtain ⟨o,es,ep,ho,r⟩:=hnew;exact Heap.lt_size (ne.keeps _ _ ho)
 have hI:a≠h1.objs.size:=Nat.ne_of_lt (Nat.lt_trans hlt hsz);refine wpAny_bind (wpAny_rule (wpAny_bind (wpAny_pyIter_list hi1 (wpAny_pure ⟨plainId_quiet jB _,?_⟩))));refine aC0 (A:=A.in1) (Walks.list (A:=A.in1.in1) (by simp [hh]) h1.objs.size a hI its.toArray) s.heap.objs.size ?_ s.heap DS (fun i h h' q k=>hmv i h h' q fun b o hb e=>k b o ?_ e) (fun i v hv=>?_) _ 0 _ 0 0 rfl (Nat.zero_le _) ⟨⟨_,Heap.get?_push_size _ rfl,rfl,rfl⟩,hi1.push _⟩ (hmv _ _ _ hD1 fun b o _ e=>Heap.get?_push_of_some _ e) (fun b o _ _ e=>Heap.get?_push_of_some _ (keep1 b o e)) fun h' tk hd' hk=>?_
 ·simp only [List.mem_cons,List.mem_singleton,List.not_mem_nil,or_false,not_or];exact ⟨Nat.ne_of_lt hsz,Nat.ne_of_gt hlt⟩
 ·simp only [List.mem_singleton];exact Nat.ne_of_lt (Nat.lt_of_le_of_lt hb hsz)
 ·obtain ⟨p,kv,u,h1',h2,h3⟩:=hval i v (by simpa using hv);have hpl:p < s.heap.objs.size:=by obtain ⟨o,ho,_⟩:=h2;exact Heap.lt_size ho
  refine ⟨p,kv,u,h1',h2,Nat.ne_of_lt hpl,?_,fun s' Q' E' q k f=>h3 s' Q' E' q (fun b o e=>k b o (Nat.ne_of_lt (Heap.lt_size e)) ?_ e) f⟩
  ·simp only [List.mem_singleton];exact Nat.ne_of_lt (Nat.lt_trans hpl hsz)
  ·simp only [List.mem_singleton];exact Nat.ne_of_lt (Nat.lt_trans (Heap.lt_size e) hsz)
 ·refine ⟨rfl,h h' tk (by simpa using hd') fun b o e=>?_⟩;have hbl:b < s.heap.objs.size:=Heap.lt_size e;refine hk b o (Nat.ne_of_lt hbl) ?_ (Heap.get?_push_of_some _ (keep1 b o e));simp only [List.mem_singleton];exact Nat.ne_of_lt (Nat.lt_trans hbl hsz)
def yS (h:Heap) (its:List Value) (ps:List (Key×Value)):Prop:=its.length=ps.length/\∀ (i:Nat) (v:Value),its[i]?=some v->∃ p k t u,v=.ref p/\h.IsTuple p #[.int k t,u]/\ps[i]?=some (.inl k,u)
def kB {a:Addr} {o:Obj} {its:List Value} {n:Nat} {ps:List (Key×Value)} {Q:Value->Shared->Prop} (hh:A.handled=none) (ho:s.heap.get? a=some o) (hc:o.cls=.type "list") (hdat:o.data=.seq its.toArray n) (hd:o.dict=none) (hp:yS s.heap its ps) (hn:its.length<=1000)
  (h:∀ h' tk,h'.DictOf (bF prog w) s.heap.objs.size (merged [] ps)->(∀ b o,s.heap.get? b=some o->h'.get? b=some o)->Q (.ref s.heap.objs.size) { s with heap:=h',toks:=tk }) :
  wpAny (model prog w) A (call (.type "dict") [.ref a]) Q E s:=by
 refine nC hh ho hc hdat hd (fun i h=>i<=ps.length/\h.DictOf (bF prog w) s.heap.objs.size (merged [] (ps.take i))) (fun i h h' q k=>?_) (fun h' k=>?_) (fun i v hv=>?_) fun h' tk q k=>h h' tk ?_ k
 ·obtain ⟨l,o,es,ep,ho,r⟩:=q;exact ⟨l,o,es,ep,k _ o (Nat.le_refl _) ho,r⟩
 ·obtain ⟨o,es,ep,ho,r⟩:=Heap.DictOf.new (prog:=prog) (w:=w) (knd:=bF prog w) s.heap;exact ⟨Nat.zero_le _,o,es,ep,k _ o ho,r⟩
 ·obtain ⟨p,kk,t,u,h1,h2,h3⟩:=hp.2 i v hv;have hil:i < ps.length:=(List.getElem?_eq_some_iff.mp h3).1;refine ⟨p,.int kk t,u,h1,h2,fun s' Q' E' q k f=>?_⟩;have hlen:(merged [] (ps.take i)).length<=i:=by
   refine Nat.le_trans (iE _ _) ?_;rw [List.length_take,List.length_nil];omega
  exact wpAny_dictSet_pairs (knd:=bF prog w) (k:=.inl kk) (kU prog w kk t) q.2 (fun h2 hD2 hs2=>f h2 _ ⟨hil,by rw [merged_take_succ _ _ _ _ h3];exact hD2⟩ hs2) (by have:sizeLine=16777216:=rfl;have:=hp.1;omega)
 ·have:=q.2
  rwa [List.take_of_length_le (by have:=hp.1;omega)] at this
end
end L2
namespace DL
open PySem PySem.Spec PyProof.Rows L2 CI
section
variable {S:Sx} {κ:Kp} {M:Mp} {h h':aA} {s:Shared}
theorem qD {Z:Zm} {hp:Heap} (z:∀ a o,Z a=some o->hp.get? a=some o):∀ {xs:List PyData} {ds:List (PyData×PyData)} {its:List Value},gE xs=some ds->Paired (Rep S Z) xs its->∃ ps:List (Key×Value),yS hp its ps/\RepK S Z ds ps
 | [],_,_,e,r=>by
  cases e;cases r;exact ⟨[],⟨rfl,fun i v e=>by simp at e⟩,.nil⟩
 | x::xs,_,_,e,r=>by
  cases r with
  | @cons _ v _ vs a b =>
   obtain ⟨k,y,rfl,ds,e1,rfl⟩:∃ k y,x=.tuple [.int k,y]/\∃ ds',gE xs=some ds'/\_=(.int k,y)::ds':=by
    obtain ⟨⟨y,rfl⟩,_,e⟩:=bind_some (show (pdS x).bind _=_ from e);obtain ⟨ds,e1,e2⟩:=map_some e;exact ⟨y.1,y.2,rfl,ds,e1,e2.symm⟩
   obtain ⟨p,o,us,rfl,zp,⟨⟨n,rfl⟩,_⟩,rr⟩:=rep_t.mp a;obtain ⟨ps,⟨q1,q2⟩,q3⟩:=qD z e1 b;cases rr with
   | @cons _ u1 _ _ a1 b1 =>
    cases b1 with
    | @cons _ u2 _ _ a2 b2 =>
     cases b2;obtain ⟨t,rfl⟩:=rep_i.mp a1;refine ⟨(.inl k,u2)::ps,⟨by simp [q1],fun i v e=>?_⟩,.cons ⟨rfl,a2⟩ q3⟩;cases i with
     | zero =>
      simp at e;subst e;exact ⟨p,k,t,u2,rfl,eG (z _ _ zp),rfl⟩
     | succ i=>exact q2 i v (by simpa using e)
theorem nD {Z:Zm}:∀ {more:List (PyData×PyData)} {rm:List (Key×Value)} {kvs:List (PyData×PyData)} {r:List (Key×Value)},RepK S Z more rm->RepK S Z kvs r->RepK S Z (more.foldl (fun a p=>lH a p.1 p.2) kvs) (merged r rm)
 | [],_,_,_,a,b=>by cases a;exact b
 | p::more,_,kvs,r,a,b=>by
  cases a with
  | @cons _ q _ rm h t =>
   have:=nD t (mX h.1 h.2 b);exact this
end
end DL

namespace DL
open PySem PySem.Spec PyProof.Rows L2 CI
section
variable {S:Sx} {κ:Kp} {M:Mp} {h h':aA} {s:Shared}
def cB5 {h2:Heap} {D:Addr} {kvs:List (PyData×PyData)} {xs:List (HK×Addr×Value)} (z:∀ a o,M.Z a=some o->h2.get? a=some o) (n:NdO S h2 D xs) (r:hV S M.Z kvs xs):h2.DictOfH (cS S) D xs:=by
 obtain ⟨o,es,ep,h1,h2',h3,h4,h5⟩:=n;refine ⟨o,es,ep,h1,h2',h3,h4,fun x hx=>?_,h5⟩;have:∀ {l:List (PyData×PyData)} {r:List (HK×Addr×Value)},hV S M.Z l r->x∈r->Rep S M.Z x.1.1 (.ref x.2.1):=fun {l r} q hx=>by
  unfold hV at q;induction q with
  | nil=>simp at hx
  | cons a _ ih =>
   rcases List.mem_cons.mp hx with rfl | hx
   ·rw [<- a.1];exact a.2.1
   ·exact ih hx
 exact Rep.go z (this r hx)
theorem kD:∀ {xs:List PyData} {ds:List (PyData×PyData)} {i:Nat} {x:PyData},iB xs=some ds->xs[i]?=some x->∃ ks y,x=.tuple [.tuple ks,y]/\hkB 4 (.tuple ks)=true/\ds[i]?=some (.tuple ks,y)/\ds.length=xs.length
 | [],_,i,_,_,e=>by simp at e
 | z::xs,_,i,x,e,ei=>by
  obtain ⟨⟨⟨ks,y⟩,rfl⟩,_,e⟩:=bind_some (show (pnS z).bind _=_ from e);obtain ⟨hk,e⟩:=aE e;obtain ⟨ds,e1,rfl⟩:=map_some e;have hl:∀ {xs ds},iB xs=some ds->ds.length=xs.length:=by
   intro xs;induction xs with
   | nil=>intro ds e;cases e;rfl
   | cons z xs ih =>
    intro ds e;obtain ⟨_,_,e⟩:=bind_some (show (pnS z).bind _=_ from e);obtain ⟨_,e⟩:=aE e;obtain ⟨ds,e1,rfl⟩:=map_some e;simp [ih e1]
  cases i with
  | zero=>simp at ei;subst ei;exact ⟨ks,y,rfl,hk,rfl,by simp [hl e1]⟩
  | succ i =>
   obtain ⟨ks',y',h1,h2,h3,h4⟩:=kD e1 (by simpa using ei);exact ⟨ks',y',h1,h2,by simpa using h3,by simp [h4]⟩
def aM4 (kvs:List (PyData×PyData)) (y x:PyData):(putN kvs y x).length<=kvs.length+1:=by
 unfold putN;split
 ·rw [List.length_map];omega
 ·rw [List.length_append];simp
def wI {ds:List (PyData×PyData)} {i:Nat} {p:PyData×PyData} (e:ds[i]?=some p):gF (ds.take (i+1))=putN (gF (ds.take i)) p.1 p.2:=by
 unfold gF;rw [List.take_add_one,e,List.foldl_append];rfl
def aY5:BfS S (.type "dict") iS:=by
 intro κ M h h' s A E ws us w d hr hK hsm R r e;unfold iS at e;split at e
 ·obtain ⟨u,rfl,ra⟩:=w1 r;split at e
  ·rename_i xs ea;obtain ⟨hl,e⟩:=aE e;obtain ⟨a,vs,n,rfl,ho,hz,rr⟩:=cR R ra ea;have hlen:=rr.length;have kx:∀ {h2:Heap} {c:Cell} {tk:Nat} {o:Obj},(∀ b o,s.heap.get? b=some o->h2.get? b=some o)->h2.get? s.heap.objs.size=some o->CellOk S (M.cel (s.heap.objs.size,s.heap.objs.size)) h2 (s.heap.objs.size,s.heap.objs.size) c->Pw S κ M (h++[c]) (.c h.length) (.ref s.heap.objs.size) { s with heap:=h2,toks:=tk }:=fun k g x =>
    ⟨M.cel (s.heap.objs.size,s.heap.objs.size),.cel,(R.kept k).add R.size R.size ⟨⟨_,g⟩,_,g⟩ x,(s.heap.objs.size,s.heap.objs.size),by show (M.m++[_])[h.length]?=_;rw [<- R.len];simp,rfl⟩
   split at e
   ·rename_i ds ed;cases e;obtain ⟨ps,pa,rk⟩:=qD R.z ed rr;have hk1:=rk.length;have hk2:=pa.1;refine kB hr.hd ho rfl rfl rfl pa (by omega) fun h2 tk dd k=>?_;have rm:RepK S M.Z (rE ds) (merged [] ps):=nD rk .nil;have hm:=iE ps [];rw [List.length_nil] at hm;obtain ⟨o,es,ep,ho2,q⟩:=id dd;exact kx k ho2 ⟨_,dd,RepK.go (M:=M) .cel rm,hsm,by rw [sizeLine_eq];omega⟩
   ·obtain ⟨ds,ed,e⟩:=map_some e;cases e;obtain ⟨P,hP⟩:∃ P:Nat->Heap->Prop,P=fun i h2=>∃ ys,NdO S h2 s.heap.objs.size ys/\hV S M.Z (gF (ds.take i)) ys/\ys.length<=i:=⟨_,rfl⟩;refine nC hr.hd ho rfl rfl rfl P (fun i h1 h2 q k=>?_) (fun h2 k=>?_) (fun i v hv=>?_) fun h2 tk q k=>?_
    ·rw [hP] at q ⊢;obtain ⟨ys,⟨o,es,ep,g,q⟩,r⟩:=q;exact ⟨ys,⟨o,es,ep,k _ o (Nat.le_refl _) g,q⟩,r⟩
    ·rw [hP];exact ⟨[],⟨_,#[],0,k _ _ (Heap.get?_push_size _ rfl),⟨rfl,rfl,rfl⟩,rfl,rfl,List.nodup_nil⟩,.nil,Nat.zero_le _⟩
    ·have hi:i < xs.length:=by rw [hlen];exact (List.getElem?_eq_some_iff.mp hv).1
     obtain ⟨v',ev,rv⟩:=hU rr (List.getElem?_eq_getElem hi);rw [hv] at ev;cases ev;obtain ⟨ks,y,e1,hk,e2,e3⟩:=kD ed (List.getElem?_eq_getElem hi);rw [e1] at rv;obtain ⟨p,o,us,rfl,zp,⟨⟨m,rfl⟩,_⟩,rq⟩:=rep_t.mp rv;cases rq with
     | @cons _ uk _ _ a1 b1 =>
      cases b1 with
      | @cons _ uv _ _ a2 b2 =>
       cases b2;obtain ⟨ka,ko,kus,rfl,zk⟩:=rep_t.mp a1;refine ⟨p,.ref ka,uv,rfl,eG (R.z _ _ zp),fun s' Q' E' q k f=>?_⟩;rw [hP] at q f;obtain ⟨ys,nd,rn,yl⟩:=q;have zz:∀ a o,M.Z a=some o->s'.heap.get? a=some o:=fun a o e=>k a o (R.z a o e);refine wpAny_dictSet_heap (knd:=cS S) (k:=⟨.tuple ks,hk⟩) ?_ (show (cS S).is s'.heap ⟨.tuple ks,hk⟩ ka from Rep.go zz a1) (cB5 zz nd rn) (fun h2 dd sb=>f h2 _ ⟨storedH ys ⟨.tuple ks,hk⟩ ka uv,?_,?_,?_⟩ sb) (by rw [sizeLine_eq];omega)
       ·have:=hr.un;show A.units+1+1+5 < cLine;omega
       ·obtain ⟨o',es',ep',q1,q2,q3,q4,_,q5⟩:=dd;exact ⟨o',es',ep',q1,q2,q3,q4,q5⟩
       ·rw [wI e2];exact mY hk a1 a2 rn
       ·have h1:=(mY hk a1 a2 rn).length;have h2:=aM4 (gF (ds.take i)) (.tuple ks) y;have h3:=rn.length;omega
    ·rw [hP] at q;obtain ⟨ys,nd,rn,yl⟩:=q;have hds:ds.length<=vs.length:=by
      cases xs with
      | nil =>
       have:ds=[]:=by unfold iB at ed;cases ed;rfl
       rw [this];exact Nat.zero_le _
      | cons x xs =>
       obtain ⟨_,_,_,_,_,h4⟩:=kD ed (i:=0) rfl;omega
     rw [List.take_of_length_le hds] at rn;obtain ⟨o,es,ep,g,_⟩:=id nd;exact kx k g ⟨ys,nd,rn,hsm,by rw [sizeLine_eq];omega⟩
  ·cases e
 ·cases e
variable {X:Cx} {st:Sta} {d:Nat} {v:Evs}
def cB6 (Sn:Snd v) (G:Good X st d) (e:Expr):SE X e (aV8 v st e):=by
 unfold aV8;cases q:dcA e with
 | none=>exact pL (Sn.F G e)
 | some a =>
  dsimp only;split
  ·rename_i hx;obtain ⟨⟨a,p,q,he⟩,hh,rfl⟩:=Option.map_eq_some_iff.mp (show (dcS _).map (·.1)=_ from q);clear hh;subst he;exact bZ6 Sn G (f:=.type "dict") (g:=iS) hx (by decide +kernel) (.inr ⟨_,rfl⟩) aY5
  ·exact bY
end
end DL

namespace DL
open PySem PySem.Spec PyProof.Rows L2 CI
section
variable {X:Cx} {st:Sta} {d:Nat} {v:Evs} {κ:Kp} {M:Mp} {δ:DSt} {h h':aA} {s:Shared} {a b c e o tg iter:Expr} {es:List Expr} {pos p p2 apos:Pos} {x m:Str} {w:W}
def yT (h:vM e=false) (o i:Value):subscripted e false o i=operate [o,i] (getItem o i):=by
 cases e<;>first | rfl | cases h
def cO9 (S:Snd v) (G:Good X st d) (hs:vM b=false):SE X (.Subscript a b pos) (xb (v.E st a) fun x=>xb (v.E st b) fun y=>fun _ h=>xIx x y h):=fun _ _ _ _ _ _ _ R F e =>
 Subscript_ (two (S.E G a) (S.E G b) R F e fun R1 _ ra rb e=>bW7 G.rm R1 ra rb e (yT hs))
theorem cB7 (S:Snd v) (G:Good X st d) {f:Str->Option Int} (hf:iP st a=some f) (hs:vM b=false):SE X (.Subscript a b pos) (xb (v.E st b) fun w=>(match w with
    | .d (.str z)=>(match f z with
     | some i=>aC (.d (.int i))
     | none=>xno)
    | _=>xno)):=by
 intro κ M δ h s w h' R F e;obtain ⟨y,p,p',rfl,hn,hg,hm,T⟩:=aJ4 G hf;obtain ⟨x,h1,e1,e⟩:=aF e;refine Subscript_ (iU F R hg hm hn (thn (S.E G b R F e1) fun u s1 ⟨M1,l1,R1,r1⟩=>?_));obtain ⟨g,m,g0,g1,g2⟩:=T.map (prog:=X.S.P) (F.ok.mod.kin.keeps R1.bk);rcases x with (_ | _ | _ | z | _ | _ | _) | _<;>first | cases e;done | skip
 obtain ⟨⟨t,rfl⟩,_⟩:=rep_s.mp (show Rep X.S M1.Z _ _ from r1);have e:(match f z with
  | some i=>aC (.d (.int i))
  | none=>xno:XR W) δ h1=some (w,h'):=e
 cases ei:f z with
 | some i =>
  rw [ei] at e;cases e;obtain ⟨t',q'⟩:=g1 z i ei;exact rN m.typeIs PySem.F.slot_dict_getitem.lookup (yT hs _ _) (wpAny_getItem_of (rQ z t) m q' ((R1.tok _).pi.go l1))
 | none=>rw [ei] at e;cases e
def aY6:SE X (.Dict [] [] pos) (aC (.d (.dict []))):=by
 intro κ M δ h s w h' R F e;cases e;refine wpAny_Dict_empty ?_;have hd:(s.heap.push { cls:=.type "dict",data:=.dict #[] }).DictOf (bF X.S.P X.S.w) s.heap.objs.size []:=Heap.DictOf.new s.heap;obtain ⟨o,es,ep,ho,hr⟩:=hd;have R1:Mem X.S κ M h { s with heap:=s.heap.push { cls:=.type "dict",data:=.dict #[] } }:=R.kept (t:=s.toks) fun b o e=>Heap.get?_push_of_some _ e;refine ⟨M.add s.heap.objs.size o,Le.add R.size.1,R1.frz R.size ho,?_⟩;exact (rep_d (S:=X.S) (Z:=(M.add s.heap.objs.size o).Z)).mpr ⟨_,o,[],rfl,iO,⟨lZ F R,Nat.zero_le _,fun h2 e2=>⟨o,es,ep,e2,hr⟩⟩,.nil⟩
def bM7:SE X (.Dict [] [] pos) yF:=by
 intro κ M δ h s w h' R F e;cases e;refine wpAny_Dict_empty ?_;have hd:(s.heap.push { cls:=.type "dict",data:=.dict #[] }).DictOf (bF X.S.P X.S.w) s.heap.objs.size []:=Heap.DictOf.new s.heap;obtain ⟨o,es,ep,ho,hr⟩:=id hd;have R1:Mem X.S κ M h { s with heap:=s.heap.push { cls:=.type "dict",data:=.dict #[] } }:=R.kept (t:=s.toks) fun b o e=>Heap.get?_push_of_some _ e;exact ⟨M.cel (s.heap.objs.size,s.heap.objs.size),.cel,R1.add R.size R.size ⟨⟨_,ho⟩,_,ho⟩ ⟨[],hd,.nil,lZ F R,Nat.zero_le _⟩,(s.heap.objs.size,s.heap.objs.size),by show (M.m++[_])[h.length]?=_;rw [<- R.len];simp,rfl⟩
def bM8 (S:Snd v) (G:Good X st d) {c:Expr}:SE X (.Dict [some a] [c] pos) (yC (v.E st a) (v.E st c)):=by
 intro κ M δ h s w h' R F e;obtain ⟨x,h1,e1,e⟩:=aF e;obtain ⟨y,h2,e2,e⟩:=aF e;refine wpAny_Dict_any rfl rfl (by simp) (show 1<=15 by decide) ?_;have hd:(s.heap.push { cls:=.type "dict",data:=.dict #[] }).get? s.heap.objs.size=some { cls:=.type "dict",data:=.dict #[] }:=Heap.get?_push_size _ rfl;have R1:Mem X.S κ M h { s with heap:=s.heap.push { cls:=.type "dict",data:=.dict #[] } }:=R.kept (t:=s.toks) fun b o e=>Heap.get?_push_of_some _ e;have f0:=R.size;have RC:=R1.more (b:=true) ⟨f0.1,f0.2.2⟩ hd;have FC:Fra X (κ.up s.heap.objs.size (true,{ cls:=.type "dict",data:=.dict #[] })) M δ:=F.kp fun a ha=>bL fun z=>F.mine ha (by rw [z];exact f0.2.1);have hsm:=lZ F R;obtain ⟨D,hD⟩:∃ D,D=s.heap.objs.size:=⟨_,rfl⟩;rw [<- hD] at RC FC f0 hsm;rw [<- hD];refine pairTrees_cons_walk (thn (S.E G a RC FC e1) fun kv s1 ⟨M1,l1,R2,r1⟩=>thn (S.E G c R2 (FC.go l1) e2) fun vv s2 ⟨M2,l2,R3,r2⟩=>pairTrees_nil_walk ?_);rcases x with k | _
 case c=>cases e
 rcases y with z | _
 case c=>cases e
 obtain ⟨hz,e⟩:=aE (show (if (cT k&&hkB 4 k)=true then some (W.c h2.length,h2++[.n [(k,z)]]) else none)=some (w,h') from e);cases e;obtain ⟨hk,ka,rfl,ik,rk⟩:=mT (h:=h2) R3 (r1.go l2) rfl hz;have ho:=(R3.k D _ _ dJ).1 rfl;have dd:s2.heap.DictOfH (cS X.S) D []:=⟨_,#[],_,ho,⟨rfl,rfl,rfl⟩,rfl,rfl,fun _ hx=>by simp at hx,List.nodup_nil⟩;unfold storeAll;rw [List.forIn_cons];have hroom:(cS X.S).room X.A:=by have:=G.rm.un;show X.A.units+5 < cLine;omega
 refine wpAny_bind (wpAny_bind (wpAny_dictSet_heap (hsz:=Nat.zero_le _) hroom ik dd fun h3 dd3 sb=>wpAny_pure ?_));dsimp only;rw [List.forIn_nil];refine wpAny_pure ?_;obtain ⟨o3,es3,ep3,ho3,q1,q2,q3,_,q5⟩:=dd3;have R4:Mem X.S (κ.up D (true,o3)) M2 h2 { s2 with heap:=h3,toks:=s2.toks+(cS X.S).draws ⟨k,hk⟩ }:=by
  have:=R3.own (s':={ s2 with heap:=h3,toks:=s2.toks+(cS X.S).draws ⟨k,hk⟩ }) (b:=true) dJ (fun b o hb q=>(sb.2 b hb).trans q) ho3 R3.bare rfl;refine this.less fun a y q=>?_
  by_cases z:a=D
  ·subst z;rw [dJ] at q ⊢;exact q
  ·rw [bL z] at q;rw [bL z,bL z];exact q
 have z4:=(R4.k D _ _ dJ).2.2;have c4:=R4.kc dJ;have R5:Mem X.S κ M2 h2 { s2 with heap:=h3,toks:=s2.toks+(cS X.S).draws ⟨k,hk⟩ }:=R4.less fun a y q=>by rw [bL fun z=>by rw [z,f0.2.1] at q;cases q];exact q
 have fr:bK κ M2 D:=⟨z4,f0.2.1,c4⟩;refine ⟨M2.cel (D,D),(l1.trans l2).trans .cel,R5.add fr fr ⟨⟨_,ho3⟩,_,ho3⟩ ⟨_,⟨o3,es3,ep3,ho3,q1,q2,q3,q5⟩,?_,hsm,(show 1<=sizeLine by decide)⟩,(D,D),by show (M2.m++[_])[h2.length]?=_;rw [<- R5.len];simp,rfl⟩;exact .cons ⟨rfl,rk,r2⟩ .nil
def bM9 (S:Snd v) (G:Good X st d) (hs:aG a=true):SE X (.List [a] pos) (yD (v.E st a)):=by
 intro κ M δ h s w h' R F e;obtain ⟨x,h1,e1,e⟩:=aF e;rcases x with _ | j
 ·cases e
 cases e;refine wpAny_List_spliced (gO hs (thn (S.E G a R F e1) fun u s1 ⟨M1,l1,R1,r1⟩=>⟨(show 1<=sizeLine by decide),?_⟩));have R2:Mem X.S κ M1 h1 { s1 with heap:=s1.heap.push (bB [u] 0) }:=R1.kept (t:=s1.toks) fun b o e=>Heap.get?_push_of_some _ e;have ho:(s1.heap.push (bB [u] 0)).get? s1.heap.objs.size=some (bB [u] 0):=Heap.get?_push_size _ rfl;exact Pw.go l1 ⟨M1.cel (s1.heap.objs.size,s1.heap.objs.size),.cel,R2.add R1.size R1.size ⟨⟨_,ho⟩,_,ho⟩ ⟨[u],0,ho,(show 1<=sizeLine by decide),.cons (RepW.go .cel r1) .nil⟩,(s1.heap.objs.size,s1.heap.objs.size),by show (M1.m++[_])[h1.length]?=_;rw [<- R1.len];simp,rfl⟩
def aY7 {S:Sx} {g:List W->aA->Option (W×aA)} (h:bI3 x=some g):∃ f,bootBuiltins x=some f/\((∃ i,f=.builtin i)\/∃ i,f=.type i)/\BfS S f g:=by
 unfold bI3 at h;split at h
 ·rename_i e;cases h;subst e;exact ⟨_,by decide +kernel,.inl ⟨_,rfl⟩,bW8⟩
 split at h
 ·rename_i e;cases h;subst e;exact ⟨.type "tuple",by decide +kernel,.inr ⟨_,rfl⟩,aW1⟩
 split at h
 ·rename_i e;cases h;subst e;exact ⟨.builtin "all",by decide +kernel,.inl ⟨_,rfl⟩,bW9⟩
 split at h
 ·rename_i e;cases h;subst e;exact ⟨.type "int",by decide +kernel,.inr ⟨_,rfl⟩,bX0⟩
 ·cases h
def aM5 (S:Snd v) (G:Good X st d):SF X (.Call (.Name x p) (a::es) [] pos) (cA v st (.Call (.Name x p) (a::es) [] pos)):=by
 unfold cA;dsimp only;split
 ·rename_i hx;subst hx;split
  ·rename_i b hb;split
   ·rename_i hc;rw [Bool.and_eq_true,Bool.and_eq_true] at hc;obtain ⟨⟨y,p1,q1,heq⟩,hh,rfl⟩:=Option.map_eq_some_iff.mp (show (rgS _).map (·.1)=_ from hb);clear hh hb;cases heq;exact cA0 S G hc.1.1 hc.1.2 hc.2
   ·exact fO
  ·split
   ·rename_i hc;exact bZ7 S G hc
   ·exact fO
 ·split
  ·rename_i hx;subst hx;split
   ·rename_i hc;exact cB4 S G hc
   ·exact fO
  ·exact fO
def kE (S:Snd v) (G:Good X st d) (e:Expr):SF X e (cA v st e):=by
 cases e with
 | List es p=>exact vP S G
 | ListComp elt gs sc p =>
  rcases gs with _ | ⟨⟨tg,iter,ifs,a⟩,_ | ⟨_,_⟩⟩
  ·exact fO
  ·by_cases ha:a=0
   ·subst ha;exact bL1 S (rV S) G
   ·have:cA v st (.ListComp elt [⟨tg,iter,ifs,a⟩] sc p)=xno:=if_neg ha;rw [this];exact fO
  ·exact fO
 | Subscript a b p =>
  cases b with
  | Slice lo hi st' p2 =>
   cases st' with
   | none=>exact cO6 S G
   | some _=>exact fO
  | _=>exact fO
 | BinOp a op b p =>
  cases op with
  | Add=>exact bY9 S G
  | Mult =>
   cases a with
   | List es p'=>exact bZ2 S G
   | _=>exact fO
  | _=>exact fO
 | Call f args kw p =>
  cases f with
  | Name x px =>
   rcases args with _ | ⟨a,es⟩
   ·exact fO
   ·rcases kw with _ | ⟨k,ks⟩
    ·exact aM5 S G
    ·rcases es with _ | ⟨_,_⟩
     ·show SF X _ (if x="sorted" then (if okC st x then aV6 v st a (k::ks) else xno) else xno)
      by_cases hx:x="sorted"
      ·subst hx;rw [if_pos rfl]
       by_cases hc:okC st "sorted"=true
       ·rw [if_pos hc];exact cB3 S G hc
       ·rw [if_neg hc];exact fO
      ·rw [if_neg hx];exact fO
     ·exact fO
  | _=>exact fO
 | _=>exact fO
end
end DL

namespace ST
open PySem PySem.Spec PyProof.Rows
def Ris (xs:Array Nat):Prop:=xs.toList.Pairwise (· < ·)
def Ris.lt {xs:Array Nat} (h:Ris xs) {i k:Nat} {a b:Nat} (hik:i < k) (ha:xs[i]?=some a) (hb:xs[k]?=some b):a < b:=by
 unfold Ris at h;rw [List.pairwise_iff_getElem] at h;rw [Array.getElem?_eq_some_iff] at ha hb;obtain ⟨h1,rfl⟩:=ha;obtain ⟨h2,rfl⟩:=hb;exact h i k (by simpa using h1) (by simpa using h2) hik
theorem rX {xs:Array Nat} {j:Nat} (hx:Ris xs):∀ (fuel lo hi:Nat),hi - lo<=fuel->lo<=hi->hi<=xs.size->(∀ i a,i < lo->xs[i]?=some a->a < j)->(∀ i a,hi<=i->xs[i]?=some a->j<=a) ->
  (∀ i a,i < SetTable.below.go xs j fuel lo hi->xs[i]?=some a->a < j)/\(∀ i a,SetTable.below.go xs j fuel lo hi<=i->xs[i]?=some a->j<=a)/\SetTable.below.go xs j fuel lo hi<=xs.size
 | 0,lo,hi,h1,h2,h3,h4,h5=>by
  have:lo=hi:=by omega
  subst this;exact ⟨h4,h5,h3⟩
 | fuel+1,lo,hi,h1,h2,h3,h4,h5=>by
  unfold SetTable.below.go;split
  ·rename_i hlt;have hm:(lo+hi) / 2 < xs.size:=by omega
   have em:xs[(lo+hi) / 2]?=some xs[(lo+hi) / 2]:=Array.getElem?_eq_getElem hm;have eg:xs.getD ((lo+hi) / 2) j=xs[(lo+hi) / 2]:=by simp [Array.getD,hm]
   dsimp only;rw [eg];split
   ·rename_i hj;refine rX hx fuel _ _ (by omega) (by omega) h3 (fun i a hi' ha=>?_) h5
    by_cases e:i=(lo+hi) / 2
    ·subst e;rw [em] at ha;cases ha;exact hj
    ·exact Nat.lt_trans (hx.lt (by omega) ha em) hj
   ·rename_i hj;refine rX hx fuel _ _ (by omega) (by omega) (by omega) h4 (fun i a hi' ha=>?_)
    by_cases e:i=(lo+hi) / 2
    ·subst e;rw [em] at ha;cases ha;omega
    ·have:=hx.lt (show (lo+hi) / 2 < i by omega) em ha;omega
  ·have:lo=hi:=by omega
   subst this;exact ⟨h4,h5,h3⟩
def wJ {xs:Array Nat} (hx:Ris xs) (j:Nat):(∀ i a,i < SetTable.below xs j->xs[i]?=some a->a < j)/\(∀ i a,SetTable.below xs j<=i->xs[i]?=some a->j<=a)/\SetTable.below xs j<=xs.size :=
 rX hx xs.size 0 xs.size (by omega) (by omega) (Nat.le_refl _) (fun i a h=>by omega) (fun i a h e=>by
  rw [Array.getElem?_eq_none (by omega)] at e;cases e)
def wK {xs:Array Nat} (hx:Ris xs) {j:Nat} (hj:xs[SetTable.below xs j]?≠some j):Ris (SetTable.insertAt xs (SetTable.below xs j) j):=by
 obtain ⟨h1,h2,h3⟩:=wJ hx j;have e:(SetTable.insertAt xs (SetTable.below xs j) j).toList=xs.toList.take (SetTable.below xs j)++j::xs.toList.drop (SetTable.below xs j):=by
  simp [SetTable.insertAt,Array.toList_extract,List.extract_eq_take_drop,List.take_of_length_le]
 unfold Ris at hx ⊢;rw [e,List.pairwise_append,List.pairwise_cons];have mt:∀ a∈xs.toList.take (SetTable.below xs j),a < j:=fun a ha=>by
  obtain ⟨i,hi,ea⟩:=List.mem_iff_getElem.mp ha;rw [List.getElem_take] at ea;rw [List.length_take] at hi;refine h1 i a (by omega) ?_;rw [<- ea];exact Array.getElem?_eq_getElem (by simp at hi;omega)
 have md:∀ b∈xs.toList.drop (SetTable.below xs j),j < b:=fun b hb=>by
  obtain ⟨i,hi,eb⟩:=List.mem_iff_getElem.mp hb;rw [List.getElem_drop] at eb;rw [List.length_drop] at hi;have hlt:SetTable.below xs j+i < xs.size:=by simp at hi;omega
  have eg:xs[SetTable.below xs j+i]?=some b:=by rw [<- eb];exact Array.getElem?_eq_getElem hlt
  have q:=h2 _ b (by omega) eg;rcases Nat.lt_or_eq_of_le q with q | q
  ·exact q
  ·subst q;cases i with
   | zero=>exact absurd eg hj
   | succ i =>
    have e0:xs[SetTable.below xs j]?=some xs[SetTable.below xs j]:=Array.getElem?_eq_getElem (by omega);have:=Ris.lt hx (show SetTable.below xs j < SetTable.below xs j+(i+1) by omega) e0 eg;have q0:=h2 _ _ (Nat.le_refl _) e0;omega
 refine ⟨hx.sublist (List.take_sublist _ _),⟨md,hx.sublist (List.drop_sublist _ _)⟩,fun a ha b hb=>?_⟩;rcases List.mem_cons.mp hb with rfl | hb
 ·exact mt a ha
 ·exact Nat.lt_trans (mt a ha) (md b hb)
def aC3 (n:Nat):Ris (Array.range n):=by
 unfold Ris;rw [Array.toList_range];exact List.pairwise_lt_range
def free (t:SetTable) (j:Nat):Prop:=t.place[SetTable.below t.place j]?≠some j
def qE {t:SetTable} {j:Nat} (h:∀ i,t.slot j≠.live i):free t j:=by
 intro e;unfold SetTable.slot at h;dsimp only at h;rw [e] at h;simp at h
theorem iG {t:SetTable} {f:Nat->Int} {h:Int}:∀ (fuel:Nat) (p:SetTable.Probe),(∀ d,p.dummy=some d->free t d)->∀ j d,SetTable.probe.go t f h fuel p=some (.empty j d)->free t j/\∀ d',d=some d'->free t d'
 | 0,p,hp,j,d,e=>by simp [SetTable.probe.go] at e
 | fuel+1,p,hp,j,d,e=>by
  unfold SetTable.probe.go at e;split at e
  ·rename_i es;cases e;exact ⟨qE (fun i z=>by rw [es] at z;cases z),hp⟩
  ·rename_i es;refine iG fuel _ (fun d' ed=>?_) j d e;have:(t.advance { p with dummy:=some p.j }).dummy=some p.j:=by
    unfold SetTable.advance;split<;>rfl
   rw [this] at ed;cases ed;exact qE fun i z=>by rw [es] at z;cases z
  ·split at e
   ·cases e
   ·refine iG fuel _ (fun d' ed=>hp d' ?_) j d e;have:(t.advance p).dummy=p.dummy:=by
     unfold SetTable.advance;split<;>rfl
    rw [<- this];exact ed
def oT {t:SetTable} {h:Int} {j:Nat} {b:Bool} (e:t.freeSlot h=some (j,b)):free t j:=by
 unfold SetTable.freeSlot at e;split at e
 ·rename_i j' d ep;cases e;obtain ⟨f1,f2⟩:=iG _ _ (fun d ed=>by simp [SetTable.probeStart] at ed) _ _ ep;cases d with
  | none=>exact f1
  | some d=>exact f2 d rfl
 ·cases e
def Good (by_:Bool) (t:SetTable):Prop:=Ris t.place/\(by_=false->t.led=true)
def dS {by_:Bool} {t:SetTable} (h:Good by_ t) (n:Nat):Good by_ (t.standIn n):=⟨aC3 n,h.2⟩
def tT {by_:Bool} {t:SetTable} {es:Array (Int×Value)} {h:Int} {x:Value} (g:Good by_ t):Good by_ (layNew t es h x).2.1:=by
 unfold layNew;split
 ·rename_i slot wd e;dsimp only;have gp:Good by_ (t.put slot).1:=⟨wK g.1 (oT e),g.2⟩;unfold SetTable.orStandIn;split
  ·exact gp
  ·exact dS gp _
 ·exact dS g _
def aM6 {owner:Array (Option Nat)} (n:Nat):(((List.range n).filterMap fun j=>(owner.getD j none).map (j,·)).map (·.1)).Pairwise (· < ·):=by
 rw [List.pairwise_map];refine List.Pairwise.filterMap (R:=(· < ·)) _ (fun a a' hlt b hb b' hb'=>?_) (List.pairwise_lt_range (n:=n));obtain ⟨_,_,rfl⟩:=Option.map_eq_some_iff.mp hb;obtain ⟨_,_,rfl⟩:=Option.map_eq_some_iff.mp hb';exact hlt
def wL {by_:Bool} {t:SetTable} {es:Array (Int×Value)} {n:Nat} (g:Good by_ t):Good by_ (relayAll t es n).2.1:=by
 unfold relayAll;split
 ·rename_i t' order e;dsimp only;split
  ·unfold SetTable.relaid SetTable.laid at e;dsimp only at e;obtain ⟨owner,_,e2⟩:=Option.bind_eq_some_iff.mp e;cases e2;refine ⟨?_,g.2⟩;unfold Ris;exact aM6 _
  ·exact dS g _
 ·exact dS g _
end ST

namespace ST
open PySem PySem.Spec PyProof.Rows
noncomputable def aM7:Value->Int
 | .int k _=>k
 | _=>0
section
variable {prog:Program} {w:World} {A:Around} {E:Value->Shared->Prop} {s:Shared}
abbrev txt (w:World):Bool:=w.params.followText "set-order"
structure Parts (prog:Program) (w:World) (o:Obj) (es:Array (Int×Value)) (ep:Nat) (t:SetTable) (ks:List Int):Prop where
 ex:o.ExactSet
 dat:o.data=.set es ep t
 el:ElemsOf (intKind prog w) es.toList
 ks:(es.toList.map fun e=>aM7 e.2).Perm ks
 few:es.size < scanBound
 fit:t.fits es.size=true
 good:Good (txt w) t
def SetI (prog:Program) (w:World) (h:Heap) (a:Addr) (ks:List Int):Prop:=∃ o es ep t,h.get? a=some o/\Parts prog w o es ep t ks
def SetI.keep {h h':Heap} {a:Addr} {ks:List Int} (x:SetI prog w h a ks) (e:∀ o,h.get? a=some o->h'.get? a=some o):SetI prog w h' a ks :=
 let ⟨o,es,ep,t,ho,p⟩:=x;⟨o,es,ep,t,e o ho,p⟩
def wM {k:Int} {v:Value} (h:(intKind prog w).is k v=true):∃ t,v=.int k t:=Value.isInt_shape h
def aM8 {es:List (Int×Value)} (h:ElemsOf (intKind prog w) es) {e:Int×Value} (he:e∈es):∃ t,e.2=.int (aM7 e.2) t:=by
 obtain ⟨⟨k,hk,_⟩,_⟩:=h e he;obtain ⟨t,q⟩:=wM hk;exact ⟨t,by rw [q];rfl⟩
def aC4 {es:List (Int×Value)} (h:ElemsOf (intKind prog w) es) {k:Int} (hf:es.findIdx? (fun e=>(intKind prog w).is k e.2)=none):k∉es.map fun e=>aM7 e.2:=by
 intro z;obtain ⟨e,he,q⟩:=List.mem_map.mp z;obtain ⟨t,e2⟩:=aM8 h he;have:=List.findIdx?_eq_none_iff.mp hf e he;rw [e2,q] at this;rw [intKind_is] at this;cases this
def aC5 {es:List (Int×Value)} {k:Int} {j:Nat} (hf:es.findIdx? (fun e=>(intKind prog w).is k e.2)=some j):k∈es.map fun e=>aM7 e.2:=by
 obtain ⟨hj,hp,_⟩:=List.findIdx?_eq_some_iff_getElem.mp hf;obtain ⟨t,q⟩:=wM hp;exact List.mem_map.mpr ⟨es[j],List.getElem_mem hj,by rw [q];rfl⟩
def lC {a:Addr} {o:Obj} {es es':Array (Int×Value)} {ep:Nat} {t t':SetTable} {ks':List Int} {h:Heap} (ho:h.get? a=some o) (hd:o.data=.set es ep t) (hx:o.ExactSet)
  (p:Parts prog w { o with data:=.set es' (ep+1) t' } es' (ep+1) t' ks'):(h.update a (Obj.putSet es' t')).get? a=some { o with data:=.set es' (ep+1) t' } :=
 (SetOf_store (knd:=intKind prog w) (S':=fun k=>decide (k∈es'.toList.map fun e=>aM7 e.2)) ho hx hd p.el (fun k=>by
  rw [decide_eq_true_eq,List.mem_map];constructor
  ·rintro ⟨e,he,rfl⟩;obtain ⟨q,e2⟩:=aM8 p.el he;exact ⟨e,he,by rw [e2];exact intKind_is _ _ _ _⟩
  ·rintro ⟨e,he,q⟩;obtain ⟨tk,e2⟩:=wM q;exact ⟨e,he,by rw [e2];rfl⟩) p.few p.fit).1
def yU {g:Bool->Sem Unit} (hg:∀ (b:Bool) (s₁:Shared) (Q':Unit->Shared->Prop),Q' () s₁->wpAny (model prog w) A (g b) Q' E s₁) {a:Addr} {o:Obj} {es es1:Array (Int×Value)} {ep:Nat} {t t2:SetTable} {ks':List Int}
  (ho:s.heap.get? a=some o) (hd:o.data=.set es ep t) (hx:o.ExactSet) (p:Parts prog w { o with data:=.set es1 (ep+1) t2 } es1 (ep+1) t2 ks') {wd:Bool} {R:Option Bool->Shared->Prop}
  (h:∀ h',Heap.SameBut a s.heap h'->SetI prog w h' a ks'->R (some true) { s with heap:=h' }) :
  wpAny (model prog w) A (do
   storeSet a es1 t2
   if (!wd&&t2.tooFull)=true then do
    g (relayAll t2 es1 (SetTable.grown es1.size)).2.2
    storeSet a (relayAll t2 es1 (SetTable.grown es1.size)).1 (relayAll t2 es1 (SetTable.grown es1.size)).2.1
    pure (some true)
   else pure (some true)) R E s:=by
 refine wpAny_bind (wpAny_storeSet_of ho hd ?_ (fits_of_scanBound p.few));have ho1:=lC ho hd hx p;have sb1:=Heap.SameBut.update s.heap a (Obj.putSet es1 t2);split
 ·have hp:=relayAll_perm t2 es1 (SetTable.grown es1.size);have hf:=relayAll_fits t2 es1 (SetTable.grown es1.size);have hgd:=wL (es:=es1) (n:=SetTable.grown es1.size) p.good;have hz:(relayAll t2 es1 (SetTable.grown es1.size)).1.size=es1.size:=by simpa using hp.length_eq
  have p2:Parts prog w { o with data:=.set (relayAll t2 es1 (SetTable.grown es1.size)).1 (ep+1+1) (relayAll t2 es1 (SetTable.grown es1.size)).2.1 } (relayAll t2 es1 (SetTable.grown es1.size)).1 (ep+1+1) (relayAll t2 es1 (SetTable.grown es1.size)).2.1 ks' :=
   ⟨hx,rfl,p.el.perm hp,(hp.map _).trans p.ks,by rw [hz];exact p.few,hf,hgd⟩
  refine wpAny_bind (hg _ _ _ (wpAny_bind (wpAny_storeSet_of ho1 rfl (wpAny_pure (h _ (sb1.trans (Heap.SameBut.update _ a _)) ⟨_,_,_,_,lC ho1 rfl hx p2,p2⟩)) (fits_of_scanBound p2.few))))
 ·exact wpAny_pure (h _ sb1 ⟨_,_,_,_,ho1,p⟩)
def yV {ks:List Int} {k:Int}:(ks.any (·==k))=decide (k∈ks):=by
 rw [Bool.eq_iff_iff,List.any_eq_true,decide_eq_true_eq];constructor
 ·rintro ⟨x,hx,e⟩;rw [<- eq_of_beq e];exact hx
 ·exact fun hx=>⟨k,hx,beq_self_eq_true k⟩
def bN0 {ks:List Int} {k:Int} (h:k∈ks):step_dedup ks k=ks:=by unfold step_dedup;rw [yV,if_pos (decide_eq_true h)]
def bN1 {ks:List Int} {k:Int} (h:k∉ks):step_dedup ks k=ks++[k]:=by unfold step_dedup;rw [yV,if_neg (by rw [decide_eq_true_eq];exact h)]
def add_int {a:Addr} {ks:List Int} {k:Int} {tk:Tok} {Q:Bool->Shared->Prop} (hS:SetI prog w s.heap a ks) (room:ks.length+1 < scanBound)
  (h:∀ b h',Heap.SameBut a s.heap h'->SetI prog w h' a (step_dedup ks k)->Q b { s with heap:=h' }):wpAny (model prog w) A (setAddHashed a (.int k tk) ((intKind prog w).hash k)) Q E s:=by
 obtain ⟨o,es,ep,t,ho,p⟩:=hS;have hk:(intKind prog w).is k (.int k tk)=true:=intKind_is _ _ _ _;have hsz:es.size=ks.length:=by have:=p.ks.length_eq;simpa using this
 unfold setAddHashed setAddHashedIn;refine wpAny_holding (wpAny_bind (wpAny_setState_of ho p.dat p.fit ?_));dsimp only;rw [byScan_of (x:=.int k tk) rfl p.few p.el];simp only [if_true];unfold setAddByScan;refine wpAny_bind (wpAny_bind (wpAny_rule (wpAny_bind (wpAny_setScan_of hk ho p.dat p.fit p.el ?_))));cases hr:List.findIdx? (fun e=>(intKind prog w).is k e.2) es.toList with
 | some j =>
  have hm:k∈ks:=p.ks.mem_iff.mp (aC5 hr);refine wpAny_pure (wpAny_pure ?_);have q:=h false s.heap (Heap.SameBut.refl a _) (by rw [bN0 hm];exact ⟨o,es,ep,t,ho,p⟩);cases s;exact q
 | none =>
  have hm:k∉ks:=fun z=>aC4 p.el hr (p.ks.mem_iff.mpr z);dsimp only;have gw:∀ (b:Bool) {s₁:Shared} {Q':Unit->Shared->Prop},Q' () s₁->wpAny (model prog w) A (match b with | true=>rule "set.scan.the-table-gave-way" | false=>pure ()) Q' E s₁:=fun b s₁ Q' q=>by
   cases b
   ·exact wpAny_pure q
   ·exact wpAny_rule q
  have lp:=layNew_perm t es ((intKind prog w).hash k) (.int k tk);have lf:=layNew_fits t es ((intKind prog w).hash k) (.int k tk);have lg:Good (txt w) (layNew t es ((intKind prog w).hash k) (.int k tk)).2.1:=tT p.good;generalize layNew t es ((intKind prog w).hash k) (.int k tk)=L at lp lf lg;obtain ⟨es1,t1,wd,gv⟩:=L;dsimp only at lp lf lg ⊢;rw [Array.toList_push] at lp;have z1:es1.size=ks.length+1:=by have:=lp.length_eq;simp at this;omega
  have mk:∀ t2:SetTable,t2.fits es1.size=true->Good (txt w) t2->Parts prog w { o with data:=.set es1 (ep+1) t2 } es1 (ep+1) t2 (step_dedup ks k):=fun t2 f2 g2 =>
   ⟨p.ex,rfl,(p.el.push hk rfl).perm lp,by
    rw [bN1 hm];refine (lp.map _).trans ?_;rw [List.map_append];exact p.ks.append (List.Perm.refl _),by omega,f2,g2⟩
  refine wpAny_bind (gw _ ?_);have fin:∀ h',Heap.SameBut a s.heap h'->SetI prog w h' a (step_dedup ks k)->wpAny (model prog w) A (pure true) (fun b s'=>Q b s') E { s with heap:=h' }:=fun h' b c=>wpAny_pure (h true h' b c);split
  ·refine wpAny_bind ?_;rw [hashByValue_scannable 8 (x:=.int k tk) rfl];refine wpAny_pure (yU (fun b s₁ Q' q=>?_) ho p.dat p.ex (mk _ ?_ ?_) fun h' b c=>wpAny_pure (h _ h' b c))
   ·cases b
    ·exact wpAny_pure q
    ·exact wpAny_rule q
   ·split
    ·exact lf
    ·exact SetTable.fits_plain_off lf
   ·split
    ·exact lg
    ·exact lg
  ·refine wpAny_bind (wpAny_pure ?_);simp only [if_true];refine yU (fun b s₁ Q' q=>?_) ho p.dat p.ex (mk _ lf lg) fun h' b c=>wpAny_pure (h _ h' b c);cases b
   ·exact wpAny_pure q
   ·exact wpAny_rule q
end
end ST

namespace ST
open PySem PySem.Spec PyProof.Rows
section
variable {prog:Program} {w:World} {A:Around} {E:Value->Shared->Prop} {s:Shared} {R:Result->Shared->Prop}
def aM9 {I:Addr} {fp wr:List Addr} {n:Nat} {P:Nat->Value->Prop} {St:Nat->Heap->Prop} (W:Walks prog w A.in1 I fp wr n P St) (S:Addr) (hS:S∉fp) (val:Nat->Int) (hval:∀ i v,P i v->∃ t,v=.int (val i) t) (hb:n+1 < scanBound) :
  ∀ (k i:Nat) (s:Shared),n - i=k->i<=n->St i s.heap->SetI prog w s.heap S (firstMet val i) ->
   (∀ h' tk,SetI prog w h' S (firstMet val n)->(∀ b o,b≠S->b∉wr->s.heap.get? b=some o->h'.get? b=some o)->R (.ok (.ret .none)) { s with heap:=h',toks:=tk }) ->
   codeAny (model prog w) A (.builtin "set.update.loop" ⟨[.ref S,.ref I],[]⟩) R s:=by
 have hw:S∉wr:=fun z=>hS (W.sub _ z);intro k;induction k with
 | zero =>
  intro i s hk hi st si hR;have e:i=n:=by omega
  subst e;refine codeAny_builtin F.entry_set_update_loop ?_;rw [Around.under_plainId F.plain_set_update_loop _];refine wpAny_bind (W.done s _ _ st fun h' tk hm=>wpAny_pure ?_);exact hR h' tk (si.keep fun o e=>hm S o hw e) fun b o _ hb e=>hm b o hb e
 | succ k ih =>
  intro i s hk hi st si hR;have hlt:i < n:=by omega
  refine codeAny_builtin F.entry_set_update_loop ?_;rw [Around.under_plainId F.plain_set_update_loop _];refine wpAny_bind (W.item i s _ _ hlt st fun v h1 tk1 hP st1 hm=>?_);obtain ⟨t,rfl⟩:=hval i v hP;have s1:SetI prog w h1 S (firstMet val i):=si.keep fun o e=>hm S o hw e;have fl:=firstMet_length_le val i;refine wpAny_bind (wpAny_holding ?_);unfold setAdd;refine wpAny_holding (wpAny_bind ((intKind prog w).pyHash (k:=val i) (intKind_is _ _ _ _) ?_));refine add_int (s:={ s with heap:=h1,toks:=tk1+1 }) s1 (by omega) fun b h2 sb s2=>?_;rw [<- firstMet_succ] at s2;refine wpAny_pure ⟨plainId_quiet F.plain_set_update_loop _,ih (i+1) _ (by omega) hlt (W.frame _ h1 _ st1 fun c hc o e=>?_) s2 fun h3 tk3 s3 k3=>hR h3 tk3 s3 fun c o n1 n2 e=>k3 c o n1 n2 ?_⟩
  ·rw [sb.2 c (fun z=>hS (by rw [<- z];exact hc))];exact e
  ·show h2.get? c=some o;rw [sb.2 c n1];exact hm c o n2 e
abbrev gW (w:World):Obj:={ cls:=.type "set",dict:=none,data:=.set #[] 0 (.fresh 0 0 (!txt w)) }
def aC6:Parts prog w (gW w) #[] 0 (.fresh 0 0 (!txt w)) [] where
 ex:=⟨rfl,rfl,rfl⟩
 dat:=rfl
 el:=fun e he=>by simp at he
 ks:=by simp
 few:=by decide
 fit:=rfl
 good:=⟨by simp [Ris,SetTable.fresh],fun e=>by rw [e];rfl⟩
def aN0 (a:Value) {Q₁:Value->Shared->Prop} (h:Q₁ (.ref s.heap.objs.size) { s with heap:=s.heap.push (gW w) }) :
  codeAny (model prog w) A (.call (.builtin "set.__new__") ⟨[.type "set",a],[]⟩) (wants Q₁ E) s:=by
 refine codeAny_of_tree ?_;show wpAny _ _ (checkBuiltinCall "set.__new__" ⟨[.type "set",a],[]⟩ >>= fun _=>again (.builtin "set.__new__" ⟨[.type "set",a],[]⟩)) _ _ s;refine wpAny_bind (wpAny_of_eq (PySem.F.newCall_set_1 a) (wpAny_pure ⟨plainId_quiet PySem.F.plain_set_new _,codeAny_builtin PySem.F.entry_set_new ?_⟩));rw [Around.under_plainId PySem.F.plain_set_new _];have sub:=sub_set_self;unfold Builtin.«set.__new__» Builtin.Frozenset.newClass;obtain ⟨hp,g,d,tk,os⟩:=s;dsimp only
 wp_walk
 refine wpAny_askSetting (wpAny_pure ?_);dsimp only;simp only [newObj];exact wpAny_bind (wpAny_alloc (wpAny_pure (wpAny_pure h)))
def wN (ns:List Int):(List.range ns.length).map (fun i=>ns.getD i 0)=ns:=by
 apply List.ext_getElem
 ·simp
 ·intro i h1 h2;simp [h2]
def aN1 (ns:List Int):firstMet (fun i=>ns.getD i 0) ns.length=dd ns:=by
 unfold firstMet dd;rw [wN]
def lE {b:Bool} {l:Addr} {items:Array Value} {ns:List Int} {Q:Value->Shared->Prop} (hh:A.handled=none) (hl:SqAt b s.heap l items) (hi:IntsAre items.toList ns) (hb:items.size+1 < scanBound)
  (h:∀ h' tk,SetI prog w h' s.heap.objs.size (dd ns)->(∀ b o,s.heap.get? b=some o->h'.get? b=some o)->Q (.ref s.heap.objs.size) { s with heap:=h',toks:=tk }) :
  wpAny (model prog w) A (call (.type "set") [.ref l]) Q E s:=by
 have hnz:ns.length=items.size:=by have:=IntsAre.length hi;simpa using this.symm
 obtain ⟨c,tl,mro⟩:=PySem.F.called_set.mro;have made:=PySem.F.called_set.made;have sub:=PySem.F.called_set.sub;refine wpAny_call (codeAny_of_tree (wpAny_pure ⟨Code.quiet_builtin _ (by decide +kernel),codeAny_builtin PySem.F.entry_type_call ?_⟩));rw [Around.under_plain (weight_type_call_type "set" [.ref l] []) rfl];have h1:=PySem.F.called_set.notType;have h2:=PySem.F.called_set.canCreate;have h3:=PySem.F.typeCall_set_1 (.ref l)
 repeat (any_goals (first | assumption | wp_step))
 refine codeAny_mono (aN0 (.ref l) (E:=E) (Q₁:=fun obj s₁=>obj=.ref s.heap.objs.size/\s₁={ s with heap:=s.heap.push (gW w) }) ⟨rfl,rfl⟩) fun r s₁ hr=>?_;cases r with
 | error e=>exact hr
 | ok fl =>
  cases fl with
  | ret obj =>
   obtain ⟨rfl,rfl⟩:=hr;have gS:(s.heap.push (gW w)).get? s.heap.objs.size=some (gW w):=Heap.get?_push_size _ rfl;have hT:Shared.TypeIs { s with heap:=s.heap.push (gW w) } (.ref s.heap.objs.size) "set":=⟨_,gS,rfl⟩;have look:=PySem.F.called_set.init.lookup;have bnd:=PySem.F.called_set.init.bind (.ref s.heap.objs.size)
   repeat (any_goals (first | assumption | wp_step))
   refine codeAny_mono (codeAny_call_builtin (R:=wants (fun r s₂=>r=.none/\∃ h' tk,s₂={ s with heap:=h',toks:=tk }/\SetI prog w h' s.heap.objs.size (dd ns)/\(∀ b o,s.heap.get? b=some o->h'.get? b=some o)) E)
    PySem.F.called_set.init.plain PySem.F.entry_set_init (check_set_init_1 hT ?_)) fun r₂ s₂ hr₂=>?_
   ·obtain ⟨cc,⟨⟨oc,od,odt,osl⟩,hol,hcl⟩,f1,f2,f3⟩:∃ cc,(∃ ol,s.heap.get? l=some ol/\ol.cls=.type cc)/\isSubtype (.type cc) (.type "set")=pure false/\isSubtype (.type cc) (.type "frozenset")=pure false/\(Value.type cc==Value.type "dict")=false:=by
     cases b
     ·obtain ⟨ol,hol,hcl,_⟩:=hl;exact ⟨_,⟨ol,hol,hcl⟩,PySem.F.sub_list_set,PySem.F.sub_list_frozenset,by decide⟩
     ·obtain ⟨ol,hol,hcl,_⟩:=hl;exact ⟨_,⟨ol,hol,hcl⟩,PySem.F.sub_tuple_set,PySem.F.sub_tuple_frozenset,by decide⟩
    dsimp only at hcl;subst hcl;have hol2:(s.heap.push (gW w)).get? l=some { cls:=.type cc,dict:=od,data:=odt,slots:=osl }:=Heap.get?_push_of_some _ hol;have il:SqAt b (s.heap.push (gW w)) l items:=hl.keep fun o e=>Heap.get?_push_of_some _ e;unfold Builtin.«set.__init__» noKeywords Builtin.Frozenset.updateFrom;generalize hPI:pyIter=PI
    wp_walk
    subst hPI;refine dU il (wpAny_bind (wpAny_runValue ?_));have lt:l < s.heap.objs.size:=Heap.lt_size hol;have sz:(s.heap.push (gW w)).objs.size=s.heap.objs.size+1:=by rw [Heap.size_push]
    have hne:l≠(s.heap.push (gW w)).objs.size:=by rw [sz];exact Nat.ne_of_lt (Nat.lt_succ_of_lt lt)
    have hSf:s.heap.objs.size∉[(s.heap.push (gW w)).objs.size,l]:=by
     rw [sz];simp only [List.mem_cons,List.not_mem_nil,or_false,not_or];exact ⟨Nat.ne_of_lt (Nat.lt_succ_self _),Nat.ne_of_gt lt⟩
    obtain ⟨P,St,W,st0,hP⟩:∃ P St,Walks prog w A.in1.in1.in1 (s.heap.push (gW w)).objs.size [(s.heap.push (gW w)).objs.size,l] [(s.heap.push (gW w)).objs.size] items.size P St/\St 0 ((s.heap.push (gW w)).push (iY b l))/\∀ i v,P i v->items[i]?=some v:=by
     have il2:SqAt b ((s.heap.push (gW w)).push (iY b l)) l items:=il.keep fun o e=>Heap.get?_push_of_some _ e;cases b
     ·exact ⟨_,_,Walks.list (by simp [hh]) _ l hne items,⟨⟨_,Heap.get?_push_size _ rfl,rfl,rfl⟩,il2⟩,fun _ _ e=>e⟩
     ·exact ⟨_,_,Walks.tuple (by simp [hh]) _ l hne items,⟨⟨_,Heap.get?_push_size _ rfl,rfl,rfl⟩,il2⟩,fun _ _ e=>e⟩
    refine aM9 W s.heap.objs.size hSf (fun i=>ns.getD i 0) (fun i v hv=>IntsAre.int_at hi i v (by rw [Array.getElem?_toList];exact hP i v hv)) hb (items.size - 0) 0 _ rfl (Nat.zero_le _)
     st0 ⟨_,_,_,_,Heap.get?_push_of_some _ gS,aC6⟩ fun h' tk si kp=>?_
    rw [<- hnz,aN1] at si;refine wpAny_pure (wpAny_pure ⟨rfl,h',tk,rfl,si,fun b o e=>?_⟩);have bl:b < s.heap.objs.size:=Heap.lt_size e;refine kp b o (Nat.ne_of_lt bl) ?_ (Heap.get?_push_of_some _ (Heap.get?_push_of_some _ e));simp only [List.mem_singleton];rw [sz];exact Nat.ne_of_lt (Nat.lt_succ_of_lt bl)
   ·cases r₂ with
    | error e=>exact hr₂
    | ok fl₂ =>
     cases fl₂ with
     | ret r =>
      obtain ⟨rfl,h',tk,rfl,si,kp⟩:=hr₂
      repeat (any_goals (first | assumption | wp_step))
      exact h _ _ si kp
     | _=>exact hr₂.elim
  | _=>exact hr.elim
end
end ST

namespace ST
open PySem PySem.Spec PyProof.Rows
section
variable {prog:Program} {w:World} {A:Around} {E:Value->Shared->Prop} {s:Shared} {R:Result->Shared->Prop}
def bN2 (ns:List Int):(dd ns).length<=ns.length:=by
 rw [<- aN1];exact firstMet_length_le _ _
end
end ST
namespace DL
open PySem PySem.Spec PyProof.Rows L2 CI ST
section
variable {X:Cx} {st:Sta} {d:Nat} {v:Evs} {a:Expr} {p p2 pos pos2:Pos}
def aN2 (G:Good X st d) {x:Str} (h:okB st x=true):(cJ st x&&(slot st x).isNone&&st.bl.contains x)=true:=by
 unfold okB at h;rw [Bool.and_eq_true] at h;exact h.1
def bN3 (S:Snd v) (G:Good X st d) (h1:okB st "len"=true) (h2:okB st "set"=true) (hs:aG a=true):SE X (.Call (.Name "len" p) [.Call (.Name "set" p2) [a] [] pos2] [] pos) (xb (aR v st [a]) fun ws=>fun _ h=>xLS ws h):=by
 intro κ M δ h s w h' R F e;obtain ⟨ws,hh,e1,e⟩:=aF e;obtain ⟨n1,n2,n3⟩:=cZ G (aN2 G h1);refine wpAny_Call_Name_kw (cX (u:=.builtin "len") F R n2 n3 (by decide +kernel) n1 ?_);refine PyProof.Rows.callWith_builtin1 (gO (by rfl) ?_) rfl rfl;refine nB (f:=.type "set") S G (aN2 G h2) (by decide +kernel) (.inr ⟨_,rfl⟩) R F e1 fun {M1 us s1} l1 R1 r1=>?_;have sb:scanBound=4096:=rfl;have fin:∀ {ns:List Int} {h2:Heap} {tk2:Nat},ns.length<=62->SetI X.S.P X.S.w h2 s1.heap.objs.size (dd ns)->(∀ b o,s1.heap.get? b=some o->h2.get? b=some o)->Wp X.S X.A (call (.builtin "len") [.ref s1.heap.objs.size]) (Pw X.S κ M hh (.d (.int (dd ns).length))) NE { s1 with heap:=h2,toks:=tk2 }:=fun {ns h2 tk2} hn si k2=>by
  obtain ⟨o,es,ep,tt,ho,pt⟩:=si;have hsz:es.size=(dd ns).length:=by
   have:=pt.ks.length_eq
   simpa using this
  have hd:=bN2 ns;refine call_len_set ho pt.ex pt.dat pt.fit (by omega) ?_;rw [hsz];exact ((R1.kept (t:=tk2) k2).tok _).pi.go l1
 unfold xLS at e;rcases ws with _ | ⟨x,_ | ⟨y,ws⟩⟩
 ·cases e
 ·obtain ⟨u,rfl,ru⟩:=w1 r1;cases x with
  | c _=>cases e
  | d x =>
   cases x with
   | tuple xs =>
    dsimp only at e;cases en:dF xs with
    | none=>rw [en] at e;cases e
    | some ns =>
     rw [en] at e;obtain ⟨hn,e⟩:=aE e;cases e;obtain ⟨b,vs,n,rfl,z,hz,rr⟩:=fY (h:=h') R1 ru rfl;have hi:=jA en rr;exact lE (b:=true) G.rm.hd (show s1.heap.IsTuple b vs.toArray from eG (R1.z _ _ z)) (by simpa using hi) (by have:=hi.length;simp;omega) fun h2 tk2 si k2=>fin hn si k2
   | list xs =>
    dsimp only at e;cases en:dF xs with
    | none=>rw [en] at e;cases e
    | some ns =>
     rw [en] at e;obtain ⟨hn,e⟩:=aE e;cases e;obtain ⟨b,vs,n,rfl,ho,hz,rr⟩:=cR (h:=h') R1 ru rfl;have hi:=jA en rr;exact lE (b:=false) G.rm.hd (cK ho).isList (by simpa using hi) (by have:=hi.length;simp;omega) fun h2 tk2 si k2=>fin hn si k2
   | _=>cases e
 ·rcases x with x | _<;>first | (cases e;done) | (cases x<;>cases e)
end
end DL

namespace DL
open PySem PySem.Spec PyProof.Rows L2 CI
section
variable {X:Cx} {st:Sta} {d:Nat} {v:Evs} {κ:Kp} {M:Mp} {δ:DSt} {h h':aA} {s:Shared} {a b c e o tg iter:Expr} {es:List Expr} {pos p p2 apos:Pos} {x m:Str} {w:W}
def bN4 (S:Snd v) (G:Good X st d) {p:Pos} {args:List Expr} (hx:(cJ st "isinstance"&&(slot st "isinstance").isNone&&st.bl.contains "isinstance")=true):SE X (.Call (.Name "isinstance" p) args [] pos) (bI9 v st args):=by
 unfold bI9;cases bW4 args with
 | some y =>
  obtain ⟨⟨e,T⟩,q,rfl⟩:=y;dsimp only;split
  ·rename_i hc;simp only [Bool.and_eq_true] at hc;split
   ·rename_i Ts hT;exact bZ8 S G hx hc.1.1.1 (by rw [hc.1.1.2,hc.1.2,hc.2];rfl) hT
   ·exact bY
  ·exact bY
 | none =>
  cases bW5 args with
  | some y =>
   obtain ⟨e,q1,q2,k,r,rfl⟩:=y;dsimp only;split
   ·rename_i hc;simp only [Bool.and_eq_true] at hc;exact bM2 S G hx hc.1.1 hc.1.2 hc.2
   ·exact bY
  | none=>exact bY
def cB8 (S:Snd v) (G:Good X st d) {o:Expr} {m:Str} {apos:Pos} {args:List Expr}:SE X (.Call (.Attribute o m apos) args [] pos) (bJ0 v st o m apos pos args):=by
 unfold bJ0;split
 ·rename_i hc;rw [Bool.and_eq_true] at hc;rcases args with _ | ⟨a,es⟩
  ·dsimp only;split
   ·rename_i hm;subst hm;exact bM3 S G hc.1 hc.2
   ·exact bY
  ·dsimp only;split
   ·rename_i hm;subst hm;rcases es with _ | ⟨_,_⟩
    ·dsimp only;split
     ·exact cA1 S G hc.1 hc.2
     ·exact bY
    ·exact bY
   ·split
    ·rename_i hm;subst hm;rcases es with _ | ⟨_,_⟩
     ·dsimp only;split
      ·rename_i hs;exact cA2 S G hc.1 hc.2 hs
      ·exact bY
     ·exact bY
    ·split
     ·rename_i hn;split
      ·rename_i g hg;exact bM4 S G hg hc.1 hc.2 (by simpa using hn)
      ·exact bY
     ·exact bY
 ·exact bY
def bN5 (S:Snd v) (G:Good X st d) {f:Expr} {args:List Expr}:SE X (.Call f args [] pos) (yB v st f args pos):=by
 cases f with
 | Name x p =>
  unfold yB;dsimp only;split
  ·rename_i ht;rw [Bool.and_eq_true] at ht;split
   ·rename_i m hm;rcases args with _ | ⟨a,es⟩
    ·exact bY
    ·exact bZ3 S G ht.1 (G.fnW _ _ hm)
   ·split
    ·rename_i C m hm;rcases args with _ | ⟨a,es⟩
     ·exact bY
     ·exact cO7 S G ht.1 hm
    ·split
     ·rename_i m hm;rcases args with _ | ⟨a,es⟩
      ·exact bY
      ·refine aK6 G ht.1 (G.fn _ _ hm) (fa:=if (st.ac x).isEmpty=true then aR v st (a::es) else hZ v st (st.ac x) 0 (a::es)) ?_ fun {δ h r} e=>?_
       ·split
        ·exact cN S G _
        ·exact yO S G _ _ _
       ·split at e
        ·exact cY e
        ·exact mZ e
     ·split
      ·rename_i hbl;have hx:(cJ st x&&(slot st x).isNone&&st.bl.contains x)=true:=by rw [ht.1,ht.2,hbl];rfl
       split
       ·rename_i g hg;rcases args with _ | ⟨a,es⟩
        ·exact bY
        ·obtain ⟨f,h1,h2,h3⟩:=aY7 (S:=X.S) hg;exact bZ6 S G hx h1 h2 h3
       ·split
        ·rename_i hi;subst hi;exact bN4 S G hx
        ·rcases args with _ | ⟨a,es⟩
         ·exact pO fO
         ·exact pO (aM5 S G)
      ·exact bY
  ·exact bY
 | Attribute o m apos =>
  unfold yB;dsimp only;split
  ·rename_i C g hm;rcases args with _ | ⟨a,es⟩
   ·exact bY
   ·dsimp only;split
    ·rename_i hc;simp only [Bool.and_eq_true,decide_eq_true_eq] at hc;exact cO8 S G hm hc.1.1.1 (by rw [hc.1.1.2]) hc.1.2 hc.2
    ·exact bY
  ·exact cB8 S G
 | _=>exact bY
def bN6 (S:Snd v) (G:Good X st d) {f:Expr} {args:List Expr}:SE X (.Call f args [] pos) (aH7 v st f args pos):=by
 unfold aH7;cases hq:fuS f args with
 | none=>exact bN5 S G
 | some y =>
  obtain ⟨a,p,p2,q,rfl,rfl⟩:=y;dsimp only;split
  ·rename_i hc;simp only [Bool.and_eq_true] at hc;exact bN3 S G hc.1.1 hc.1.2 hc.2
  ·exact bY
def bN7 (S:Snd v) (G:Good X st d) (e:Expr):SE X e (tF v st e):=by
 cases e with
 | Name x p=>exact bK1 G
 | Constant c k p=>exact aW6
 | BinOp a op b p =>
  unfold tF;dsimp only;split
  ·rename_i es p';have:cA v st (.BinOp (.List es p') .Mult b p')=cA v st (.BinOp (.List es p') .Mult b p):=rfl;rw [this];exact pO (kE S G _)
  ·exact bX5 S G
 | Compare a ops cs p=>exact bL9 S G
 | BoolOp op vs p =>
  cases op with
  | And=>exact aJ3 S G vs
  | Or=>exact bF3 S G vs
 | UnaryOp op a p =>
  cases op with
  | Not=>exact bX6 S G
  | USub=>exact bX7 S G
  | _=>exact bY
 | IfExp c a b p=>exact bX8 S G
 | Tuple es k p=>exact bY2 S G
 | List es p=>exact pO (kE S G _)
 | ListComp elt gs sc p=>exact pO (kE S G _)
 | Subscript a b p =>
  unfold tF;dsimp only;split
  ·exact bZ0 S G
  ·split
   ·exact bY
   ·rename_i hs;have hs:vM b=false:=by simpa using hs
    split
    ·rename_i f hf;exact cB7 S G hf hs
    ·exact cO9 S G hs
 | Call f args kw p =>
  rcases kw with _ | ⟨_,_⟩
  ·exact bN6 S G
  ·exact bY
 | Attribute o f p =>
  unfold tF;dsimp only;split
  ·rename_i ho;exact bZ4 S G ho
  ·exact bY
 | Dict ks vs p =>
  rcases ks with _ | ⟨_,_⟩
  ·rcases vs with _ | ⟨_,_⟩
   ·exact aY6
   ·exact bY
  ·exact bY
 | _=>exact bY
theorem bF9 (S:Snd v) (G:Good X st d) (he:∀ whole,isTrue e X.env whole=(do let v <- whole;standAt e.pos;holding [v] (truthy v))):ST X e (xb (v.E st e) fun w=>(match w with
  | .d (.bool b)=>aC b
  | _=>xno)):=by
 intro κ M δ h s w h' R F e';obtain ⟨x,h1,e1,e'⟩:=aF e';refine isTrue_plain (thn (S.E G e R F e1) fun u s1 ⟨M1,l1,R1,r1⟩=>?_) (he _);rcases x with (_ | b | _ | _ | _ | _ | _) | _<;>first | cases e';done | skip
 cases e';cases wb.mp r1;exact wpAny_truthy_bool ⟨rfl,M1,l1,R1⟩
def bN8 (S:Snd v) (G:Good X st d) (e:Expr):ST X e (bF0 v st e):=by
 cases e with
 | UnaryOp op a p =>
  cases op with
  | Not =>
   intro κ M δ h s w h' R F e;obtain ⟨x,h1,e1,e⟩:=aF (show xb (v.T st a) (fun b=>aC (!b)) δ h=some (w,h') from e);cases e;exact isTrue_not (thn (S.T G a R F e1) fun c s1 ⟨ec,q⟩=>⟨by rw [ec],q⟩)
  | _=>exact bF9 S G fun _=>rfl
 | BoolOp op vs p =>
  cases op with
  | And=>exact bF4 S G vs _
  | Or=>exact bX9 S G vs _
 | Compare a ops cs p=>exact bY1 S G
 | IfExp a b c p=>exact fun _ _ _ _ _ _ _ _ _ e=>by cases e
 | _=>exact bF9 S G fun _=>rfl
def aC7:SG X e (fun _ _ _=>none):=fun _ _ _ _ _ _ _ _ _ _ _ _ e=>by cases e
def wO (h:vM b=false) (v:Value):assign (.Subscript a b pos) X.env v=(do
   let ov <- holding [v] (eval a X.env)
   let iv <- holding [v,ov] (eval b X.env)
   standAt pos
   holding [v,ov,iv] (setItem ov iv v)
   release [v,ov,iv] []):=by
 cases b<;>first | rfl | cases h
def bN9 (S:Snd v) (G:Good X st d) (e:Expr):SG X e (tG v st e):=by
 cases e with
 | Name x p =>
  unfold tG;dsimp only;split
  ·rename_i i hi;split
   ·rename_i hl;exact bK7 G hi hl
   ·exact aC7
  ·exact aC7
 | Tuple es k p =>
  unfold tG;dsimp only;split
  ·rename_i hs;exact bY6 S G hs
  ·exact aC7
 | Subscript a b p =>
  unfold tG;dsimp only;split
  ·exact aC7
  ·rename_i hs;exact bY7 S G (wO (by simpa using hs))
 | _=>exact aC7
end
end DL

namespace DL
open PySem PySem.Spec PyProof.Rows L2 CI
section
variable {X:Cx} {st:Sta} {d:Nat} {v:Evs} {κ:Kp} {M:Mp} {δ:DSt} {h h':aA} {s:Shared} {a b c e o tg iter:Expr} {es:List Expr} {pos p p2 apos px:Pos} {x m:Str} {w:W} {i:Nat}
def nE (h:iA e=false) (t:Option Expr) (l:Nat) (env:Env):swapsWith e t l env=pure false:=by
 cases e<;>first | rfl | cases h
def tU (F:Fra X κ M δ) (G:Good X st d) {elt:Expr} {gs:List Comprehension} {sc:Scope} {l:Nat} :
  swapsWith (.ListComp elt gs sc p) (some (.Name x px)) l X.env=pure (swB st (.ListComp elt gs sc p) x px):=by
 show (pure (X.env.blockKind==.function&&X.env.kindOf x==some .local&&px.line==p.line&&!(sc.names.any fun (n,k)=>n==x&&(k==.local||k==.cell))):Sem Bool)=_;unfold swB;dsimp only;have e1:(X.env.blockKind==.function)=true:=by unfold Env.blockKind;rw [F.ok.kind];rfl
 have e2:(X.env.kindOf x==some .local)=cU st.S x:=by
  unfold Env.kindOf cU;rw [G.S];cases q:st.S.names.lookup x with
  | none=>rfl
  | some k=>cases k<;>rfl
 rw [e1,e2,Bool.true_and]
def wP (h:aV7 e tg=false) (env:Env):swappedStores [tg] e env=pure none:=by
 cases tg<;>first | rfl | (cases e<;>first | rfl | cases h)
def aY8 (h:aG e=true) (env:Env):(assignEach [e] env).map (·.2)=[assign e env]:=by
 cases e<;>first | rfl | cases h
def qF {f:XR W} (G:Good X st d) (he:SE X e f) (hi:slot st x=some i) (hl:(rD st.S x&&(st.top||cU st.S x))=true) (hs:∀ ⦃κ M δ⦄,Fra X κ M δ->swapsWith e (some (.Name x px)) pos.line X.env=pure false):SS X (.Assign [.Name x px] e pos) (aQ i f):=by
 intro κ M δ h s fl h' R F e';obtain ⟨⟨w,h1⟩,e1,e'⟩:=bind_some e';cases e';obtain ⟨hx,hf⟩:=aJ2 G hl;refine wpAny_Assign_Name (thn (he R F e1) fun u s1 ⟨M1,l1,R1,r1⟩=>?_) (hs F);exact aI9 (F.go l1) R1 (lW G hi) hx hf r1 fun s2 κ2 o2 R2 F2 _=>⟨κ2,M1,o2,l1,R2,F2⟩
def aN3 (S:Snd v) (G:Good X st d) (hi:slot st x=some i) (hl:(rD st.S x&&(st.top||cU st.S x))=true) (hc:iA e=true) (hs:(swB st e x px||!(cU st.S x))=true) {f:XR W}
  (hf:f=aS (cA v st e)\/f=aM (cA v st e)):SS X (.Assign [.Name x px] e pos) (aQ i f):=by
 have no:∀ {e:Expr},f=aS (cA v st e)\/f=aM (cA v st e)->(∀ δ h,cA v st e δ h=none)->SS X (.Assign [.Name x px] e pos) (aQ i f):=fun {e} hf n κ M δ h s fl h' R F e'=>by
  obtain ⟨⟨w,h1⟩,e1,e'⟩:=bind_some e';rcases hf with rfl | rfl<;>(obtain ⟨q,e2,_⟩:=bind_some (show (cA v st e δ h).bind _=_ from e1);rw [n] at e2;cases e2)
 cases e with
 | ListComp elt gs sc p =>
  by_cases hw:swB st (.ListComp elt gs sc p) x px=true
  ·rcases gs with _ | ⟨⟨tg,iter,ifs,a⟩,_ | ⟨_,_⟩⟩
   ·exact no hf fun _ _=>rfl
   ·by_cases ha:a=0
    ·subst ha
     by_cases hcc:(pE st.N sc st.S&&!iQ iter)=true
     ·have e0:cA v st (.ListComp elt [⟨tg,iter,ifs,0⟩] sc p)=xb (pD v st tg iter) fun p=>fun δ h=>aN (v.G (st.blk sc) tg) (aV4 v (st.blk sc) ifs) (v.E (st.blk sc) elt) p.2 p.1 p.1 (aP (fW st.N sc) δ) h []:=by
       show kX v st elt tg iter ifs sc=_;unfold kX;rw [if_pos hcc]
      rw [Bool.and_eq_true] at hcc;have hset:iQ iter=false:=by simpa using hcc.2
      have hloc:st.S.names.lookup x=some .local:=by
       unfold swB at hw;simp only [Bool.and_eq_true] at hw;have h1:=hw.1.1;unfold cU at h1;split at h1
       ·assumption
       ·cases h1
      intro κ M δ h s fl h' R F e';obtain ⟨⟨w,h2⟩,e1,e'⟩:=bind_some e';cases e';have run:∀ {xs:List PyData} {h1:aA},cA v st (.ListComp elt [⟨tg,iter,ifs,0⟩] sc p) δ h=some (xs,h1)->(∀ {κ:Kp} {M:Mp} {u:Value} {s:Shared},Pf X.S κ M h1 xs u s->Pw X.S κ M h2 w u s)->Wp X.S X.A (exec (.Assign [.Name x px] (.ListComp elt [⟨tg,iter,ifs,0⟩] sc p) pos) X.env) (Ps X κ M h2 (.nx (δ.set i (some w)))) NE s:=fun {xs h1} e2 cv=>by
       rw [e0] at e2;obtain ⟨⟨all,c⟩,h0,e3,e4⟩:=aF e2;exact bL0 G.rm.hd (by rw [G.S,G.N];exact lX hcc.1) (rV S G tg iter) (fun cl C=>S.G (cO G cl C) tg) (fun cl C=>vW S (cO G cl C) ifs) (fun cl C=>S.E (cO G cl C) elt) (rR hset _) R F e3 (iW e4) (fun p=>cv (bY8 p)) (lW G hi) (by rw [G.S];exact hloc) (by rw [tU F G,hw])
      rcases hf with rfl | rfl
      ·obtain ⟨⟨xs,h1⟩,e2,e5⟩:=bind_some (show (cA v st _ δ h).bind _=_ from e1);cases e5;exact run e2 fun p=>aI0 p
      ·obtain ⟨⟨xs,h1⟩,e2,e5⟩:=bind_some (show (cA v st _ δ h).bind _=_ from e1);cases e5;exact run e2 fun p=>rJ p
     ·exact no hf fun δ h=>by
       show kX v st elt tg iter ifs sc δ h=none;unfold kX;rw [if_neg hcc];rfl
    ·exact no hf fun δ h=>by
      show (if a=0 then kX v st elt tg iter ifs sc else xno) δ h=none;rw [if_neg ha];rfl
   ·exact no hf fun _ _=>rfl
  ·have hw':swB st (.ListComp elt gs sc p) x px=false:=by simpa using hw
   refine qF G ?_ hi hl fun κ M δ F=>by rw [tU F G,hw']
   rcases hf with rfl | rfl
   ·exact pL (kE S G _)
   ·exact pO (kE S G _)
 | SetComp elt gs sc p=>exact no hf fun _ _=>rfl
 | DictComp k w gs sc p=>exact no hf fun _ _=>rfl
 | _=>cases hc
def cB9 (S:Snd v) (G:Good X st d) (hc:iA e=false) (ht:aV7 e tg=false) (hn:aG tg=true):SS X (.Assign [tg] e pos) fun δ h=>(v.E st e δ h).bind fun p=>(v.G st tg p.1 δ p.2).bind fun q=>some (.nx q.1,q.2):=by
 intro κ M δ h s fl h' R F e';obtain ⟨⟨w,h1⟩,e1,e'⟩:=bind_some e';obtain ⟨⟨δ2,h2⟩,e2,e'⟩:=bind_some e';cases e';refine wpAny_Assign_stores (thn (S.E G e R F e1) fun u s1 ⟨M1,l1,R1,r1⟩=>?_) (nE hc _ _ _) (wP ht _);rw [aY8 hn];exact thn (S.G G tg R1 (F.go l1) r1 e2) fun _ s2 ⟨κ2,M2,o2,l2,R2,F2⟩=>⟨κ2,M2,o2,l1.trans l2,R2,F2⟩
def bO0 (S:Snd v) (G:Good X st d) (t:Stmt):SS X t (tH v st t):=by
 have one:∀ (tg e:Expr) (pos:Pos),SS X (.Assign [tg] e pos) (if (iA e||aV7 e tg||!(aG tg))=true then fun _ _=>none else fun δ h=>(v.E st e δ h).bind fun p=>(v.G st tg p.1 δ p.2).bind fun q=>some (.nx q.1,q.2)):=fun tg e pos=>by
  split
  ·exact jX
  ·rename_i hc;simp only [Bool.or_eq_true,not_or,Bool.not_eq_true,Bool.not_eq_true',Bool.not_eq_false] at hc;exact cB9 S G hc.1.1 hc.1.2 (by simpa using hc.2)
 cases t with
 | Return o p =>
  cases o with
  | none=>exact jX
  | some e =>
   refine bY4 (f:=if st.cv.contains "return"=true then aV8 v st e else v.E st e) ?_;split
   ·exact cB6 S G e
   ·exact S.E G e
 | If c a b p=>exact cO4 S G
 | Expr e p =>
  unfold tH;dsimp only;split
  ·exact jX
  ·rename_i hc;exact bK6 S G (nE (by simpa using hc) _ _ _)
 | Pass p=>exact fun _ _ _ _ _ _ _ R F e=>by cases e;exact wpAny_Pass ⟨_,_,.refl,.refl,R,F⟩
 | Break p=>exact fun _ _ _ _ _ _ _ R F e=>by cases e;exact wpAny_Break ⟨_,_,.refl,.refl,R,F⟩
 | Continue p=>exact fun _ _ _ _ _ _ _ R F e=>by cases e;exact wpAny_Continue ⟨_,_,.refl,.refl,R,F⟩
 | For tg iter body els p =>
  rcases els with _ | ⟨_,_⟩
  ·unfold tH;dsimp only;split
   ·exact jX
   ·rename_i hs;exact bY5 G.rm.hd (rV S G tg iter) (S.G G tg) (pK S G body) (rR (by simpa using hs) _)
  ·exact jX
 | While c body els p =>
  rcases els with _ | ⟨_,_⟩
  ·exact aW8 (S.T G c) (pK S G body)
  ·exact jX
 | Assign tgs e p =>
  rcases tgs with _ | ⟨tg,_ | ⟨_,_⟩⟩
  ·exact jX
  ·cases tg with
   | Name x px =>
    unfold tH;dsimp only;split
    ·rename_i i hi;split
     ·rename_i hl;split
      ·rename_i hc;split
       ·rename_i hw;split
        ·exact aN3 S G hi hl hc hw (.inl rfl)
        ·exact aN3 S G hi hl hc hw (.inr rfl)
       ·exact jX
      ·rename_i hc;have hsw:∀ ⦃κ M δ⦄,Fra X κ M δ->swapsWith e (some (.Name x px)) p.line X.env=pure false:=fun _ _ _ _=>nE (by simpa using hc) _ _ _;split
       ·rename_i hz;rw [Bool.and_eq_true] at hz;have hd:∃ pp,e=.Dict [] [] pp:=by
         have:=hz.2;cases e<;>first | (cases this;done) | skip
         rename_i ks vs pp;cases ks<;>cases vs<;>first | exact ⟨_,rfl⟩ | cases this
        obtain ⟨pp,rfl⟩:=hd;exact qF G bM7 hi hl hsw
       ·split
        ·split
         ·rename_i k z hd;have hd':∃ pp,e=.Dict [some k] [z] pp:=by
           obtain ⟨y,_,ey⟩:=Option.map_eq_some_iff.mp (show (d1S _).map (·.1)=_ from hd);obtain ⟨p,hp⟩:=y.2;rw [ey] at hp;exact ⟨p,hp⟩
          obtain ⟨pp,rfl⟩:=hd';exact qF G (bM8 S G) hi hl hsw
         ·split
          ·rename_i a ha;have ha':∃ pp,e=.List [a] pp/\aG a=true:=by
            obtain ⟨y,_,rfl⟩:=Option.map_eq_some_iff.mp (show (lrS st _).map (·.1)=_ from ha);exact y.2
           obtain ⟨pp,rfl,hns⟩:=ha';exact qF G (bM9 S G hns) hi hl hsw
          ·exact qF G (pL (S.F G e)) hi hl hsw
        ·exact qF G (S.E G e) hi hl hsw
     ·exact jX
    ·exact jX
   | Attribute o f pa=>exact bZ5 S G (cA3 S G) (by cases e<;>rfl)
   | _=>exact one _ _ _
  ·cases tg<;>exact jX
 | _=>exact jX
end
def aN4 {v:Evs} (S:Snd v):Snd (aV9 v):=⟨fun G=>bN7 S G,fun G=>bN8 S G,fun G=>kE S G,fun G=>bN9 S G,fun G=>bO0 S G⟩
def bO1:Snd Evs.no:=⟨fun _ _=>bY,fun _ _ _ _ _ _ _ _ _ _ _ e=>(by cases e),fun _ _=>fO,fun _ _=>aC7,fun _ _=>jX⟩
theorem yW:∀ n,Snd (evs n)
 | 0=>bO1
 | n+1=>aN4 (yW n)
end DL

namespace DL
open PySem PySem.Spec PyProof.Rows L2 CI
def zip_fst {α β:Type} {a:α} {b:β} {l:List α} {r:List β} (h:(a,b)∈l.zip r):a∈l:=(List.of_mem_zip h).1
section
variable {kd:Str->Option NameKind} {x:Str} {v:Value}
theorem jC:∀ {bs:List (Str×Value)} {m:Str->Option Value},(∀ v,(x,v)∉bs)->bindL kd bs m x=m x/\bindC kd bs m x=m x
 | [],_,_=>⟨rfl,rfl⟩
 | (n,v)::r,m,h=>by
  unfold bindL bindC;have ne:x≠n:=by rintro rfl;exact h v List.mem_cons_self
  rw [(jC fun w hw=>h w (List.mem_cons_of_mem _ hw)).1,(jC fun w hw=>h w (List.mem_cons_of_mem _ hw)).2];constructor<;>split<;>simp [ne]
theorem nF:∀ {P:List Str} {vs:List Value} {i:Nat} {m:Str->Option Value},P.Nodup->P[i]?=some x->vs[i]?=some v->(kd x=some .local->bindL kd (P.zip vs) m x=some v)/\(kd x≠some .local->bindC kd (P.zip vs) m x=some v)
 | [],_,_,_,_,h,_=>by simp at h
 | _::_,[],_,_,_,_,h=>by simp at h
 | p::P,w::vs,0,m,nd,h1,h2=>by
  simp at h1 h2;subst h1;subst h2;have no:∀ v,(p,v)∉P.zip vs:=fun v hv=>(List.nodup_cons.mp nd).1 (zip_fst hv);refine ⟨fun hk=>?_,fun hk=>?_⟩
  ·show bindL kd ((p,w)::P.zip vs) m p=_;unfold bindL;rw [(jC no).1,if_pos hk];simp
  ·show bindC kd ((p,w)::P.zip vs) m p=_;unfold bindC;rw [(jC no).2,if_neg hk];simp
 | p::P,w::vs,i+1,m,nd,h1,h2=>by
  have ih:=fun m=>nF (i:=i) (m:=m) (List.nodup_cons.mp nd).2 (by simpa using h1) (by simpa using h2);refine ⟨fun hk=>?_,fun hk=>?_⟩
  ·show bindL kd ((p,w)::P.zip vs) m x=_;unfold bindL;exact (ih _).1 hk
  ·show bindC kd ((p,w)::P.zip vs) m x=_;unfold bindC;exact (ih _).2 hk
end
def aC8 {N:List Str} {ws:List W} {i:Nat} {w:W} (h:(dZ N ws)[i]?=some (some w)):ws[i]?=some w:=by
 unfold dZ at h
 by_cases hi:i < ws.length
 ·rw [List.getElem?_append_left (by simpa using hi),List.getElem?_map] at h;cases e:ws[i]? with
  | none=>rw [e] at h;cases h
  | some a=>rw [e] at h;cases h;rfl
 ·rw [List.getElem?_append_right (by simpa using hi),List.getElem?_replicate] at h;split at h<;>cases h
structure FnSc (t:Stmt):Prop where
 kind:(defScope t).kind=.function
 co:(defScope t).isCoroutine=false
 gen:(defScope t).isGenerator=false
 nd:(cB t).Nodup
 par:∀ x∈parsOf t,Loc (defScope t) x
 nofree:∀ y∈(defScope t).names,y.2≠.free
def cC0 {t:Stmt} (h:fnB t=true):FnSc t:=by
 unfold fnB at h;simp only [Bool.and_eq_true,decide_eq_true_eq,List.all_eq_true,Bool.not_eq_true'] at h;obtain ⟨h1,h2,h3,h4,h5,h6⟩:=h;refine ⟨h1,h2,h3,h4,fun x hx=>?_,fun y hy e=>?_⟩
 ·have:=h5 x hx;unfold rD at this;split at this
  ·rename_i q;exact .inl q
  ·rename_i q;exact .inr q
  ·cases this
 ·have:=h6 y hy;rw [e] at this;cases this
def aY9 {t:Stmt} {i:Nat} {y:Str} (e:(cB t)[i]?=some y) (hi:i < (parsOf t).length):(parsOf t)[i]?=some y:=by
 unfold cB at e
 rwa [List.getElem?_append_left hi] at e
abbrev cxF (S:Sx) (t:Stmt) (q:Str) (L f:Addr) (cd:Value) (A:Around):Cx:=⟨S,A.deeper (envOfC q (defScope t) L f cd),cB t,envOfC q (defScope t) L f cd,true⟩
section
variable {S:Sx} {κ:Kp} {M:Mp} {h h':aA} {s s1:Shared} {A:Around} {t:Stmt} {q:Str} {f:Addr} {cd:Value} {us:List Value} {ws:List W}
def aC9 (FS:FnSc t) (md:Mod S) (hz:S.base.objs.size<=s.heap.objs.size) (hl:ws.length=(parsOf t).length) (R:Mem S κ M h s) (r:RepWs S M ws us)
  (x:InCallC s s.heap.objs.size (bindL (envOfC q (defScope t) s.heap.objs.size f cd).kindOf ((parsOf t).zip us) fun _=>none) (cellsFrom (s.heap.objs.size+1) (defScope t).names []) (bindC (envOfC q (defScope t) s.heap.objs.size f cd).kindOf ((parsOf t).zip us) fun _=>none) s1) :
  ∃ κ1,Mem S κ1 M h s1/\Fra (cxF S t q s.heap.objs.size f cd A) κ1 M (dZ (cB t) ws)/\∀ κ2,Own (cxF S t q s.heap.objs.size f cd A) κ1 κ2->∀ a y,κ a=some y->κ2 a=some y:=by
 obtain ⟨h1,tk,rfl,hk⟩:=x.done;have R1:Mem S κ M h { s with heap:=h1,toks:=tk }:=R.kept hk
 let fp:=(cellsFrom (s.heap.objs.size+1) (defScope t).names []).map (·.2)
 have up:∀ b∈fp,s.heap.objs.size < b:=fun b hb=>by
  obtain ⟨⟨n,c⟩,hm,rfl⟩:=List.mem_map.mp hb;exact x.above n c hm
 have fr:∀ b∈fp,bK κ M b:=fun b hb=>R.new (Heap.get?_none_of_le (Nat.le_of_lt (up b hb)));have R2:=R1.pin fr;obtain ⟨o,es,ep,ho,hd,hs,hf⟩:=x.toInCall.ns;have f0:=R.size;have R3:=R2.more (b:=false) ⟨f0.1,f0.2.2⟩ ho;have mem:∀ y c,(cellsFrom (s.heap.objs.size+1) (defScope t).names []).lookup y=some c->c∈fp:=fun y c e=>List.mem_map.mpr ⟨_,PySem.mem_of_lookup e,rfl⟩;have kc:∀ y c,(cellsFrom (s.heap.objs.size+1) (defScope t).names []).lookup y=some c->∃ oc,((fG κ fp h1).up s.heap.objs.size (false,o)) c=some (true,oc)/\oc.data=.cell (bindC (envOfC q (defScope t) s.heap.objs.size f cd).kindOf ((parsOf t).zip us) (fun _=>none) y):=fun y c e=>by
  obtain ⟨oc,h2,h3⟩:=x.cell y c e;have h2:h1.get? c=some oc:=h2;refine ⟨oc,?_,h3⟩;rw [bL (Nat.ne_of_gt (up c (mem y c e)))];unfold fG;rw [if_pos (mem y c e),h2];rfl
 have has:∀ {y:Str},(defScope t).names.lookup y=some .cell->∃ c,(cellsFrom (s.heap.objs.size+1) (defScope t).names []).lookup y=some c:=fun hy=>Option.isSome_iff_exists.mp (PySem.W.cellsFrom_some _ _ _ (.inl hy));have ndP:(parsOf t).Nodup:=(List.sublist_append_left _ _).nodup FS.nd;refine ⟨_,R3,⟨⟨md,FS.kind,rfl,rfl,fun y z c a b=>name_of_addr x.apart (PySem.mem_of_lookup a) (PySem.mem_of_lookup b),fun y hy=>?_,hz,FS.nd⟩,?_,⟨o,_,dJ,⟨es,ep,hd,hs,hf⟩,fun i y w e1 e2 e3=>?_⟩,fun y c e=>?_⟩,fun κ2 own a y ea=>?_⟩
 ·have hy:(defScope t).names.lookup y=some .cell\/(defScope t).names.lookup y=some .free:=hy;rcases hy with hy | hy
  ·exact has hy
  ·exact absurd rfl (FS.nofree _ (PySem.mem_of_lookup hy))
 ·show (dZ (cB t) ws).length=(cB t).length;unfold dZ;rw [List.length_append,List.length_map,List.length_replicate,hl];have:(parsOf t).length<=(cB t).length:=by unfold cB;rw [List.length_append];omega
  omega
 ·have ew:=aC8 e2;obtain ⟨u,eu,ru⟩:=hU r ew;have hi:i < (parsOf t).length:=by rw [<- hl];exact (List.getElem?_eq_some_iff.mp ew).1
  have ep:=aY9 e1 hi;refine ⟨u,ru,?_⟩;rcases FS.par y (List.mem_of_getElem? ep) with k | k
  ·exact .inl ⟨k,(nF ndP ep eu).1 k⟩
  ·obtain ⟨c,e⟩:=has k;obtain ⟨oc,h2,h3⟩:=kc y c e;rw [(nF ndP ep eu).2 (by show (defScope t).names.lookup y≠_;rw [k];decide)] at h3;exact .inr ⟨.inl k,c,oc,e,h2,h3⟩
 ·obtain ⟨oc,h2,h3⟩:=kc y c e;exact ⟨oc,_,h2,h3⟩
 ·have nL:a≠s.heap.objs.size:=fun z=>by rw [z,f0.2.1] at ea;cases ea
  have nf:a∉fp:=fun z=>by rw [(fr a z).2.1] at ea;cases ea
  have e1:((fG κ fp h1).up s.heap.objs.size (false,o)) a=κ a:=by
   rw [bL nL];unfold fG;rw [if_neg nf]
  by_cases e2:κ2 a=((fG κ fp h1).up s.heap.objs.size (false,o)) a
  ·rw [e2,e1,ea]
  ·rcases own a e2 with z | ⟨_,y',z⟩
   ·exact (nL z).elim
   ·exact (nf (mem y' a z)).elim
end
end DL

namespace DL
open PySem PySem.Spec PyProof.Rows L2 CI
section
variable {S:Sx} {κ κ2:Kp} {M M2:Mp} {h h1:aA} {s s':Shared} {n:Nat}
noncomputable def Low (n:Nat):Cell->Prop
 | .r is=>∀ j∈is,j < n
 | .o _ fs=>∀ f j,fs.lookup f=some (.c j)->j < n
 | _=>True
def aN5 {c:Cell} (hc:∀ j∈cRefs c,j < n):Low n c:=by
 cases c with
 | r is=>exact hc
 | o C fs =>
  intro f j e;refine hc j ?_;unfold cRefs;exact List.mem_flatten.mpr ⟨[j],List.mem_map.mpr ⟨_,PySem.mem_of_lookup e,rfl⟩,List.mem_singleton.mpr rfl⟩
 | _=>exact True.intro
def bO2 {H:Heap} {p:Addr×Addr} {c:Cell} (x:CellOk S M H p c):Low M.m.length c:=by
 cases c with
 | r is =>
  obtain ⟨us,k,_,_,r⟩:=x;intro j hj;obtain ⟨i,hi⟩:=List.getElem?_of_mem hj;obtain ⟨u,_,p,ep,_⟩:=hU (tB r) hi;exact (List.getElem?_eq_some_iff.mp ep).1
 | o C fs =>
  obtain ⟨_,_,_,mA,_,r,_⟩:=x;intro f j e;obtain ⟨u,_,p,ep,_⟩:=RelO.some_of (by rw [<- e];exact r f);exact (List.getElem?_eq_some_iff.mp ep).1
 | _=>exact True.intro
def tV {w:W} {u:Value} (r:RepW S M w u) (hl:∀ j,w=.c j->j < n):RepW S ⟨M.Z,M.m.take n⟩ w u:=by
 cases w with
 | d x=>exact r
 | c j =>
  obtain ⟨p,ep,e⟩:=r;exact ⟨p,by show (M.m.take n)[j]?=_;rw [List.getElem?_take_of_lt (hl j rfl)];exact ep,e⟩
theorem qG:∀ {is:List Nat} {us:List Value},RepWs S M (is.map .c) us->(∀ j∈is,j < n)->RepWs S ⟨M.Z,M.m.take n⟩ (is.map .c) us
 | [],_,r,_=>by cases r;exact .nil
 | i::is,_,r,l=>by
  cases r with
  | cons a b=>exact .cons (tV a fun j ej=>by cases ej;exact l i List.mem_cons_self) (qG b fun j hj=>l j (List.mem_cons_of_mem _ hj))
def aN6 {H:Heap} {p:Addr×Addr} {c:Cell} (x:CellOk S M H p c) (l:Low n c):CellOk S ⟨M.Z,M.m.take n⟩ H p c:=by
 cases c with
 | r is =>
  obtain ⟨us,k,e,z,r⟩:=x;exact ⟨us,k,e,z,qG r l⟩
 | o C fs =>
  obtain ⟨a,b,c,mA,d,r,e⟩:=x;refine ⟨a,b,c,mA,d,fun f=>?_,e⟩;have rf:=r f;cases q:fs.lookup f with
  | none=>rw [q] at rf;cases q2:mA f with
   | none=>exact True.intro
   | some u=>rw [q2] at rf;exact rf.elim
  | some w =>
   rw [q] at rf;obtain ⟨u,eu,ru⟩:=RelO.some_of rf;rw [eu];exact tV ru fun j ej=>l f j (by rw [q,ej])
 | l xs=>exact x
 | k xs=>exact x
 | n xs=>exact x
 | t xs=>exact x
def Mem.cut (R0:Mem S κ M h s) (l:Le M M2) (R:Mem S κ M2 h1 s') (ok:okP h h1):Mem S κ ⟨M2.Z,M.m⟩ (h1.take h.length) s':=by
 obtain ⟨k,ek⟩:=l.m;have em:M.m=M2.m.take h.length:=by rw [ek,<- R0.len];simp
 have lt:h.length<=h1.length:=by rw [<- R.len,ek,<- R0.len];simp
 have at_:∀ {i:Nat} {p:Addr×Addr},M.m[i]?=some p->M2.m[i]?=some p:=fun e=>l.at e;have sub:∀ p∈M.m,p∈M2.m:=fun p hp=>by rw [ek];exact List.mem_append_left _ hp
 refine ⟨R.z,R.k,by rw [List.length_take];show M.m.length=_;rw [R0.len];omega,fun i j p q a b=>R.ap i j p q (at_ a) (at_ b),fun p hp=>R.off p (sub p hp),fun i p c a b=>?_,R.base,R.bare,R.os⟩;have a:M.m[i]?=some p:=a;have hi:i < h.length:=by rw [<- R0.len];exact (List.getElem?_eq_some_iff.mp a).1
 rw [List.getElem?_take_of_lt hi] at b;have lo:Low h.length c:=by
  rcases ok i c hi b with z | z
  ·exact aN5 z
  ·have:=bO2 (R0.cel i p c a z)
   rwa [R0.len] at this
 have:=aN6 (R.cel i p c (at_ a) b) lo
 rwa [<- em] at this
def aZ0 {p:Fl×aA} {z:PyData} {h2:aA} {u:Value} (R0:Mem S κ M h s) (l:Le M M2) (R:Mem S κ M2 p.2 s') (e:aO h p=some (z,h2)) (hr:(∃ δ,p.1=.nx δ/\u=.none)\/∃ w,p.1=.rt w/\RepW S M2 w u):Pw S κ M h2 (.d z) u s':=by
 unfold aO at e
 classical
 obtain ⟨ok,e⟩:=aE e;have R3:=R0.cut l R ok;have l3:Le M ⟨M2.Z,M.m⟩:=⟨l.z,[],by simp⟩;rcases hr with ⟨δ,hp,rfl⟩ | ⟨w,hp,r⟩
 ·rw [hp] at e;cases e;exact R3.pn.go l3
 ·rw [hp] at e;cases w with
  | d y=>cases e;exact ⟨_,l3,R3,r⟩
  | c i =>
   dsimp only at e;obtain ⟨q,eq,rfl⟩:=r;obtain ⟨z1,k1,_⟩:=R.off q (List.mem_of_getElem? eq) q.1 (.inl rfl);have fr:h.length<=i->bK κ ⟨M2.Z,M.m⟩ q.1:=fun hi=>⟨z1,k1,fun r hr=>by
    obtain ⟨j,hj⟩:=List.getElem?_of_mem hr;have hj:M.m[j]?=some r:=hj;have hlt:j < h.length:=by rw [<- R0.len];exact (List.getElem?_eq_some_iff.mp hj).1
    obtain ⟨a,_,b,_⟩:=R.ap j i r q (l.at hj) eq (by omega);exact ⟨a,b⟩⟩
   split at e
   ·rename_i xs ei;obtain ⟨hi,e⟩:=aE e;cases e;obtain ⟨us,n,ho,hz,rr⟩:=R.cel i q _ eq ei;exact ⟨_,l3.trans (Le.add (fr hi).1),R3.frz (fr hi) ho,rep_l.mpr ⟨_,_,us,rfl,iO,⟨⟨n,rfl⟩,hz⟩,Reps'.go (Le.add (fr hi).1) rr⟩⟩
   ·rename_i xs ei;obtain ⟨hi,e⟩:=aE e;cases e;obtain ⟨vs,hd,rr,hs,hz⟩:=R.cel i q _ eq ei;obtain ⟨o,es,ep,ho,hr⟩:=hd;exact ⟨_,l3.trans (Le.add (fr hi).1),R3.frz (fr hi) ho,rep_d.mpr ⟨_,o,vs,rfl,iO,⟨hs,hz,fun h2 e2=>⟨o,es,ep,e2,hr⟩⟩,RepK.go (M:=⟨M2.Z,M.m⟩) (Le.add (fr hi).1) rr⟩⟩
   ·cases e
end
structure Fun (K:PySem.W.Frag) (x qual:Str) (st:Stmt) (f:Addr) (fd:FuncData):Prop where
 ex:∃ (oc:Value) (od:Option Addr) (kV doc pm:Value) (an:Option Addr) (cdv ct:Value) (osl:Array (Option Value)),
  fd=PySem.W.fnOf x qual (bM st) (bA st) (defScope st) .none kV doc pm an cdv ct/\K.lookup f=some ⟨oc,od,.func fd,osl⟩/\PySem.W.codeIn K cdv qual=true
 kp:PySem.W.keepIn K (.ref f)=true
structure TopOk (t:Top) (S:Sx):Prop where
 bl:∀ x,t.bl.contains x=true->S.mg x=none
 gc:∀ x z,t.gc x=some z->∃ u,S.mg x=some u/\Rep S S.base.get? z u
 tk:∀ x f,t.tk x=some f->∃ p,S.mg x=some (.ref p)/\TabK S.w S.K p f
 defs:∀ x s,t.defs x=some s->∃ f fd,Fun S.K x x s f fd/\S.mg x=some (.ref f)/\dP S.K fd (parsOf s)
 ini:∀ x C s,t.ini x=some (C,s)->∃ n q f fd,Fun S.K n q s f fd/\Mk S.K C f/\S.mg x=some (.ref C)/\dP S.K fd (parsOf s)
 mt:∀ x C s,t.mt x=some (C,s)->Cls S.K C/\∃ n q f fd,Fun S.K n q s f fd/\Meth S.K C x f/\dP S.K fd (parsOf s)
 fo:∀ C f,t.fo C f=true->Cls S.K C/\NoAttr S.K C f
 qn:∀ x q,t.qn x=some q->t.mt x=none/\t.ini x=none/\∀ s f fd,Fun S.K x x s f fd->S.mg x=some (.ref f)->x++".<locals>."=q.1/\∃ c0,fd.code=.ref c0/\TbS S c0 q.2
structure TabOk (S:Sx) (d:Nat) (fn:Str->Option XF) (ob:ObS):Prop where
 fn:∀ x m,fn x=some m->FnG S d x (toW m)
 fnW:∀ x m,ob.fnW x=some m->FnG S d x m
 cls:∀ x C m,ob.cls x=some (C,m)->(∀ ws h,m ws h=none)\/∃ k f fd ps,k+1<=d/\Mk S.K C f/\FnS S k f fd ps m/\S.mg x=some (.ref C)/\dP S.K fd ps
 om:∀ x C m,ob.om x=some (C,m)->(∀ ws h,m ws h=none)\/(Cls S.K C/\∃ f fd ps,Meth S.K C x f/\FnS S d f fd ps m/\dP S.K fd ps)
 fo:∀ C f,ob.fo C f=true->Cls S.K C/\NoAttr S.K C f
section
variable {S:Sx} {t:Top} {fn:Str->Option XF} {ob:ObS} {x n q:Str} {st:Stmt} {f:Addr} {fd:FuncData} {k:Nat}
def aZ1 {A:Around} {L:Addr} {cd:Value} (T:TopOk t S) (B:TabOk S k fn ob) (hr:Room (k+1) A) (hq:∀ q',t.qn x=some q'->q++".<locals>."=q'.1/\∃ c0,cd=.ref c0/\TbS S c0 q'.2):Good (cxF S st q L f cd A) (t.sta fn ob x st) k :=
 ⟨T.bl,T.gc,T.tk,B.fn,B.fnW,B.cls,B.om,B.fo,rfl,rfl,fun _=>rfl,hr.deeper _,fun q' e=>⟨(hq q' e).1,(hq q' e).2,by have:=hr.dp;show A.depth+1+3*k+7 < _;omega,by have:=hr.un;show A.units+3+16*k+212 < _;omega⟩⟩
def aN7 {m:XFW} (hq:∀ q',t.qn x=some q'->q++".<locals>."=q'.1/\∃ c0,fd.code=.ref c0/\TbS S c0 q'.2) (T:TopOk t S) (F:Fun S.K n q st f fd) (B:TabOk S k fn ob) (hb:fnB st=true) (len:∀ ws h r,m ws h=some r->ws.length=(parsOf st).length)
  (he:∀ ws h r,m ws h=some r->∃ p,xSs (evs t.deep) (t.sta fn ob x st) (bA st) (dZ (cB st) ws) h=some p/\∀ {κ M M2 s s' u},Mem S κ M h s->Le M M2->Mem S κ M2 p.2 s'->((∃ δ,p.1=.nx δ/\u=.none)\/∃ w,p.1=.rt w/\RepW S M2 w u)->Pw S κ M r.2 r.1 u s') (hnb:∀ ws h r p,m ws h=some r->xSs (evs t.deep) (t.sta fn ob x st) (bA st) (dZ (cB st) ws) h=some p->(∃ δ,p.1=.nx δ)\/∃ w,p.1=.rt w) :
  FnS S (k+1) f fd (parsOf st) m:=by
 refine ⟨len,fun {A κ M h h' s args us ws w} hr md hz R hbd r e=>?_⟩;obtain ⟨oc,od,kV,doc,pm,an,cdv,ct,osl,rfl,lk,hcd⟩:=F.ex;have FS:=cC0 hb;have KX:S.K.In s.heap:=md.kin.keeps R.bk;have lim:s.heap.NoLimit:=md.nolimit.keeps R.bk;have hkind:∀ y∈(parsOf st).zip us,(defScope st).names.lookup y.1=some .local\/((defScope st).names.lookup y.1=some .cell/\((cellsFrom (s.heap.objs.size+1) (defScope st).names []).lookup y.1).isSome=true):=fun ⟨n,v⟩ hy=>by
  rcases FS.par n (zip_fst hy) with q | q
  ·exact .inl q
  ·exact .inr ⟨q,PySem.W.cellsFrom_some _ _ _ (.inl q)⟩
 have hdep:A.depth < recursionLimit:=by have:=hr.dp;omega
 refine codeAny_call_function hdep (KX _ _ lk) rfl FS.co FS.gen rfl (PySem.W.codeRec_of KX hcd) (hbd _ _ _ _ ?_);refine wpAny_newFunctionEnv_cells FS.kind hkind fun env he' s1 ic=>?_;subst he';refine ⟨lim.keeps ic.toInCall.keep,codeAny_func ?_⟩;obtain ⟨⟨fl,h1⟩,ep,fin⟩:=he ws h _ e;obtain ⟨κ1,R1,F1,back⟩:=aC9 (A:=A) FS md hz (len _ _ _ e) R r ic;refine wpAny_mono (pK (yW t.deep) (aZ1 (x:=x) T B hr hq) _ R1 F1 ep) (fun fl2 s2 ⟨κ2,M2,o2,l2,R2,fw⟩=>?_) fun _ _ z=>z.elim;have R3:Mem S κ M2 h1 s2:=R2.less (back κ2 o2);rcases hnb ws h _ _ e ep with ⟨δ,hp⟩ | ⟨w',hp⟩
 ·cases hp;cases fl2 with
  | next=>exact ⟨.none,rfl,fin R l2 R3 (.inl ⟨δ,rfl,rfl⟩)⟩
  | _=>exact fw.elim
 ·cases hp;cases fl2 with
  | ret u=>exact ⟨u,rfl,fin R l2 R3 (.inr ⟨w',rfl,fw⟩)⟩
  | _=>exact fw.elim
def yX {d:Nat} {ps:List Str} {m:XFW} (hm:∀ ws h,m ws h=none):FnS S d f fd ps m:=⟨fun ws h r e=>(by rw [hm] at e;cases e),fun _ _ _ _ _ _ e=>(by rw [hm] at e;cases e)⟩
def aN8 (hq:∀ q',t.qn x=some q'->q++".<locals>."=q'.1/\∃ c0,fd.code=.ref c0/\TbS S c0 q'.2) (T:TopOk t S) (F:Fun S.K n q st f fd) (B:TabOk S k fn ob):FnS S (k+1) f fd (parsOf st) (hJ t fn ob x st):=by
 by_cases hb:fnB st=true
 ·have op:∀ {ws h r},hJ t fn ob x st ws h=some r->ws.length=(parsOf st).length/\∃ p,xSs (evs t.deep) (t.sta fn ob x st) (bA st) (dZ (cB st) ws) h=some p/\dG p=some r:=fun {ws h r} e=>by
   unfold hJ at e;obtain ⟨hc,e⟩:=aE e;obtain ⟨p,e1,e2⟩:=bind_some e;exact ⟨hc.2,p,e1,e2⟩
  refine aN7 (x:=x) hq T F B hb (fun ws h r e=>(op e).1) (fun ws h r e=>?_) fun ws h r p e e1=>?_
  ·obtain ⟨_,⟨fl,h1⟩,e1,e2⟩:=op e;refine ⟨_,e1,fun {κ M M2 s s' u} R0 l R hr=>?_⟩;rcases hr with ⟨δ,hp,rfl⟩ | ⟨w,hp,r⟩
   ·cases hp;cases e2;exact (R.pn.go l)
   ·cases hp;cases e2;exact ⟨M2,l,R,r⟩
  ·obtain ⟨_,p',e1',e2⟩:=op e;rw [e1] at e1';cases e1';obtain ⟨fl,h1⟩:=p;cases fl with
   | nx δ=>exact .inl ⟨δ,rfl⟩
   | rt w=>exact .inr ⟨w,rfl⟩
   | _=>cases e2
 ·exact yX fun ws h=>by unfold hJ;rw [if_neg fun z=>hb z.1]
def bG0 (hq:∀ q',t.qn x=some q'->q++".<locals>."=q'.1/\∃ c0,fd.code=.ref c0/\TbS S c0 q'.2) (T:TopOk t S) (F:Fun S.K n q st f fd) (B:TabOk S k fn ob):FnS S (k+1) f fd (parsOf st) (toW (mR t fn ob x st)):=by
 by_cases hb:fnB st=true
 ·have op:∀ {ws h r},toW (mR t fn ob x st) ws h=some r->ws.length=(parsOf st).length/\∃ p z,xSs (evs t.deep) (t.sta fn ob x st) (bA st) (dZ (cB st) ws) h=some p/\aO h p=some (z,r.2)/\r.1=.d z:=fun {ws h r} e=>by
   obtain ⟨⟨z,h2⟩,e0,e⟩:=bind_some e;cases e;unfold mR at e0;obtain ⟨hc,e0⟩:=aE e0;obtain ⟨p,e1,e2⟩:=bind_some e0;exact ⟨hc.2,p,z,e1,e2,rfl⟩
  refine aN7 (x:=x) hq T F B hb (fun ws h r e=>(op e).1) (fun ws h r e=>?_) fun ws h r p e e1=>?_
  ·obtain ⟨_,p,z,e1,e2,ez⟩:=op e;refine ⟨_,e1,fun {κ M M2 s s' u} R0 l R hr=>?_⟩;rw [ez];exact aZ0 R0 l R e2 hr
  ·obtain ⟨_,p',z,e1',e2,_⟩:=op e;rw [e1] at e1';cases e1';unfold aO at e2
   classical
   obtain ⟨_,e2⟩:=aE e2;obtain ⟨fl,h1⟩:=p;cases fl with
   | nx δ=>exact .inl ⟨δ,rfl⟩
   | rt w=>exact .inr ⟨w,rfl⟩
   | _=>cases e2
 ·exact yX fun ws h=>by unfold toW mR;rw [if_neg fun z=>hb z.1];rfl
abbrev yY (t:Top) (S:Sx) (d:Nat):Prop:=TabOk S d (fnT t fun y=>aD t d y) (obT t (fun y=>callW t d y) (fun y=>callI t d y) fun y=>callM t d y)
def tW (T:TopOk t S):yY t S 0:=by
 refine ⟨fun x m e=>?_,fun x m e=>?_,fun x C m e=>?_,fun x C m e=>?_,T.fo⟩
 ·obtain ⟨s,hs,rfl⟩:=map_some e;exact .inl fun _ _=>rfl
 ·dsimp only at e;split at e
  ·obtain ⟨s,hs,rfl⟩:=map_some e;exact .inl fun _ _=>rfl
  ·cases e
 ·obtain ⟨p,hs,e2⟩:=map_some e;cases e2;exact .inl fun _ _=>rfl
 ·obtain ⟨p,hs,e2⟩:=map_some e;cases e2;exact .inl fun _ _=>rfl
def tX (T:TopOk t S) {d:Nat} (B:yY t S d) (hI:∀ x C s,t.ini x=some (C,s)->(∀ ws h,callI t (d+1) x ws h=none)\/∃ k f fd ps,k+1<=d+1/\Mk S.K C f/\FnS S k f fd ps (callI t (d+1) x)/\S.mg x=some (.ref C)/\dP S.K fd ps):yY t S (d+1):=by
 refine ⟨fun x m e=>?_,fun x m e=>?_,fun x C m e=>?_,fun x C m e=>?_,T.fo⟩
 ·obtain ⟨s,hs,rfl⟩:=map_some e;obtain ⟨f,fd,F,hm,hb⟩:=T.defs x s hs;have e:aD t (d+1) x=mR t (fnT t fun y=>aD t d y) (obT t (fun y=>callW t d y) (fun y=>callI t d y) fun y=>callM t d y) x s:=by
   rw [aD,hs]
  dsimp only;rw [e];exact .inr ⟨f,fd,parsOf s,hm,F.kp,hb,bG0 (fun q' e=>(T.qn x q' e).2.2 _ _ _ F hm) T F B⟩
 ·dsimp only at e;split at e
  ·obtain ⟨s,hs,rfl⟩:=map_some e;obtain ⟨f,fd,F,hm,hb⟩:=T.defs x s hs;have e:callW t (d+1) x=hJ t (fnT t fun y=>aD t d y) (obT t (fun y=>callW t d y) (fun y=>callI t d y) fun y=>callM t d y) x s:=by
    rw [callW,hs]
   try dsimp only
   rw [e];exact .inr ⟨f,fd,parsOf s,hm,F.kp,hb,aN8 (fun q' e=>(T.qn x q' e).2.2 _ _ _ F hm) T F B⟩
  ·cases e
 ·obtain ⟨⟨C',s⟩,hs,e2⟩:=map_some e;cases e2;exact hI x _ s hs
 ·obtain ⟨⟨C',s⟩,hs,e2⟩:=map_some e;cases e2;obtain ⟨hc,n,q,f,fd,F,hM,hb⟩:=T.mt x _ s hs;have e:callM t (d+1) x=hJ t (fnT t fun y=>aD t d y) (obT t (fun y=>callW t d y) (fun y=>callI t d y) fun y=>callM t d y) x s:=by
   rw [callM,hs]
  dsimp only;rw [e];exact .inr ⟨hc,f,fd,parsOf s,hM,aN8 (fun q' e=>by rw [(T.qn x q' e).1] at hs;cases hs) T F B,hb⟩
theorem wQ (T:TopOk t S):∀ d,yY t S d
 | 0=>tW T
 | 1=>tX T (tW T) fun x C s _=>.inl fun _ _=>rfl
 | d+2=>tX T (wQ T (d+1)) fun x C s hs=>by
  obtain ⟨n,q,f,fd,F,hM,hm,hb⟩:=T.ini x C s hs;have e:callI t (d+2) x=hJ t (fnT t fun y=>aD t d y) (obT t (fun y=>callW t d y) (fun y=>callI t d y) fun y=>callM t d y) x s:=by
   rw [callI,hs]
  refine .inr ⟨d+1,f,fd,parsOf s,Nat.le_refl _,hM,?_,hm,hb⟩;show FnS S (d+1) f fd (parsOf s) (callI t (d+2) x);rw [e];exact aN8 (fun q' e=>by rw [(T.qn x q' e).2.1] at hs;cases hs) T F (wQ T d)
end
end DL

namespace Att
open PySem PySem.W PySem.Calls PyProof.Rows

def lJ {P:Params} {h:Heap}:∀ (ns:List Int) (vs:List Value),WellAll P h vs (ns.map WData.int)->IntsAre vs ns:=by
 intro ns;induction ns with
 | nil =>
  intro vs w;rw [List.map_nil] at w;cases w;exact .nil
 | cons n ns ih =>
  intro vs w;rw [List.map_cons] at w;cases w with
  | cons a b =>
   cases a;exact .cons _ _ (ih _ b)

def aD0 {l:OpenLaw} {n:Nat} (hn:l.most=some n) {P:Params} {h:Heap} {args:List WData} {vals:List Value}
  (hpre:l.row.toRowW.claim.pre args=true) (hwl:WellAll P h vals args) :
  ∃ a vs ns,vals=[Value.ref a]/\args=[WData.list (ns.map WData.int)]/\h.get? a=some { cls:=.type "list",data:=.seq vs.toArray }/\IntsAre vs ns/\ns.length<=n:=by
 have hsh:WShape.hasAll [] args [.list .int]=true:=(pre_splitW hpre).1;have hc:l.pre.holds [] { args:=args }=true:=(pre_splitW hpre).2;obtain ⟨d,r,rfl,h1,h2⟩:=hasAllW_cons hsh;obtain rfl:=hasAllW_nil h2;obtain ⟨xs,rfl,h3⟩:=hasW_list h1;obtain ⟨ns,rfl⟩:=items_int h3;have hlen:ns.length<=n:=by
  unfold OpenLaw.pre at hc;have h4:(WTm.not (.lt (.lit (.int (n:Int))) (.len (.arg 0)))).holds [] { args:=[.list (ns.map .int)] }=true:=by
   have h4:=(holds_andW hc).1;rw [hn] at h4;exact h4
  have h5:=condW_of h4 (w_not (w_lt w_lit (w_len_list (w_arg rfl))));rw [List.length_map] at h5;refine Nat.le_of_not_lt fun q=>?_;have q':(n:Int) < ((ns.length:Nat):Int):=by omega
  first
   | (rw [decide_eq_true q'] at h5;exact absurd h5 (by decide))
   | (simp at h5;omega)
 cases hwl with
 | cons w1 w2 =>
  cases w2;cases w1 with
  | list ho hall=>exact ⟨_,_,ns,rfl,rfl,ho,lJ ns _ hall,hlen⟩

def aD1 (l:OpenLaw) (args:List WData):l.row.toRowW.claim.post args (.bool true) args=true :=
 postW_of (r:=l.row.toRowW) (X:=(true==true))
  (show WShape.has [] (.bool true) .bool=true by first | rfl | decide | simp [WShape.has,WShape.arms,WShape.armsAll])
  (show (WTm.eq .res (.lit (.bool true))).value [] { args:=args,res:=some (.bool true),after:=args }=some (.bool (true==true)) from w_eq_bool (w_res rfl) w_lit) rfl

def attach_call {l:OpenLaw} {n:Nat} {q:Program} {loose:List Str} {XP:(Str->Option Value)->Heap->Prop} {YP:World->Heap->Prop} {d:DefRec}
  (hn:l.most=some n) (hdf:d.params.defaults=[])
  (call:∀ (w:World) (s₀ s₁:Shared) (mg mb:Str->Option Value) (fa:Addr) (o:Obj) (pm cd doc:Value) (a:Addr) (vs:List Value) (ns:List Int),
   Ground q loose [] XP w s₀ mg mb s₁.heap->YP w s₁.heap ->
   s₁.heap.get? fa=some o->o.data=.func (docDef d.name d.params d.body d.scope pm cd doc)->s₁.heap.CodeRec cd d.name->mg d.name=some (.ref fa) ->
   s₁.heap.get? a=some { cls:=.type "list",data:=.seq vs.toArray }->IntsAre vs ns->ns.length<=n->s₁.gens=#[] ->
   codeAny (model l.prog w) callerA (.call (.ref fa) ⟨[.ref a],[]⟩) (fun r s'=>r=.ok (.ret (.bool true))/\OldK s₁.heap s'.heap/\s'.os=s₁.os/\AllBare s'.gens) s₁) :
  WalkO q loose XP YP l.row.toRowW d [] (fun f vs=>PySem.call f vs):=by
 intro w s₀ s₁ mg mb G Y fa o pm cd doc dV kV ho hd hcd hD hmg hg args vals as hpre hlay hrd hwl hlo;obtain rfl:dV=.none:=Dflts.none hD hdf;obtain rfl:kV=.none:=Dflts.noKw hD;obtain ⟨a,vs,ns,rfl,rfl,hobj,hints,hlen⟩:=aD0 hn hpre hwl;refine enter_call (codeAny_mono (call w s₀ s₁ mg mb fa o pm cd doc a vs ns G Y ho (fd_plain hd) hcd hmg hobj hints hlen hg) fun r s' hq=>?_);obtain ⟨rfl,h2,h3,h4⟩:=hq;exact ⟨.inl ⟨.bool true,.bool true,[],rfl,fun _=>rfl,.bool true,aD1 l _,fun _=>⟨List.Pairwise.nil,fun _ hm=>(nomatch hm)⟩⟩,h2,h3,h4⟩

end Att

namespace CI
open PySem PySem.Spec PyProof.Rows L2 DL
noncomputable def aN9 (x:Str):Stmt->Bool
 | .FunctionDef n _ _ _ _ _ _ _ _ _=>n==x
 | _=>false
def wR (b:List Stmt) (x:Str):Option Stmt:=b.find? (aN9 x)
noncomputable def aO0:Nat->Expr->Option PyData
 | _,.Constant (.int i) _ _=>some (.int i)
 | _,.Constant (.str x) _ _=>some (.str x)
 | _,.Constant (.bool x) _ _=>some (.bool x)
 | _,.Constant .none _ _=>some .none
 | n+1,.Tuple es _ _=>(es.mapM (aO0 n)).map .tuple
 | _,_=>none
def bO3 (b:List Stmt) (x:Str):Option PyData:=b.findSome? fun s=>match s with
 | .Assign [.Name y _] e _=>if y==x&&!(x==("__name__":Str)) then aO0 4 e else none
 | _=>none
noncomputable def bO4:List (Option Expr)->List Expr->Option (List (Str×Int))
 | [],[]=>some []
 | some (.Constant (.str x) _ _)::ks,.Constant (.int i) _ _::vs=>(bO4 ks vs).map ((x,i)::·)
 | _,_=>none
noncomputable def tkS:(s:Stmt)->Option (Str×List (Option Expr)×List Expr)
 | .Assign [.Name y _] (.Dict ks vs _) _=>some (y,ks,vs)
 | _=>none
def bO5 (b:List Stmt) (x:Str):Option (Str->Option Int):=b.findSome? fun s=>(tkS s).bind fun y=>if y.1==x then (bO4 y.2.1 y.2.2).map fun t z=>t.lookup z else none
noncomputable def blAll:List Str:=["len","tuple","all","any","isinstance","int","bool","str","list","range","sorted","set","zip","enumerate","dict","max","min","sum","reversed","abs"]
def cC1 (b:List Stmt) (ac:Str->List Nat) (cv:Str->List Str) (fuel deep:Nat) (wf:Str->Bool:=fun _=>false) (ini mt:Str->Option (Addr×Stmt):=fun _=>none) (fo:Addr->Str->Bool:=fun _ _=>false) (qn:Str->Option (Str×Pos):=fun _=>none):Top:=⟨blAll,bO3 b,bO5 b,wR b,ac,cv,fuel,deep,wf,ini,mt,fo,qn⟩
def gcl (b:List Stmt):List (Str×PyData):=b.filterMap fun s=>match s with
 | .Assign [.Name y _] e _=>if !(y==("__name__":Str)) then (aO0 4 e).map (y,·) else none
 | _=>none
def bO6 {b:List Stmt} {x:Str} {z:PyData} (h:bO3 b x=some z):(x,z)∈gcl b:=by
 obtain ⟨s,hs,e⟩:=List.exists_of_findSome?_eq_some h;refine List.mem_filterMap.mpr ⟨s,hs,?_⟩;split at e
 ·rename_i y p e0 q;split at e
  ·rename_i hc;rw [Bool.and_eq_true] at hc;have:y=x:=eq_of_beq hc.1;subst this;try simp only []
   rw [if_pos hc.2,e];rfl
  ·cases e
 ·cases e
def tkl (b:List Stmt):List (Str×List (Str×Int)):=b.filterMap fun s=>(tkS s).bind fun y=>(bO4 y.2.1 y.2.2).map (y.1,·)
def bO7 {b:List Stmt} {x:Str} {f:Str->Option Int} (h:bO5 b x=some f):∃ t,(x,t)∈tkl b/\f=fun z=>t.lookup z:=by
 obtain ⟨s,hs,e⟩:=List.exists_of_findSome?_eq_some h;obtain ⟨y,ey,e1⟩:=Option.bind_eq_some_iff.mp e;obtain ⟨hc,e2⟩:=aE e1;have:y.1=x:=eq_of_beq hc;subst this;obtain ⟨t,et,rfl⟩:=Option.map_eq_some_iff.mp e2;refine ⟨t,List.mem_filterMap.mpr ⟨_,hs,?_⟩,rfl⟩;rw [ey,Option.bind_some,et];rfl
noncomputable def dfl (b:List Stmt):List (Str×Stmt):=b.filterMap fun s=>match s with
 | .FunctionDef n _ _ _ _ _ _ _ _ _=>some (n,s)
 | _=>none
def bO8 {b:List Stmt} {x:Str} {s:Stmt} (h:wR b x=some s):(x,s)∈dfl b:=by
 have h1:=List.find?_some h;have h2:=List.mem_of_find?_eq_some h;refine List.mem_filterMap.mpr ⟨s,h2,?_⟩;unfold aN9 at h1;split at h1
 ·simp only [eq_of_beq h1]
 ·cases h1
def tY {x k:Str} {hh:Int} {t:Tok} {v:Value} {es:List DictEntry}:findBy Value.isStrOf (⟨hh,.str k t,v⟩::es).toArray x=if k=x then some v else findBy Value.isStrOf es.toArray x:=by
 unfold findBy;simp only [List.find?_toArray,List.find?_cons,Value.isStrOf]
 by_cases e:k=x
 ·simp [e]
 ·have:(k==x)=false:=beq_eq_false_iff_ne.mpr e;simp [e,this]
section
variable {K:PySem.W.Frag} {S:Sx}
def wS {x qual:Str} {st:Stmt} {f:Addr} {oc:Value} {od an:Option Addr} {osl:Array (Option Value)} {kV doc pm cdv ct:Value} (l:K.lookup f=some ⟨oc,od,.func (PySem.W.fnOf x qual (bM st) (bA st) (defScope st) .none kV doc pm an cdv ct),osl⟩)
  (c:PySem.W.codeIn K cdv qual=true) (k:PySem.W.keepIn K (.ref f)=true):Fun K x qual st f (PySem.W.fnOf x qual (bM st) (bA st) (defScope st) .none kV doc pm an cdv ct):=⟨⟨oc,od,kV,doc,pm,an,cdv,ct,osl,rfl,l,c⟩,k⟩
abbrev BA (n q:Str) (s:Stmt) (us:List Value):Prop:=∀ (kV doc pm:Value) (an:Option Addr) (cdv ct:Value),bindArgs (PySem.W.fnOf n q (bM s) (bA s) (defScope s) .none kV doc pm an cdv ct) ⟨us,[]⟩=pure ((parsOf s).zip us)
def _root_.DL.Fun.binds {x q:Str} {st:Stmt} {f:Addr} {fd:FuncData} (F:Fun K x q st f fd) (h:∀ us:List Value,us.length=(parsOf st).length->BA x q st us):dP K fd (parsOf st):=by
 obtain ⟨oc,od,kV,doc,pm,an,cdv,ct,osl,rfl,lk,hcd⟩:=F.ex;exact fun s us _ hl=>.of_eq (h us hl kV doc pm an cdv ct)
def FI (K:PySem.W.Frag) (n:Str) (s:Stmt):Prop:=∃ (f:Addr) (od an:Option Addr) (sl:Array (Option Value)) (oc kV dc pm cd ct:Value),PySem.W.nsIn K mainGlobals n=some (some (.ref f))/\K.lookup f=some ⟨oc,od,.func (PySem.W.fnOf n n (bM s) (bA s) (defScope s) .none kV dc pm an cd ct),sl⟩/\PySem.W.codeIn K cd n=true/\PySem.W.keepIn K (.ref f)=true
def fi_mk {n:Str} {s:Stmt} {f:Addr} {od an:Option Addr} {sl:Array (Option Value)} {oc kV dc pm cd ct:Value} (a:PySem.W.nsIn K mainGlobals n=some (some (.ref f))) (l:K.lookup f=some ⟨oc,od,.func (PySem.W.fnOf n n (bM s) (bA s) (defScope s) .none kV dc pm an cd ct),sl⟩) (c:PySem.W.codeIn K cd n=true) (k:PySem.W.keepIn K (.ref f)=true):FI K n s:=⟨_,_,_,_,_,_,_,_,_,_,a,l,c,k⟩
abbrev FR (K:PySem.W.Frag) (mg:Str->Option Value) (n:Str) (s:Stmt):Prop:=∃ f fd,Fun K n n s f fd/\mg n=some (.ref f)/\dP K fd (parsOf s)
variable {n q:Str} {s:Stmt} {h:Heap} {mg:Str->Option Value}
def FI.ok (a:FI K n s) (X:K.In h) (G:h.Ns mainGlobals mg) (hb:∀ us:List Value,us.length=(parsOf s).length->BA n n s us):FR K mg n s:=by
 obtain ⟨f,od,an,sl,oc,kV,dc,pm,cd,ct,a,l,c,k⟩:=a;have F:=wS (st:=s) l c k;exact ⟨f,_,F,PySem.W.mg_of X G a,F.binds hb⟩
def cP0 {P:Str->Stmt->Prop}:∀ p∈([]:List (Str×Stmt)),P p.1 p.2:=fun _ z=>nomatch z
def cP1 {P:Str->Stmt->Prop} {x:Str} {s:Stmt} {l:List (Str×Stmt)} (a:P x s) (b:∀ p∈l,P p.1 p.2):∀ p∈(x,s)::l,P p.1 p.2:=List.forall_mem_cons.mpr ⟨a,b⟩
def FI.ok1 (a:FI K n s) (X:K.In h) (G:h.Ns mainGlobals mg) (hn:(parsOf s).length=1) (hb:∀ u,BA n n s [u]):FR K mg n s:=a.ok X G fun us hl=>by
 rw [hn] at hl
 match us,hl with
 | [u],_=>exact hb u
def FI.ok2 (a:FI K n s) (X:K.In h) (G:h.Ns mainGlobals mg) (hn:(parsOf s).length=2) (hb:∀ u v,BA n n s [u,v]):FR K mg n s:=a.ok X G fun us hl=>by
 rw [hn] at hl
 match us,hl with
 | [u,v],_=>exact hb u v
def FI.ok3 (a:FI K n s) (X:K.In h) (G:h.Ns mainGlobals mg) (hn:(parsOf s).length=3) (hb:∀ u v x,BA n n s [u,v,x]):FR K mg n s:=a.ok X G fun us hl=>by
 rw [hn] at hl
 match us,hl with
 | [u,v,x],_=>exact hb u v x
def FM (K:PySem.W.Frag) (C:Addr) (n q:Str) (s:Stmt):Prop:=∃ (f:Addr) (od an:Option Addr) (sl:Array (Option Value)) (oc kV dc pm cd ct:Value),PySem.W.findIn K (.ref C) n=some (some (.ref f))/\PySem.W.isFn K (.ref f)=true/\K.lookup f=some ⟨oc,od,.func (PySem.W.fnOf n q (bM s) (bA s) (defScope s) .none kV dc pm an cd ct),sl⟩/\PySem.W.codeIn K cd q=true/\PySem.W.keepIn K (.ref f)=true
def fm_mk {C:Addr} {f:Addr} {od an:Option Addr} {sl:Array (Option Value)} {oc kV dc pm cd ct:Value} (a:PySem.W.findIn K (.ref C) n=some (some (.ref f))) (i:PySem.W.isFn K (.ref f)=true) (l:K.lookup f=some ⟨oc,od,.func (PySem.W.fnOf n q (bM s) (bA s) (defScope s) .none kV dc pm an cd ct),sl⟩) (c:PySem.W.codeIn K cd q=true) (k:PySem.W.keepIn K (.ref f)=true):FM K C n q s:=⟨_,_,_,_,_,_,_,_,_,_,a,i,l,c,k⟩
def FM.ok {C:Addr} {ps:List Str} (a:FM K C n q s) (hp:parsOf s=ps)
  (hb:∀ (kV doc pm:Value) (an:Option Addr) (cdv ct:Value) (us:List Value),us.length=ps.length->bindArgs (PySem.W.fnOf n q (bM s) (bA s) (defScope s) .none kV doc pm an cdv ct) ⟨us,[]⟩=pure (ps.zip us)):∃ f fd,Fun K n q s f fd/\Meth K C n f/\dP K fd (parsOf s):=by
 obtain ⟨f,od,an,sl,oc,kV,dc,pm,cd,ct,a,i,l,c,k⟩:=a;have F:=wS (st:=s) l c k;exact ⟨f,_,F,⟨a,i,k⟩,F.binds fun us hl kV doc pm an cdv ct=>by rw [hp] at hl ⊢;exact hb kV doc pm an cdv ct us hl⟩
def FM.ok2 {C:Addr} {x y:Str} (a:FM K C n q s) (hp:parsOf s=[x,y]) (hb:∀ (kV doc pm:Value) (an:Option Addr) (cdv ct u v:Value),bindArgs (PySem.W.fnOf n q (bM s) (bA s) (defScope s) .none kV doc pm an cdv ct) ⟨[u,v],[]⟩=pure [(x,u),(y,v)]):∃ f fd,Fun K n q s f fd/\Meth K C n f/\dP K fd (parsOf s):=a.ok hp fun kV doc pm an cdv ct us hl=>by
 match us,hl with
 | [u,v],_=>exact hb kV doc pm an cdv ct u v
def FM.ok3 {C:Addr} {x y z:Str} (a:FM K C n q s) (hp:parsOf s=[x,y,z]) (hb:∀ (kV doc pm:Value) (an:Option Addr) (cdv ct u v t:Value),bindArgs (PySem.W.fnOf n q (bM s) (bA s) (defScope s) .none kV doc pm an cdv ct) ⟨[u,v,t],[]⟩=pure [(x,u),(y,v),(z,t)]):∃ f fd,Fun K n q s f fd/\Meth K C n f/\dP K fd (parsOf s):=a.ok hp fun kV doc pm an cdv ct us hl=>by
 match us,hl with
 | [u,v,t],_=>exact hb kV doc pm an cdv ct u v t
def bO9 {a:Addr} {n:Nat} {ws:List Int} {its:Array Value} (X:K.In h) (l:K.lookup a=some ⟨.type "tuple",none,.seq its n,#[]⟩) (hv:Paired (fun (i:Int) v=>∃ t,v=.int i t) ws its.toList) (hs:its.size<=sizeLine):Rep S h.get? (.tuple (ws.map .int)) (.ref a) :=
 rep_t.mpr ⟨a,_,its.toList,rfl,X a _ l,⟨⟨n,by rw [Array.toArray_toList]⟩,by rw [Array.length_toList];exact hs⟩,xY (rA (fun _ _ x=>rep_i.mpr x) hv)⟩
def bP0 {a:Addr} {n:Nat} {ws:List Str} {its:Array Value} (X:K.In h) (l:K.lookup a=some ⟨.type "tuple",none,.seq its n,#[]⟩) (hv:Paired (fun (i:Str) v=>(∃ t,v=.str i t)/\PyData.strOk i=true) ws its.toList) (hs:its.size<=sizeLine):Rep S h.get? (.tuple (ws.map .str)) (.ref a) :=
 rep_t.mpr ⟨a,_,its.toList,rfl,X a _ l,⟨⟨n,by rw [Array.toArray_toList]⟩,by rw [Array.length_toList];exact hs⟩,xY (rA (fun _ _ x=>rep_s.mpr x) hv)⟩
def bP1 {t:Top} {x:Str} {f:Addr} {fd:FuncData} {k:Nat} (T:TopOk t S) (hs:t.defs x=some s) (F:Fun S.K x x s f fd) (hq:autoParam (t.qn x=none) ZR):FnS S (k+1) f fd (parsOf s) (toW (aD t (k+1) x)):=by
 have e:aD t (k+1) x=mR t (fnT t fun y=>aD t k y) (obT t (fun y=>callW t k y) (fun y=>callI t k y) fun y=>callM t k y) x s:=by
  rw [aD,hs]
 rw [e];exact bG0 (fun q' e=>by rw [hq] at e;cases e) T F (wQ T k)
theorem tZ {Z:Zm}:∀ {ns:List Int} {vs:List Value},IntsAre vs ns->Paired (Rep S Z) (ns.map .int) vs
 | _,_,.nil=>.nil
 | _,_,.cons n t h=>.cons (rep_i.mpr ⟨t,rfl⟩) (tZ h)
end
end CI

namespace CI
open PySem PySem.Spec PyProof.Rows L2 DL
section
variable {K:PySem.W.Frag} {mg:Str->Option Value}
def aD2 {P:Program} {w:World} {mb:Str->Option Value} {k:Nat} {fa a Pt c0:Addr} {fd:FuncData} {x:Str} {m:XF} {s₁:Shared} {vs:List Value} {ns:List Int} {qs:List (Pos×Str)}
  (KX:K.In s₁.heap) (hns:s₁.heap.Ns mainGlobals mg) (hb:s₁.heap.Ns builtinsNs mb) (hbb:∀ x:Str,x≠"__name__"->mb x=bootBuiltins x) (hlim:s₁.heap.NoLimit) (hg:s₁.gens=#[])
  (ha:s₁.heap.get? a=some { cls:=.type "list",data:=.seq vs.toArray }) (hi:IntsAre vs ns) (hl:ns.length<=sizeLine) (hr:Room k callerA)
  (hPt:s₁.heap.get? Pt=some (PySem.W.tabObj #[])) (hKP:K.lookup Pt=none) (hcd:PySem.W.codeHdIn K c0 Pt=true)
  (hbm:∃ bm ob,mg "__builtins__"=some (.ref bm)/\bm≠builtinsNs/\s₁.heap.get? bm=some ob/\ob.cls=.type "module"/\ob.dict=some builtinsNs/\ob.data=.plain)
  (F:∀ base:Heap,K.In base->base.Ns mainGlobals mg->base.BuiltinsAt mg Pt->FnS ⟨P,w,K,mg,base,s₁.os,#[],Pt⟩ k fa fd [x] (toW m)) (hbind:BindsTo s₁ fd ⟨[.ref a],[]⟩ [(x,.ref a)]) (e:m [.d (.list (ns.map .int))] [.t []]=some (.bool true,[.t qs])) :
  codeAny (model P w) callerA (.call (.ref fa) ⟨[.ref a],[]⟩) (fun r s'=>r=.ok (.ret (.bool true))/\OldK s₁.heap s'.heap/\s'.os=s₁.os/\AllBare s'.gens) s₁:=by
 have haP:a≠Pt:=fun z=>by rw [z,hPt] at ha;cases ha
 have get:∀ {b:Addr} {o:Obj},s₁.heap.get? b=some o->b≠Pt->(PySem.W.hideAll s₁.heap [Pt]).get? b=some o:=fun e n=>PySem.W.hideAll_get [Pt] e (by simpa using n);have back:∀ {b:Addr} {o:Obj},(PySem.W.hideAll s₁.heap [Pt]).get? b=some o->s₁.heap.get? b=some o:=fun e=>PySem.W.of_hideAll [Pt] e;have non:(PySem.W.hideAll s₁.heap [Pt]).get? Pt=none:=PySem.W.hideAll_none [Pt] (by simp);have hsz:(PySem.W.hideAll s₁.heap [Pt]).objs.size=s₁.heap.objs.size:=PySem.W.hideAll_size _ _;generalize PySem.W.hideAll s₁.heap [Pt]=base at get back non hsz;have nsK:∀ {b:Addr} {m:Str->Option Value},s₁.heap.Ns b m->base.Ns b m:=fun {b m} ⟨o,es,ep,e,d,r⟩=>⟨o,es,ep,get e (fun z=>by
  rw [z,hPt] at e;cases e;exact Data.noConfusion (show Data.fields #[]=Data.dict es ep from d)),d,r⟩
 have hKb:K.In base:=fun b o e=>get (KX b o e) fun z=>by rw [z,hKP] at e;cases e
 have hB:base.BuiltinsAt mg Pt:=by
  obtain ⟨bm,ob,b1,b2,b3,b4,b5,b6⟩:=hbm;have bP:bm≠Pt:=fun z=>by rw [z,hPt] at b3;cases b3;cases b6
  have bg:bm≠mainGlobals:=fun z=>by
   obtain ⟨o,es,ep,e,d,_⟩:=hns;rw [<- z,b3] at e;cases e;rw [b6] at d;cases d
  exact ⟨bm,ob,b1,b2,bg,bP,get b3 bP,b4,b5,b6⟩
 have R:Mem ⟨P,w,K,mg,base,s₁.os,#[],Pt⟩ (fun _=>none) ⟨base.get?,[(Pt,Pt)]⟩ [.t []] s₁:=by
  refine ⟨fun _ _ e=>back e,fun _ _ _ e=>(by cases e),rfl,fun i j p q e1 e2 ne=>?_,fun p hp b hb=>?_,fun i p c e1 e2=>?_,fun _ _ e=>e,.of_eq hg,rfl⟩
  ·have h1:=(List.getElem?_eq_some_iff.mp e1).1;have h2:=(List.getElem?_eq_some_iff.mp e2).1;simp at h1 h2;omega
  ·cases List.mem_singleton.mp hp;have:b=Pt:=hb.elim id id;subst this;exact ⟨non,rfl,_,hPt⟩
  ·cases i with
   | zero =>
    simp at e1 e2;subst e1 e2;exact ⟨[],hPt,.nil,rfl⟩
   | succ i=>simp at e1
 have md:Mod ⟨P,w,K,mg,base,s₁.os,#[],Pt⟩:=⟨hKb,nsK hns,⟨mb,nsK hb,hbb⟩,hlim.imp fun _ z=>z.imp nsK id⟩;have e':toW m [.d (.list (ns.map .int))] [.t []]=some (.d (.bool true),[.t qs]):=by unfold toW;rw [e];rfl
 have hv:=tZ (S:=⟨P,w,K,mg,base,s₁.os,#[],Pt⟩) (Z:=base.get?) hi;have hlen:=hv.length;rw [List.length_map] at hlen;refine codeAny_mono ((F base hKb (nsK hns) hB).run (us:=[.ref a]) hr md (Nat.le_of_eq hsz) R hbind (ws:=[.d (.list (ns.map .int))]) (.cons (rep_l.mpr ⟨a,_,vs,rfl,get ha haP,⟨⟨0,rfl⟩,by omega⟩,hv⟩) .nil) e') fun r s' ⟨u,hq,M',l,R',ru⟩=>?_;subst hq;cases wb.mp ru;obtain ⟨cs,hP',_,_⟩:=R'.cel 0 (Pt,Pt) (.t qs) (l.at rfl) rfl;have hP':s'.heap.get? Pt=some (PySem.W.tabObj (#[]++(dQ qs cs).toArray)):=hP';have keep:∀ b o,b≠Pt->s₁.heap.get? b=some o->s'.heap.get? b=some o:=fun b o hb e=>R'.bk b o (get e hb);refine ⟨rfl,⟨fun b o e=>?_,fun b o e=>?_⟩,R'.os,R'.bare⟩
 ·by_cases hb:b=Pt
  ·subst hb;rw [hPt] at e;cases e;have C:=PySem.W.codeHd_of_K KX hcd;exact .inr (.inl ⟨(C.tab hPt).isCodeTable,rfl,#[],_,rfl,hP'⟩)
  ·exact .inl (keep b o hb e)
 ·by_cases hb:b=Pt
  ·subst hb;exact ⟨_,hP'⟩
  ·exact ⟨o,keep b o hb e⟩
def aO1 {l:PySem.W.OpenLaw} {n k:Nat} {q:Program} {loose:List Str} {XP:(Str->Option Value)->Heap->Prop} {YP:World->Heap->Prop} {d:DefRec} {K:Params->PySem.W.Frag} {m:XF} {x:Str} {Pt c0:Addr}
  (hn:l.most=some n) (hn2:n<=sizeLine) (hdf:d.params.defaults=[]) (hr:Room k callerA)
  (hY:∀ (w:World) (h:Heap),YP w h->(K w.params).In h/\h.get? Pt=some (PySem.W.tabObj #[])) (hKP:∀ w:World,(K w.params).lookup Pt=none) (hcd:∀ w:World,PySem.W.codeHdIn (K w.params) c0 Pt=true)
  (F:∀ (w:World) (mg:Str->Option Value) (fa:Addr) (h:Heap) (os:OsState),(K w.params).In h->h.Ns mainGlobals mg->mg d.name=some (.ref fa) ->
   ∃ fd:FuncData,(∀ (s:Shared) (u:Value),BindsTo s fd ⟨[u],[]⟩ [(x,u)])/\∀ base:Heap,(K w.params).In base->base.Ns mainGlobals mg->base.BuiltinsAt mg Pt->FnS ⟨l.prog,w,K w.params,mg,base,os,#[],Pt⟩ k fa fd [x] (toW m))
  (hm:∀ ns:List Int,ns.length<=n->∃ qs,m [.d (.list (ns.map .int))] [.t []]=some (.bool true,[.t qs])) :
  PySem.W.WalkO q loose XP YP l.row.toRowW d [] (fun f vs=>PySem.call f vs):=by
 refine Att.attach_call hn hdf fun w s₀ s₁ mg mb fa o pm cd doc a vs ns G Y ho hd hcd' hmg hobj hints hlen hg=>?_;obtain ⟨KX,hP⟩:=hY w _ Y;obtain ⟨fd,hb,hF⟩:=F w mg fa s₁.heap s₁.os KX G.T.g hmg;obtain ⟨qs,e⟩:=hm ns hlen;exact aD2 KX G.T.g G.T.b G.T.builtins G.T.nolimit hg hobj hints (Nat.le_trans hlen hn2) hr hP (hKP w) (hcd w) G.T.bmain hF (hb _ _) e
def FIT (K:PySem.W.Frag) (n:Str) (s:Stmt) (Pt:Addr):Prop:=∃ (f c0:Addr) (od an:Option Addr) (sl:Array (Option Value)) (oc kV dc pm ct:Value),PySem.W.nsIn K mainGlobals n=some (some (.ref f))/\K.lookup f=some ⟨oc,od,.func (PySem.W.fnOf n n (bM s) (bA s) (defScope s) .none kV dc pm an (.ref c0) ct),sl⟩/\PySem.W.codeIn K (.ref c0) n=true/\PySem.W.keepIn K (.ref f)=true/\PySem.W.codeHdIn K c0 Pt=true
def fit_mk {n:Str} {s:Stmt} {Pt f c0:Addr} {od an:Option Addr} {sl:Array (Option Value)} {oc kV dc pm ct:Value} (a:PySem.W.nsIn K mainGlobals n=some (some (.ref f))) (l:K.lookup f=some ⟨oc,od,.func (PySem.W.fnOf n n (bM s) (bA s) (defScope s) .none kV dc pm an (.ref c0) ct),sl⟩) (c:PySem.W.codeIn K (.ref c0) n=true) (k:PySem.W.keepIn K (.ref f)=true) (hd:PySem.W.codeHdIn K c0 Pt=true):FIT K n s Pt:=⟨_,_,_,_,_,_,_,_,_,_,a,l,c,k,hd⟩
def FIT.fi {n:Str} {s:Stmt} {Pt:Addr} (a:FIT K n s Pt):FI K n s:=by
 obtain ⟨f,c0,od,an,sl,oc,kV,dc,pm,ct,a,l,c,k,_⟩:=a;exact ⟨f,od,an,sl,oc,kV,dc,pm,.ref c0,ct,a,l,c,k⟩
def FIT.code {S:Sx} {h:Heap} {n:Str} {s s':Stmt} {f:Addr} {fd:FuncData} (a:FIT S.K n s S.tp) (X:S.K.In h) (G:h.Ns mainGlobals S.mg) (F:Fun S.K n n s' f fd) (hf:S.mg n=some (.ref f)) (htb:S.tb=#[]) (hbm:S.base.BuiltinsAt S.mg S.tp) (pos:Pos):∃ c0,fd.code=.ref c0/\TbS S c0 pos:=by
 obtain ⟨f',c0,od,an,sl,oc,kV,dc,pm,ct,a,l,c,k,hd⟩:=a;have e:=hf.symm.trans (PySem.W.mg_of X G a);cases e;obtain ⟨oc',od',kV',doc',pm',an',cdv',ct',osl',rfl,lk,_⟩:=F.ex;rw [l] at lk;have e2:=congrArg (fun o:Option Obj=>(o.map (·.data))) lk;have e3:Data.func (PySem.W.fnOf n n (bM s) (bA s) (defScope s) .none kV dc pm an (.ref c0) ct)=Data.func (PySem.W.fnOf n n (bM s') (bA s') (defScope s') .none kV' doc' pm' an' cdv' ct'):=Option.some.inj e2;have e4:=congrArg (fun d:Data=>match d with | .func fd=>fd.code | _=>.none) e3;have e5:Value.ref c0=cdv':=e4;exact ⟨c0,e5.symm,hd,by rw [htb];exact True.intro,by rw [htb];rfl,hbm⟩
end
end CI

namespace CI
open PySem PySem.Spec PyProof.Rows L2 DL
@[simp] theorem kF (j:Nat) (y x:PyData) (δ:DSt) (h:aA):rI j y x δ h=match h[j]?,y with
   | some (.l xs),.int k=>(ixN xs.length k).map fun n=>(δ,h.set j (.l (xs.set n x)))
   | some (.k kvs),_=>if (bU y).isSome=true/\kvs.length < sizeLine then some (δ,h.set j (.k (lH kvs y x))) else none
   | some (.n kvs),_=>if (cT y&&hkB 4 y)=true/\kvs.length < sizeLine then some (δ,h.set j (.n (putN kvs y x))) else none
   | _,_=>none:=rfl
@[simp] theorem qH (j:Nat) (x:PyData) (h:aA):rG (.c j) [.d x] h=match h[j]? with
 | some (.l xs)=>if xs.length < sizeLine then some (.d .none,h.set j (.l (xs++[x]))) else none
 | _=>none:=rfl
@[simp] theorem nG (j k:Nat) (h:aA):rG (.c j) [.c k] h=match h[j]? with
 | some (.r is)=>if is.length < sizeLine then some (.d .none,h.set j (.r (is++[k]))) else none
 | _=>none:=rfl
def bP2 {a b:String} (h:Str.ofString a=Str.ofString b):a=b:=by
 simp only [Str.ofString_eq_byList] at h;unfold Str.ofStringByList at h;have h1:=congrArg Str.cps h;have h2:(a.toList.map Char.toNat)=(b.toList.map Char.toNat):=by
  have:=congrArg Array.toList h1
  simpa using this
 have h3:a.toList=b.toList:=by
  refine (List.map_inj_right ?_).mp h2;intro x y e;exact Char.toNat_inj.mp e
 exact String.toList_inj.mp h3
@[simp] theorem cC2 (a b:String):(Str.ofString a=Str.ofString b)=(a=b):=propext ⟨bP2,fun e=>by rw [e]⟩
@[simp] theorem cP2 (a b:String):(Str.ofString a==Str.ofString b)=(a==b):=by
 rw [Bool.eq_iff_iff,beq_iff_eq,beq_iff_eq,cC2]
end CI
namespace DL
open PySem PySem.Spec PyProof.Rows L2
@[simp] theorem cP3 (i j:Int):PyData.eqv (.int i) (.int j)=decide (i=j):=by rw [PyData.eqv];exact Bool.beq_eq_decide_eq i j
@[simp] theorem cP4 (i j:Str):PyData.eqv (.str i) (.str j)=(i==j):=by rw [PyData.eqv]
@[simp] theorem at0 {a:PyData} {r:List PyData}:atI (a::r) 0=some a:=by simp [atI,ixN]
@[simp] theorem at1 {a b:PyData} {r:List PyData}:atI (a::b::r) 1=some b:=by
 have:(1:Int) < (r.length:Int)+1+1:=by omega
 simp [atI,ixN,this]
@[simp] theorem at2 {a b c:PyData} {r:List PyData}:atI (a::b::c::r) 2=some c:=by
 have:(2:Int) < (r.length:Int)+1+1+1:=by omega
 simp [atI,ixN,this]
@[simp] theorem at3 {a b c d:PyData} {r:List PyData}:atI (a::b::c::d::r) 3=some d:=by
 have:(3:Int) < (r.length:Int)+1+1+1+1:=by omega
 simp [atI,ixN,this]
@[simp] theorem ix0 (n:Nat):ixN (n+1) 0=some 0:=by
 have:(0:Int) < ((n+1:Nat):Int):=by omega
 simp only [ixN,this,Int.le_refl,if_true];rfl
def ix_nat {n i:Nat} (h:i < n):ixN n (i:Int)=some i:=by
 have h1:(i:Int) < (n:Int):=by omega
 have h2:(0:Int)<=(i:Int):=by omega
 simp [ixN,h1,h2]
@[simp] theorem cC3 (h:aA) (i:Nat) (a:Cell):(h.set i a).take h.length=h.set i a:=by
 rw [List.take_of_length_le (by simp)]
@[simp] theorem cV0:ixN 3 2=some 2:=rfl
@[simp] theorem cV1:ixN 3 0=some 0:=rfl
end DL
namespace L2
def eW {α:Type} {xs:List α} {j:Nat} {v:α} (h:xs[j]?=some v):atI xs (j:Int)=some v:=by
 unfold atI;rw [DL.ix_nat (List.getElem?_eq_some_iff.mp h).1];exact h
end L2
namespace DL
open PySem
def szl:sizeLine=16777216:=rfl
end DL

namespace CI
open PySem DL
@[simp] theorem cC4 {α β:Type} (x:XR α) (f:α->XR β) (δ:DSt) (h:aA):xb x f δ h=(x δ h).bind fun p=>f p.1 δ p.2:=rfl
@[simp] theorem nH {α:Type} (a:α) (δ:DSt) (h:aA):aC a δ h=some (a,h):=rfl
@[simp] theorem cP5 {α:Type} (δ:DSt) (h:aA):(xno:XR α) δ h=none:=rfl
@[simp] theorem cL9 (i:Nat) (δ:DSt) (h:aA):aB i δ h=match δ[i]? with
 | some (some w)=>some (w,h)
 | _=>none:=rfl
def fP (h:aA):okP h h:=fun i c _ e=>.inr e
def nJ {h h1:aA} (L:aA) (hl:h1.length=h.length) (k:okP h h1):okP h (h1++L):=fun i c hi e=>k i c hi (by rwa [List.getElem?_append_left (by omega)] at e)
def bP3 {h h1:aA} (i:Nat) (xs:List PyData) (k:okP h h1):okP h (h1.set i (.l xs)):=fun j c hj e=>by
 by_cases q:i=j
 ·subst q
  by_cases hi:i < h1.length
  ·rw [List.getElem?_set_self hi] at e;cases e;exact .inl fun m hm=>by cases hm
  ·rw [List.set_eq_of_length_le (by omega)] at e;exact k i c hj e
 ·rw [List.getElem?_set_ne q] at e;exact k j c hj e
@[simp] theorem cV2 (h:aA):okP h h=True:=eq_true (fP h)
@[simp] theorem cV3 (h L:aA):okP h (h++L)=True:=eq_true (nJ L rfl (fP h))
def aO2 (h0:aA) (z:PyData) (h:aA) (ok:okP h0 h):aO h0 (.rt (.d z),h)=some (z,h.take h0.length):=by
 unfold aO;rw [if_pos ok]
def aO3 (h0:aA) (δ:DSt) (h:aA) (ok:okP h0 h):aO h0 (.nx δ,h)=some (.none,h.take h0.length):=by
 unfold aO;rw [if_pos ok]
@[simp] theorem aZ2 (h:aA) (z:PyData):aO h (.rt (.d z),h)=some (z,h):=by rw [aO2 _ _ _ (fP h),List.take_length]
@[simp] theorem cM0 (h:aA) (δ:DSt):aO h (.nx δ,h)=some (.none,h):=by rw [aO3 _ _ _ (fP h),List.take_length]
@[simp] theorem cM1 (h L:aA) (z:PyData):aO h (.rt (.d z),h++L)=some (z,h):=by rw [aO2 _ _ _ (nJ L rfl (fP h)),List.take_left'];rfl
@[simp] theorem cM2 (h L:aA) (δ:DSt):aO h (.nx δ,h++L)=some (.none,h):=by rw [aO3 _ _ _ (nJ L rfl (fP h)),List.take_left'];rfl
@[simp] theorem cM3 (δ:DSt) (h:aA):dG (.nx δ,h)=some (.d .none,h):=rfl
@[simp] theorem cM4 (w:W) (h:aA):dG (.rt w,h)=some (w,h):=rfl
@[simp] theorem bU2 (δ:DSt):aP [] δ=[]:=rfl
@[simp] theorem bP4 (r:List (Option Nat)) (δ:DSt):aP (none::r) δ=none::aP r δ:=rfl
@[simp] theorem bP5 (i:Nat) (r:List (Option Nat)) (δ:DSt):aP (some i::r) δ=(δ[i]?).bind id::aP r δ:=rfl
@[simp] theorem cC5 (gs:List XG) (xs:List PyData) (δ:DSt) (h:aA):bV gs (.d (.tuple xs)) δ h=jV gs xs δ h:=rfl
@[simp] theorem cC6 (δ:DSt) (h:aA):jV [] [] δ h=some (δ,h):=rfl
@[simp] theorem bU3 (g:XG) (gs:List XG) (x:PyData) (xs:List PyData) (δ:DSt) (h:aA):jV (g::gs) (x::xs) δ h=(g (.d x) δ h).bind fun p=>jV gs xs p.1 p.2:=rfl
@[simp] theorem cT3 (h:aA) (x:PyData):ref h (.d x)=some x:=rfl
end CI

namespace CI
open PySem PySem.Spec PyProof.Rows L2 DL
section
variable {δ:DSt} {h:aA}
@[simp] theorem cC7 (x:XR Bool):cG x δ h=(x δ h).map asW:=rfl
@[simp] theorem cP6 (b:Bool):asW (b,h)=(.d (.bool b),h):=rfl
@[simp] theorem cP7 (op:CmpOp) (x y:XR W):xC1 op x y δ h=(x δ h).bind fun u=>(y δ u.2).bind fun w=>dR op u.1 w.1 w.2:=rfl
@[simp] theorem cP8 (op op':CmpOp) (x y z:XR W):xC2 op op' x y z δ h=(x δ h).bind fun u=>(y δ u.2).bind fun w=>(dR op u.1 w.1 w.2).bind fun p=>if p.1=true then (z δ p.2).bind fun q=>dR op' w.1 q.1 q.2 else some (false,p.2):=rfl
@[simp] theorem cP9 (op op' op'':CmpOp) (x y z t:XR W):xC3 op op' op'' x y z t δ h=(x δ h).bind fun u=>(y δ u.2).bind fun w=>(dR op u.1 w.1 w.2).bind fun p =>
 if p.1=true then (z δ p.2).bind fun q=>(dR op' w.1 q.1 q.2).bind fun p'=>if p'.1=true then (t δ p'.2).bind fun q'=>dR op'' q.1 q'.1 q'.2 else some (false,p'.2) else some (false,p.2):=rfl
@[simp] theorem cC8 (f:Str->Option Int) (x:XR W):kW f x δ h=(x δ h).bind fun p=>(match p.1 with
 | .d (.str s)=>some (!(f s).isSome,p.2)
 | .d .none=>some (true,p.2)
 | _=>none):=by
 unfold kW;rw [cC4]
 congr 1
 funext p
 obtain ⟨w,h'⟩:=p;cases w with
 | d x=>cases x<;>rfl
 | c i=>rfl
@[simp] theorem cM5 (x:XR (List PyData)):aM x δ h=(x δ h).bind fun p=>some (.d (.list p.1),p.2):=rfl
@[simp] theorem cC9 (x:XR (List PyData)):aS x δ h=(x δ h).bind fun p=>some (.c p.2.length,p.2++[.l p.1]):=rfl
@[simp] theorem cQ0 (x:XR (List W)):xPl x δ h=(x δ h).bind fun p=>(match gD p.1 with
 | some xs=>if xs.length<=sizeLine then some (xs,p.2) else none
 | none=>none):=rfl
@[simp] theorem cM6 (i:Nat) (x:XR W):aQ i x δ h=(x δ h).bind fun p=>some (.nx (δ.set i (some p.1)),p.2):=rfl
@[simp] theorem cD0 (x:XR W):aU x δ h=(x δ h).bind fun p=>(match p.1 with
 | .d (.list xs)=>some ((xs,none),p.2)
 | .d (.tuple xs)=>some ((xs,none),p.2)
 | .c i=>(match p.2[i]? with
  | some (.l xs)=>some ((xs,some i),p.2)
  | _=>none)
 | _=>none):=rfl
@[simp] theorem bP6:gD []=some []:=rfl
@[simp] theorem cD1 (x:PyData) (r:List W):gD (.d x::r)=(gD r).map (x::·):=rfl
@[simp] theorem cQ1 (i j:Int):dR .Lt (.d (.int i)) (.d (.int j)) h=some (decide (i < j),h):=rfl
@[simp] theorem cQ2 (i j:Int):dR .LtE (.d (.int i)) (.d (.int j)) h=some (decide (i<=j),h):=rfl
@[simp] theorem cQ3 (i j:Int):dR .Gt (.d (.int i)) (.d (.int j)) h=some (decide (j < i),h):=rfl
@[simp] theorem cQ4 (i j:Int):dR .GtE (.d (.int i)) (.d (.int j)) h=some (decide (j<=i),h):=rfl
@[simp] theorem cQ5 (u w:W):dR .Eq u w h=(xEq u w h).map fun b=>(b,h):=rfl
@[simp] theorem cQ6 (u w:W):dR .NotEq u w h=(xEq u w h).map fun b=>(!b,h):=rfl
@[simp] theorem cQ7 (u w:W):dR .Is u w h=(xIs u w).map fun b=>(b,h):=rfl
@[simp] theorem bU4 (u w:W):dR .IsNot u w h=(xIs u w).map fun b=>(!b,h):=rfl
@[simp] theorem cQ8 (u w:W):dR .In u w h=(xIn u w h).map fun b=>(b,h):=rfl
@[simp] theorem bU5 (u w:W):dR .NotIn u w h=(xIn u w h).map fun b=>(!b,h):=rfl
def yZ (a b:PyData):xEq (.d a) (.d b) h=if (aI 64 a&&aI 64 b)=true then some (PyData.eqv a b) else none:=rfl
@[simp] theorem cM7 (n:Nat):aI n .none=true:=by rw [aI]
@[simp] theorem cM8 (n:Nat) (b:Bool):aI n (.bool b)=true:=by rw [aI]
@[simp] theorem cQ9 (n:Nat) (i:Int):aI n (.int i)=true:=by rw [aI]
@[simp] theorem cR0 (n:Nat) (x:Str):aI n (.str x)=true:=by rw [aI]
@[simp] theorem cM9 (n:Nat) (xs:List PyData):aI (n+1) (.list xs)=plainsB n xs:=by rw [aI]
@[simp] theorem cD2 (n:Nat) (xs:List PyData):aI (n+1) (.tuple xs)=plainsB n xs:=by rw [aI]
@[simp] theorem cN0 (n:Nat):plainsB n []=true:=by rw [plainsB]
@[simp] theorem cD3 (n:Nat) (x:PyData) (xs:List PyData):plainsB n (x::xs)=(aI n x&&plainsB n xs):=by rw [plainsB]
@[simp] theorem cN1 (i j:Int):xEq (.d (.int i)) (.d (.int j)) h=some (decide (i=j)):=by rw [yZ];simp [PyData.eqv];exact Bool.beq_eq_decide_eq i j
@[simp] theorem cN2 (x y:Str):xEq (.d (.str x)) (.d (.str y)) h=some (x==y):=by simp [yZ,PyData.eqv]
@[simp] theorem cD4 (x y:Bool):xEq (.d (.bool x)) (.d (.bool y)) h=some (x==y):=by cases x<;>cases y<;>simp [yZ,PyData.eqv]
@[simp] theorem bG1 (y:Str):xEq (.d .none) (.d (.str y)) h=some false:=by simp [yZ,PyData.eqv]
@[simp] theorem cT4 (x:PyData):aZ [.d x] h=(match x with
  | .list xs=>some (.d (.int xs.length),h)
  | .tuple xs=>some (.d (.int xs.length),h)
  | _=>none):=by cases x<;>rfl
@[simp] theorem cN3 (xs:List PyData):bG [.d (.list xs)] h=some (.d (.tuple xs),h):=rfl
@[simp] theorem cN4 (xs:List PyData):bG [.d (.tuple xs)] h=some (.d (.tuple xs),h):=rfl
@[simp] theorem cD5 (xs:List PyData):hX [.d (.list xs)] h=(eR xs).map fun bs=>(.d (.bool (bs.all id)),h):=rfl
@[simp] theorem cV4 (xs:List PyData) (i:Int):xIx (.d (.tuple xs)) (.d (.int i)) h=(atI xs i).map fun v=>(.d v,h):=rfl
@[simp] theorem cV5 (xs:List PyData) (i:Int):xIx (.d (.list xs)) (.d (.int i)) h=(atI xs i).map fun v=>(.d v,h):=rfl
@[simp] theorem sl_t (xs:List PyData) (lo hi:Option Int):xSl (.d (.tuple xs)) lo hi h=some (.d (.tuple (cut xs lo hi)),h):=rfl
@[simp] theorem sl_l (xs:List PyData) (lo hi:Option Int):xSl (.d (.list xs)) lo hi h=some (.d (.list (cut xs lo hi)),h):=rfl
@[simp] theorem bU6 (i j:Int):fM .Add (.d (.int i)) (.d (.int j)) h=some (.d (.int (i+j)),h):=rfl
@[simp] theorem bU7 (i j:Int):fM .Sub (.d (.int i)) (.d (.int j)) h=some (.d (.int (i - j)),h):=rfl
@[simp] theorem bU8 (i j:Int):fM .Mult (.d (.int i)) (.d (.int j)) h=if fV i j=true then some (.d (.int (i*j)),h) else none:=rfl
@[simp] theorem bU9 (i j:Int):fM .FloorDiv (.d (.int i)) (.d (.int j)) h=if aT j=true then some (.d (.int (i / j)),h) else none:=rfl
@[simp] theorem bV0 (i j:Int):fM .Mod (.d (.int i)) (.d (.int j)) h=if 0 < j then some (.d (.int (i%j)),h) else none:=rfl
@[simp] theorem bV1 (i j:Int):fM .Pow (.d (.int i)) (.d (.int j)) h=if xZ i j=true then some (.d (.int (i^j.toNat)),h) else none:=rfl
@[simp] theorem bV2 (xs ys:List PyData):fM .Add (.d (.tuple xs)) (.d (.tuple ys)) h=if xs.length+ys.length<=sizeLine then some (.d (.tuple (xs++ys)),h) else none:=rfl
@[simp] theorem bV3 (xs ys:List PyData):fM .Add (.d (.list xs)) (.d (.list ys)) h=if xs.length+ys.length<=sizeLine then some (.d (.list (xs++ys)),h) else none:=rfl
@[simp] theorem bS (xs:List PyData):condB none xs h=true:=rfl
theorem bH {g:XG} {te:XR W} {all:List PyData} (f:PyData->PyData) (k:Nat) (hg:∀ w δ h,g w δ h=some (δ.set k (some w),h)) :
  ∀ (rest:List PyData) (δ:DSt) (ac:List PyData),(∀ x∈rest,∀ u,te ((δ.set k u).set k (some (.d x))) h=some (.d (f x),h))->aN g (aC true) te none all rest δ h ac=some (ac++rest.map f,h)
 | [],δ,ac,_=>by simp [aN]
 | x::r,δ,ac,hf=>by
  have e:=hf x List.mem_cons_self none;rw [List.set_set] at e;rw [aN,bS,if_pos rfl,hg];simp only [Option.bind_some,nH,if_true,e];rw [bH f k hg r _ _ fun y hy u=>by
   have:=hf y (List.mem_cons_of_mem _ hy) u;rw [List.set_set] at this ⊢;rw [List.set_set];exact this]
  simp
theorem bools_map {f:PyData->Bool}:∀ xs:List PyData,eR (xs.map fun x=>.bool (f x))=some (xs.map f)
 | []=>rfl
 | x::r=>by rw [List.map_cons,eR,bools_map r];rfl
theorem all_map {f:PyData->Bool} {h:aA} (xs:List PyData):hX [.d (.list (xs.map fun x=>.bool (f x)))] h=some (.d (.bool (xs.all f)),h):=by
 rw [cD5,bools_map,Option.map_some,List.all_map];rfl
end
end CI

namespace CI
open PySem PySem.Spec PyProof.Rows L2 DL
abbrev S3:=Int×Int×Int
noncomputable def stL (s:S3):Cell:=.l [.int s.1,.int s.2.1,.int s.2.2]
def gQ {i:Int} (h1:-(2^64) < i) (h2:i < 2^64) (j:Int):fV i j=true:=by
 unfold fV;rw [decide_eq_true h1,decide_eq_true h2];rfl
def zB {j:Int} (h1:-(2^64) < j) (h2:j < 2^64) (i:Int):fV i j=true:=by
 unfold fV;rw [decide_eq_true h1,decide_eq_true h2,Bool.and_self,Bool.or_true]
def cI {j:Int} (h1:0 < j) (h2:j < 1073741824):aT j=true:=by
 unfold aT;rw [decide_eq_true h1,decide_eq_true h2];rfl
def cL {h L:aA} {i:Nat} {c:Cell} (hi:i < h.length):h.set i c++L=(h++L).set i c:=(List.set_append_left _ _ hi).symm
def zC {h:aA} {i:Nat} {xs:List PyData} (hi:i < h.length):ref (h.set i (.l xs)) (.c i)=some (.list xs):=by
 simp [ref,hi]
@[simp] theorem cV6 {h:aA} {i:Nat} {xs:List PyData} (hi:i < h.length) (k:Int):xIx (.c i) (.d (.int k)) (h.set i (.l xs))=(atI xs k).map fun v=>(.d v,h.set i (.l xs)):=by
 unfold xIx;rw [zC hi]
noncomputable def thr (f:PyData->S3->PyData) (n:PyData->S3->S3):List PyData->S3->List PyData×S3
 | [],s=>([],s)
 | x::r,s=>(f x s::(thr f n r (n x s)).1,(thr f n r (n x s)).2)
theorem qI {g:XG} {te:XR W} {all:List PyData} {h:aA} {i:Nat} (f:PyData->S3->PyData) (n:PyData->S3->S3) (k:Nat) (hg:∀ w δ h,g w δ h=some (δ.set k (some w),h)) :
  ∀ (rest:List PyData) (δ:DSt) (ac:List PyData) (s:S3),(∀ x∈rest,∀ u s,te ((δ.set k u).set k (some (.d x))) (h.set i (stL s))=some (.d (f x s),h.set i (stL (n x s)))) ->
   aN g (aC true) te none all rest δ (h.set i (stL s)) ac=some (ac++(thr f n rest s).1,h.set i (stL (thr f n rest s).2))
 | [],δ,ac,s,_=>by simp [aN,thr]
 | x::r,δ,ac,s,hf=>by
  have e:=hf x List.mem_cons_self none s;rw [List.set_set] at e;rw [aN,bS,if_pos rfl,hg];simp only [Option.bind_some,nH,if_true,e];rw [qI f n k hg r _ _ _ fun y hy u s=>by
   have:=hf y (List.mem_cons_of_mem _ hy) u s;rw [List.set_set] at this ⊢;rw [List.set_set];exact this]
  simp [thr]
end CI

namespace CI
open PySem PySem.Spec PyProof.Rows L2 DL
variable (h:aA)
@[simp] theorem cR1 (L:aA) (i:Nat) (c:Cell):(h.set i c++L).take h.length=h.set i c:=by
 rw [List.take_append_of_le_length (by simp)];simp
end CI

namespace CI
open PySem PySem.Spec PyProof.Rows L2 DL
theorem qJ {g:XG} {te:XR W} {all:List PyData} {h:aA} (f:PyData->PyData) (J:DSt->Prop) :
  ∀ (rest:List PyData) (δ:DSt) (ac:List PyData),J δ->(∀ x∈rest,∀ δ,J δ->∃ δ1,g (.d x) δ h=some (δ1,h)/\J δ1/\te δ1 h=some (.d (f x),h))->aN g (aC true) te none all rest δ h ac=some (ac++rest.map f,h)
 | [],δ,ac,_,_=>by simp [aN]
 | x::r,δ,ac,j,hf=>by
  obtain ⟨δ1,e1,j1,e2⟩:=hf x List.mem_cons_self δ j;rw [aN];simp [e1,e2,aC];rw [qJ f J r δ1 (ac++[f x]) j1 fun y hy=>hf y (List.mem_cons_of_mem _ hy)];simp
theorem iH {g:XG} {te:XR W} {all:List PyData} {h:aA} (J:DSt->Prop) :
  ∀ (ps:List (PyData×PyData)) (δ:DSt) (ac:List PyData),J δ->(∀ p∈ps,∀ δ,J δ->∃ δ1,g (.d p.1) δ h=some (δ1,h)/\J δ1/\te δ1 h=some (.d p.2,h))->aN g (aC true) te none all (ps.map (·.1)) δ h ac=some (ac++ps.map (·.2),h)
 | [],δ,ac,_,_=>by simp [aN]
 | x::r,δ,ac,j,hf=>by
  obtain ⟨δ1,e1,j1,e2⟩:=hf x List.mem_cons_self δ j;rw [List.map_cons,aN];simp [e1,e2,aC];rw [iH J r δ1 (ac++[x.2]) j1 fun y hy=>hf y (List.mem_cons_of_mem _ hy)];simp
@[simp] theorem cR2 (xs:List PyData):gC (.d (.tuple xs))=some xs:=rfl
@[simp] theorem cR3 (xs:List PyData):gC (.d (.list xs))=some xs:=rfl
def bP7 (a:PyData) (xs:List PyData) (h:aA):xIn (.d a) (.d (.tuple xs)) h=if (aI 64 (.tuple xs)&&aI 64 a)=true then some (xs.any fun z=>PyData.eqv z a) else none:=rfl
@[simp] theorem cD6 (x a b:Str) (h:aA):xIn (.d (.str x)) (.d (.tuple [.str a,.str b])) h=some (a==x||b==x):=by
 rw [bP7];simp [PyData.eqv]
end CI

namespace CI
open PySem PySem.Spec PyProof.Rows L2 DL ST
theorem uA {g:XG} {tb:XS} {all:List PyData} (I:DSt->aA->Prop):∀ (rest:List PyData),(∀ x∈rest,∀ δ h,I δ h->∃ δ1 h1 δ2 h2,g (.d x) δ h=some (δ1,h1)/\tb δ1 h1=some (.nx δ2,h2)/\I δ2 h2) ->
  ∀ (δ:DSt) (h:aA),I δ h->∃ δ' h',aX g tb none all rest δ h=some (.nx δ',h')/\I δ' h'
 | [],_,δ,h,i=>⟨δ,h,by simp [aX],i⟩
 | x::r,ht,δ,h,i=>by
  obtain ⟨δ1,h1,δ2,h2,e1,e2,i2⟩:=ht x List.mem_cons_self δ h i;obtain ⟨δ3,h3,e3,i3⟩:=uA I r (fun y hy=>ht y (List.mem_cons_of_mem _ hy)) δ2 h2 i2;refine ⟨δ3,h3,?_,i3⟩;rw [aX,bS,if_pos rfl,e1];simp only [Option.bind_some,e2];exact e3
def aD3 {g:XG} {tb:XS} {all:List PyData} (I:DSt->aA->Prop) (rest:List PyData) (ht:∀ x∈rest,∀ δ h,I δ h->∃ δ1 h1,g (.d x) δ h=some (δ1,h1)/\∃ δ2 h2,tb δ1 h1=some (.nx δ2,h2)/\I δ2 h2) (δ:DSt) (h:aA) (i:I δ h) :
  ∃ δ' h',aX g tb none all rest δ h=some (.nx δ',h')/\I δ' h':=uA I rest (fun x hx δ h i=>let ⟨δ1,h1,e1,δ2,h2,e2,i2⟩:=ht x hx δ h i;⟨δ1,h1,δ2,h2,e1,e2,i2⟩) δ h i
def dW {x:Option (Fl×aA)} {f:Fl×aA->Option (Fl×aA)} {P:DSt->aA->Prop} (J:DSt->aA->Prop) (e:∃ δ' h',x=some (.nx δ',h')/\J δ' h') (k:∀ δ' h',J δ' h'->∃ δ2 h2,f (.nx δ',h')=some (.nx δ2,h2)/\P δ2 h2):∃ δ2 h2,x.bind f=some (.nx δ2,h2)/\P δ2 h2:=by
 obtain ⟨δ',h',e,j⟩:=e;rw [e];exact k δ' h' j

section
variable (h:aA)
@[simp] theorem cD7:dF []=some []:=rfl
@[simp] theorem bV4 (i:Int) (r:List PyData):dF (.int i::r)=(dF r).map (i::·):=rfl
@[simp] theorem cT5:xIs (.d .none) (.d .none)=some true:=rfl
@[simp] theorem cT6 (i:Int):xIs (.d (.int i)) (.d .none)=some false:=rfl
@[simp] theorem cT7 (xs:List PyData):xIs (.d (.tuple xs)) (.d .none)=some false:=rfl
def get_last (c:Cell):(h++[c])[h.length]?=some c:=by simp
def mpre_last (xs:List PyData):eP "append" (.c h.length) (h++[.l xs])=true:=by
 unfold eP;rw [if_pos rfl];simp
end
end CI

namespace CI
open PySem PySem.Spec PyProof.Rows L2 DL ST
@[simp high] theorem bs {α β:Type} (a:α) (f:α->Option β):(some a).bind f=f a:=id rfl
@[simp high] theorem xv0 (w:W) (l:DSt) (h:aA):aB 0 (some w::l) h=some (w,h):=id rfl
@[simp high] theorem xv1 {x0:Option W} (w:W) (l:DSt) (h:aA):aB 1 (x0::some w::l) h=some (w,h):=id rfl
@[simp high] theorem xv2 {x0 x1:Option W} (w:W) (l:DSt) (h:aA):aB 2 (x0::x1::some w::l) h=some (w,h):=id rfl
@[simp high] theorem xv3 {x0 x1 x2:Option W} (w:W) (l:DSt) (h:aA):aB 3 (x0::x1::x2::some w::l) h=some (w,h):=id rfl
@[simp high] theorem xv4 {x0 x1 x2 x3:Option W} (w:W) (l:DSt) (h:aA):aB 4 (x0::x1::x2::x3::some w::l) h=some (w,h):=id rfl
@[simp high] theorem xv5 {x0 x1 x2 x3 x4:Option W} (w:W) (l:DSt) (h:aA):aB 5 (x0::x1::x2::x3::x4::some w::l) h=some (w,h):=id rfl
@[simp high] theorem xv6 {x0 x1 x2 x3 x4 x5:Option W} (w:W) (l:DSt) (h:aA):aB 6 (x0::x1::x2::x3::x4::x5::some w::l) h=some (w,h):=id rfl
@[simp high] theorem xv7 {x0 x1 x2 x3 x4 x5 x6:Option W} (w:W) (l:DSt) (h:aA):aB 7 (x0::x1::x2::x3::x4::x5::x6::some w::l) h=some (w,h):=id rfl
@[simp high] theorem xv9 {x0 x1 x2 x3 x4 x5 x6 x7 x8:Option W} (w:W) (l:DSt) (h:aA):aB 9 (x0::x1::x2::x3::x4::x5::x6::x7::x8::some w::l) h=some (w,h):=id rfl
theorem dE {g:XG} {tt:XR Bool} {te:XR W} {all:List PyData} {h:aA} (p:PyData->Bool) (f:PyData->PyData) (I:DSt->Prop):∀ (xs:List PyData) (δ:DSt) (ac:List PyData),I δ ->
  (∀ x∈xs,∀ δ,I δ->∃ δ',g (.d x) δ h=some (δ',h)/\I δ'/\tt δ' h=some (p x,h)/\(p x=true->te δ' h=some (.d (f x),h)))->aN g tt te none all xs δ h ac=some (ac++(xs.filter p).map f,h)
 | [],δ,ac,_,_=>by simp [aN]
 | x::r,δ,ac,i,hx=>by
  obtain ⟨δ',e1,i',e2,e3⟩:=hx x List.mem_cons_self δ i;have ih:=fun ac=>dE (all:=all) p f I r δ' ac i' fun y hy=>hx y (List.mem_cons_of_mem _ hy);rw [aN,bS,if_pos rfl,e1];simp only [bs,e2];cases hp:p x with
  | true=>rw [if_pos rfl,e3 hp];simp only [bs];rw [ih];simp [hp]
  | false=>rw [if_neg (by simp)];rw [ih];simp [hp]
def bP8 {g:XG} {te:XR W} {all:List PyData} {h:aA} (f:PyData->PyData) (I:DSt->Prop) (xs:List PyData) (δ:DSt) (i:I δ)
  (hx:∀ x∈xs,∀ δ,I δ->∃ δ',g (.d x) δ h=some (δ',h)/\I δ'/\te δ' h=some (.d (f x),h)):aN g (aC true) te none all xs δ h []=some (xs.map f,h):=by
 have:=dE (g:=g) (tt:=aC true) (te:=te) (all:=all) (h:=h) (fun _=>true) f I xs δ [] i fun x m δ i=>by
  obtain ⟨δ',a,b,c⟩:=hx x m δ i;exact ⟨δ',a,b,rfl,fun _=>c⟩
 rw [this,List.filter_eq_self.mpr (fun _ _=>rfl),List.nil_append]
def wT {σ α:Type} {g:XG} {tb:XS} {all:List PyData} {P:DSt->aA->Prop} (F:α->PyData) (st:σ->α->σ) (R:σ->DSt->aA->Prop) (s:σ) (qs:List α) {δ:DSt} {h:aA} (hi:R s δ h) (hP:∀ δ h,R (qs.foldl st s) δ h->P δ h)
  (ht:∀ q∈qs,∀ s δ h,R s δ h->∃ δ1 h1,g (.d (F q)) δ h=some (δ1,h1)/\∃ δ2 h2,tb δ1 h1=some (.nx δ2,h2)/\R (st s q) δ2 h2):∃ δ' h',aX g tb none all (qs.map F) δ h=some (.nx δ',h')/\P δ' h':=by
 suffices H:∀ (qs:List α) (s:σ) (δ:DSt) (h:aA),R s δ h->(∀ q∈qs,∀ s δ h,R s δ h->∃ δ1 h1,g (.d (F q)) δ h=some (δ1,h1)/\∃ δ2 h2,tb δ1 h1=some (.nx δ2,h2)/\R (st s q) δ2 h2)->∃ δ' h',aX g tb none all (qs.map F) δ h=some (.nx δ',h')/\R (qs.foldl st s) δ' h' by
  obtain ⟨δ',h',e,r⟩:=H qs s δ h hi ht;exact ⟨δ',h',e,hP _ _ r⟩
 clear hP hi ht;intro qs;induction qs with
 | nil=>exact fun s δ h i _=>⟨δ,h,by simp [aX],i⟩
 | cons q r ih =>
  intro s δ h i ht;obtain ⟨δ1,h1,e1,δ2,h2,e2,i2⟩:=ht q List.mem_cons_self s δ h i;obtain ⟨δ3,h3,e3,i3⟩:=ih _ δ2 h2 i2 fun y hy=>ht y (List.mem_cons_of_mem _ hy);refine ⟨δ3,h3,?_,i3⟩;rw [List.map_cons,aX,bS,if_pos rfl,e1];simp only [bs,e2];exact e3
def bX {g:XG} {tb:XS} {all:List PyData} {P:DSt->aA->Prop} (I:Nat->DSt->aA->Prop) {rest:List PyData} {δ:DSt} {h:aA} (hi:I 0 δ h) (hP:∀ δ h,I rest.length δ h->P δ h)
  (ht:∀ n (hn:n < rest.length) δ h,I n δ h->∃ δ1 h1,g (.d rest[n]) δ h=some (δ1,h1)/\∃ δ2 h2,tb δ1 h1=some (.nx δ2,h2)/\I (n+1) δ2 h2):∃ δ' h',aX g tb none all rest δ h=some (.nx δ',h')/\P δ' h':=by
 suffices H:∀ (r:List PyData) (n:Nat) (δ:DSt) (h:aA),(∃ p,rest=p++r/\p.length=n)->I n δ h->∃ δ' h',aX g tb none all r δ h=some (.nx δ',h')/\I rest.length δ' h' by
  obtain ⟨δ',h',e,i⟩:=H rest 0 δ h ⟨[],rfl,rfl⟩ hi;exact ⟨δ',h',e,hP δ' h' i⟩
 intro r;induction r with
 | nil =>
  rintro n δ h ⟨p,e1,e2⟩ i;subst e2;simp at e1;subst e1;exact ⟨δ,h,by simp [aX],i⟩
 | cons x r ih =>
  rintro n δ h ⟨p,e1,e2⟩ i;have hn:n < rest.length:=by rw [e1];simp;omega
  have hx:rest[n]=x:=by subst e2;subst e1;simp
  obtain ⟨δ1,h1,e1',δ2,h2,e2',i2⟩:=ht n hn δ h i;rw [hx] at e1';obtain ⟨δ3,h3,e3,i3⟩:=ih (n+1) δ2 h2 ⟨p++[x],by simp [e1],by simp [e2]⟩ i2;refine ⟨δ3,h3,?_,i3⟩;rw [aX,bS,if_pos rfl,e1'];simp only [bs,e2'];exact e3
def rng_len (lo:Int) (n:Nat):(rng lo n).length=n:=by simp [rng]
@[simp] theorem at4 (a b c e f:PyData) (r:List PyData):atI (a::b::c::e::f::r) 4=some f:=eW (j:=4) (by simp)
@[simp] theorem at5 (a b c e f g:PyData) (r:List PyData):atI (a::b::c::e::f::g::r) 5=some g:=eW (j:=5) (by simp)
end CI

namespace CI
open PySem DL
variable {h L:aA} {i:Nat} {c c':Cell}
open Classical in
@[simp] theorem cR4 (h0:aA) (z:PyData) (h1:aA):aO h0 (.rt (.d z),h1)=if okP h0 h1 then some (z,h1.take h0.length) else none:=rfl
open Classical in
@[simp] theorem cR5 (h0:aA) (δ:DSt) (h1:aA):aO h0 (.nx δ,h1)=if okP h0 h1 then some (PyData.none,h1.take h0.length) else none:=rfl
def zD (xs:List PyData):okP (h.set i c) (h.set i (.l xs)):=by
 have:=bP3 i xs (fP (h.set i c))
 rwa [List.set_set] at this
@[simp] theorem cT8 (xs:List PyData):okP (h.set i c) (h.set i (.l xs))=True:=eq_true (zD xs)
@[simp] theorem cT9 (s:S3):okP (h.set i c) (h.set i (stL s))=True:=eq_true (zD _)
@[simp] theorem cU0 (xs:List PyData):okP (h.set i c) (h.set i (.l xs)++L)=True:=eq_true (nJ L (by simp) (zD xs))
@[simp] theorem bP9 (s:S3):okP (h.set i c) (h.set i (stL s)++L)=True:=eq_true (nJ L (by simp) (zD _))
@[simp] theorem aO4 (s:S3) (hi:i < h.length):okP (h.set i c) ((h++L).set i (stL s))=True:=by rw [<- cL hi,bP9]
@[simp] theorem cR6:(h.set i c).take h.length=h.set i c:=List.take_of_length_le (by simp)
@[simp] theorem cD8:(h.set i c++L).take h.length=h.set i c:=by rw [List.take_append_of_le_length (by simp),cR6]
@[simp] theorem aO5 (hi:i < h.length):((h++L).set i c).take h.length=h.set i c:=by rw [<- cL hi,cD8]
end CI

namespace SJ
open PySem
set_option genInjectivity true in
inductive One where
 | read (k:Nat) | write (k:Nat) (v:Int) | add (k:Nat) (n:Int) | swap (k:Nat) (o n:Int)
set_option genInjectivity true in
inductive Call where
 | one (c:One) | span (lo hi:Nat) | deal (cs:List One)
set_option genInjectivity true in
inductive Stp where
 | call (c:Call) | look (c:Call) | lay (ps:List (Nat×Int))
def One.dat:One->PyData
 | .read k=>.tuple [.str "read",.int k]
 | .write k v=>.tuple [.str "write",.int k,.int v]
 | .add k n=>.tuple [.str "add",.int k,.int n]
 | .swap k o n=>.tuple [.str "swap",.int k,.int o,.int n]
def One.key:One->Nat
 | .read k=>k | .write k _=>k | .add k _=>k | .swap k _ _=>k
def Call.dat:Call->PyData
 | .one c=>c.dat
 | .span lo hi=>.tuple [.str "span",.int lo,.int hi]
 | .deal cs=>.tuple [.str "deal",.tuple (cs.map One.dat)]
def Stp.dat:Stp->PyData
 | .call c=>c.dat
 | .look c=>.tuple [.str "look",c.dat]
 | .lay ps=>.tuple [.str "lay",.tuple (ps.map fun p=>.tuple [.int p.1,.int p.2])]
def One.ok (c:One):Prop:=c.key < 8
noncomputable def Call.ok:Call->Prop
 | .one c=>c.ok
 | .span lo hi=>lo < hi/\hi<=8
 | .deal cs=>cs.length<=4/\1<=cs.length/\∀ c∈cs,c.ok
noncomputable def cR7 (st:List Int):List PyData:=st.map .int
abbrev stD (st:List Int):PyData:=.tuple (cR7 st)
noncomputable def got (v:Int):PyData:=.tuple [.str "got",.int v]
noncomputable def dn:PyData:=.tuple [.str "done"]
noncomputable def yes:PyData:=.tuple [.str "yes"]
def no:PyData:=.tuple [.str "no"]
end SJ

namespace SJ
open PySem
mutual
noncomputable def sok:PyData->Bool
 | .str x=>PyData.strOk x
 | .list xs=>decide (xs.length<=1000)&&soks xs
 | .tuple xs=>decide (xs.length<=1000)&&soks xs
 | _=>true
noncomputable def soks:List PyData->Bool
 | []=>true
 | x::r=>sok x&&soks r
end
def qK {x:PyData} {xs:List PyData}:soks (x::xs)=true ↔ sok x=true/\soks xs=true:=by rw [soks,Bool.and_eq_true]
noncomputable def fH:PyData->Bool
 | .int _=>true
 | _=>false
noncomputable def gR (x:PyData) (lo hi:Int):Bool:=match x with
 | .int i=>decide (lo<=i)&&decide (i<=hi)
 | _=>false
def jD (x:PyData):Bool:=gR x 0 7
noncomputable def fZ:PyData->Int->Bool
 | .tuple xs,n=>decide ((xs.length:Int)=n)
 | _,_=>false
noncomputable def fD:PyData->PyData
 | .tuple (.str s::_)=>.str s
 | _=>.none
noncomputable def aJ (x:PyData) (s:Str) (n:Int):Bool:=match x with
 | .tuple (.str t::r)=>(t==s)&&decide ((r.length:Int)+1=n)
 | _=>false
def nb (s:Str):Option Int:=if s=Str.ofString "read" then some 0 else if s=Str.ofString "write" then some 1 else if s=Str.ofString "add" then some 1 else if s=Str.ofString "swap" then some 2 else none
def bN:PyData->Bool
 | .tuple (.str s::r)=>match nb s with
  | some n=>(decide ((r.length:Int)+1=2+n))&&(match r with
   | k::vs=>jD k&&vs.all fH
   | []=>false)
  | none=>false
 | _=>false
noncomputable def dK:PyData->Bool
 | .tuple [.str s,.int a,.int b]=>(s==Str.ofString "span")&&decide (0<=a)&&decide (a < b)&&decide (b<=8)
 | _=>false
def dM:PyData->Bool
 | .tuple [.str s,.tuple ps]=>(s==Str.ofString "deal")&&decide (1<=ps.length)&&decide (ps.length<=4)&&ps.all bN
 | _=>false
def cF (x:PyData):Bool:=bN x||dK x||dM x
def iI:PyData->Bool
 | .tuple [.str s,c]=>(s==Str.ofString "look")&&cF c
 | _=>false
def dO:PyData->Bool
 | .tuple [k,v]=>jD k&&fH v
 | _=>false
noncomputable def oU:PyData->Int
 | .int i=>i
 | _=>0
noncomputable def nK:PyData->PyData
 | .tuple (k::_)=>k
 | _=>.none
noncomputable def aD4 (ns:List Int):Bool:=(List.range (ns.length - 1)).all fun k=>decide (ns.getD k 0 < ns.getD (k+1) 0)
def jE:PyData->Bool
 | .tuple [.str s,.tuple ps]=>(s==Str.ofString "lay")&&!ps.isEmpty&&ps.all dO&&aD4 (ps.map fun p=>oU (nK p))
 | _=>false
def fQ (x:PyData):Bool:=cF x||iI x||jE x
end SJ

namespace SJ
open PySem PySem.Spec PyProof.Rows L2 DL
def aZ3:nb "read"=some 0:=by decide +kernel
def aO6:nb "write"=some 1:=by decide +kernel
def bQ0:nb "add"=some 1:=by decide +kernel
def aZ4:nb "swap"=some 2:=by decide +kernel
def aZ5:nb "look"=none:=by decide +kernel
def bQ1:nb "lay"=none:=by decide +kernel
def aZ6:PyData.strOk "read"=true:=by decide +kernel
def aO7:PyData.strOk "write"=true:=by decide +kernel
def bQ2:PyData.strOk "add"=true:=by decide +kernel
def aZ7:PyData.strOk "swap"=true:=by decide +kernel
end SJ

namespace SJ
open PySem PySem.Spec PyProof.Rows L2 DL
def aZ8:PyData.strOk "span"=true:=by decide +kernel
def aZ9:PyData.strOk "deal"=true:=by decide +kernel
def bA0:PyData.strOk "look"=true:=by decide +kernel
def bQ3:PyData.strOk "lay"=true:=by decide +kernel
def aO8 {k:Nat} (h:k < 8):jD (.int k)=true:=by
 simp [jD,gR];omega
def nM {o:One} (h:o.ok):bN o.dat=true/\sok o.dat=true:=by
 have h':o.key < 8:=h;cases o<;>simp [One.key] at h'<;>simp [One.dat,bN,aZ3,aO6,bQ0,aZ4,aO8 h',fH,sok,soks,aZ6,aO7,bQ2,aZ7]
theorem uB:∀ {cs:List One},(∀ c∈cs,c.ok)->(cs.map One.dat).all bN=true/\soks (cs.map One.dat)=true
 | [],_=>⟨rfl,rfl⟩
 | c::r,h=>by
  obtain ⟨h1,h2⟩:=nM (h c List.mem_cons_self);obtain ⟨h3,h4⟩:=uB fun z hz=>h z (List.mem_cons_of_mem _ hz);rw [List.map_cons,List.all_cons,h1,h3,qK];exact ⟨rfl,h2,h4⟩
def fI {o:SJ.Call} (h:o.ok):cF o.dat=true/\fQ o.dat=true/\sok o.dat=true:=by
 have hc:cF o.dat=true/\sok o.dat=true:=by
  cases o with
  | one c =>
   obtain ⟨h1,h2⟩:=nM (o:=c) h;exact ⟨by simp [cF,Call.dat,h1],h2⟩
  | span lo hi =>
   obtain ⟨h1,h2⟩:=h;refine ⟨?_,by simp [Call.dat,sok,soks,aZ8]⟩;have e1:(0:Int)<=lo:=by omega
   have e2:(lo:Int) < hi:=by omega
   have e3:(hi:Int)<=8:=by omega
   simp [cF,Call.dat,dK,e2,e3]
  | deal cs =>
   obtain ⟨h1,h2,h3⟩:=h;obtain ⟨h4,h5⟩:=uB h3;refine ⟨?_,by simp [Call.dat,sok,soks,aZ9,h5];omega⟩;simp only [cF,Call.dat,dM,h4,List.length_map];simp [h1,h2]
 exact ⟨hc.1,by simp [fQ,hc.1],hc.2⟩
def gT {o:SJ.Call} (h:o.ok):cF (.tuple [.str "look",o.dat])=false/\fQ (.tuple [.str "look",o.dat])=true/\sok (.tuple [.str "look",o.dat])=true:=by
 obtain ⟨h1,h2,h3⟩:=fI h;have hs:dK (.tuple [.str "look",o.dat])=false:=by
  unfold dK;split
  ·simp_all
  ·rfl
 have hd:dM (.tuple [.str "look",o.dat])=false:=by
  unfold dM;split
  ·rename_i e;injection e with e
   injection e with e1 e2
   injection e1 with e1
   subst e1;simp
  ·rfl
 have hi:bN (.tuple [.str "look",o.dat])=false:=by simp [bN,aZ5]
 have hc:cF (.tuple [.str "look",o.dat])=false:=by simp [cF,hs,hd,hi]
 refine ⟨hc,?_,by simp [sok,soks,bA0,h3]⟩;simp only [fQ,hc,iI,h1];simp
noncomputable def prP (p:Nat×Int):PyData:=.tuple [.int p.1,.int p.2]
theorem kG:∀ {ps:List (Nat×Int)},(∀ p∈ps,p.1 < 8)->(ps.map prP).all dO=true/\soks (ps.map prP)=true/\((ps.map prP).map fun p=>oU (nK p))=ps.map fun p=>(p.1:Int)
 | [],_=>⟨rfl,rfl,rfl⟩
 | p::r,h=>by
  obtain ⟨h3,h4,h5⟩:=kG fun z hz=>h z (List.mem_cons_of_mem _ hz);have hk:=aO8 (h p List.mem_cons_self);rw [List.map_cons,List.all_cons,h3,qK,List.map_cons,h5];refine ⟨by simp [prP,dO,hk,fH],⟨by simp [prP,sok,soks],h4⟩,?_⟩;rfl
def zE {ks:List Nat} (h:ks.Pairwise (· < ·)):aD4 (ks.map fun (k:Nat)=>(k:Int))=true:=by
 unfold aD4;rw [List.all_eq_true];intro i hi;have hi':i+1 < ks.length:=by
  have:=List.mem_range.mp hi;simp at this;omega
 have:=List.pairwise_iff_getElem.mp h i (i+1) (by omega) hi' (by omega);simp [List.getD,hi',show i < ks.length by omega];omega
def aO9 {ps:List (Nat×Int)} (h0:ps≠[]) (h1:(ps.map (·.1)).Pairwise (· < ·)) (h2:∀ p∈ps,p.1 < 8) (h3:ps.length<=8) :
  cF (.tuple [.str "lay",.tuple (ps.map prP)])=false/\fQ (.tuple [.str "lay",.tuple (ps.map prP)])=true/\sok (.tuple [.str "lay",.tuple (ps.map prP)])=true:=by
 obtain ⟨q1,q2,q3⟩:=kG h2;have hd:dM (.tuple [.str "lay",.tuple (ps.map prP)])=false:=by
  unfold dM;simp
 have hc:cF (.tuple [.str "lay",.tuple (ps.map prP)])=false:=by simp [cF,hd,bN,bQ1,dK]
 refine ⟨hc,?_,by simp [sok,soks,bQ3,q2];omega⟩;have hr:=zE h1;rw [List.map_map] at hr;have he:(ps.map prP).isEmpty=false:=by simpa using h0
 simp only [fQ,hc,jE,q1,q3,he];have e:(List.map (fun p:Nat×Int=>(p.1:Int)) ps)=List.map ((fun k:Nat=>(k:Int)) ∘ fun x=>x.1) ps:=rfl;rw [e,hr];simp
end SJ

namespace SJ
open PySem
set_option genInjectivity true in
inductive An1 where
 | got (v:Int) | dn | yes | no
def An1.dat:An1->PyData
 | .got v=>.tuple [.str "got",.int v]
 | .dn=>.tuple [.str "done"]
 | .yes=>.tuple [.str "yes"]
 | .no=>.tuple [.str "no"]
def An1.fits:One->An1->Prop
 | .read _,.got _=>True
 | .add _ _,.got _=>True
 | .write _ _,.dn=>True
 | .swap _ _ _,.yes=>True
 | .swap _ _ _,.no=>True
 | _,_=>False
set_option genInjectivity true in
inductive Ans where
 | one (a:An1) | all (ns:List Int) | each (as:List An1)
def Ans.dat:Ans->PyData
 | .one a=>a.dat
 | .all ns=>.tuple [.str "all",.tuple (ns.map .int)]
 | .each as=>.tuple [.str "each",.tuple (as.map An1.dat)]
set_option genInjectivity true in
inductive Fit2:List One->List An1->Prop
 | nil:Fit2 [] []
 | cons {o:One} {a:An1} {os:List One} {as:List An1} (h:An1.fits o a) (t:Fit2 os as):Fit2 (o::os) (a::as)
def Ans.fits:Call->Ans->Prop
 | .one o,.one a=>An1.fits o a
 | .span lo hi,.all ns=>ns.length=hi - lo
 | .deal cs,.each as=>Fit2 cs as
 | _,_=>False
def cP (o:One) (t:PyData):Bool:=match o with
 | .read _=>(match t with
  | .tuple [.str s,v]=>(s==Str.ofString "got")&&fH v
  | _=>false)
 | .add _ _=>(match t with
  | .tuple [.str s,v]=>(s==Str.ofString "got")&&fH v
  | _=>false)
 | .write _ _=>aJ t "done" 1
 | .swap _ _ _=>aJ t "yes" 1||aJ t "no" 1
def eX:List One->List PyData->Bool
 | o::os,t::ts=>cP o t&&eX os ts
 | _,_=>true
def bD (c:Call) (t:PyData):Bool:=match c with
 | .one o=>cP o t
 | .span lo hi=>(match t with
  | .tuple [.str s,.tuple xs]=>(s==Str.ofString "all")&&decide ((xs.length:Int)=(hi:Int) - lo)&&xs.all fH
  | _=>false)
 | .deal cs=>(match t with
  | .tuple [.str s,.tuple xs]=>(s==Str.ofString "each")&&decide (xs.length=cs.length)&&eX cs xs
  | _=>false)
theorem Fit2.length:∀ {os:List One} {as:List An1},Fit2 os as->as.length=os.length
 | _,_,.nil=>rfl
 | _,_,.cons _ t=>by simp [t.length]
def uC {o:One} {a:An1} (h:An1.fits o a):cP o a.dat=true:=by
 cases o<;>cases a<;>first | exact False.elim h | rfl
theorem qL:∀ {os:List One} {as:List An1},Fit2 os as->eX os (as.map An1.dat)=true
 | _,_,.nil=>rfl
 | _,_,.cons h t=>by simp [eX,uC h,qL t]
def aD5 {c:Call} {a:Ans} (h:Ans.fits c a) (hc:c.ok):bD c a.dat=true:=by
 cases c<;>cases a<;>first | exact False.elim h | skip
 ·exact uC h
 ·rename_i lo hi ns;have:=hc.1
  replace h:ns.length=hi - lo:=h
  simp [bD,Ans.dat,h,fH];omega
 ·rename_i cs as
  replace h:Fit2 cs as:=h
  simp [bD,Ans.dat,qL h,h.length]
end SJ

noncomputable section
namespace K26
open PySem PySem.Spec PyProof.Rows L2 DL CI SJ
noncomputable def body:List Stmt:=PySem.Challenge.pw_storejudge_k26_whole_closed_lists_hold.main.body
noncomputable def cv (x:Str):List Str:=if x="_law_problem" then ["_law_state"] else if x="_law_items" then ["_law_options","_law_items_here"] else if x="_law_pairs" then ["_law_pairs_here"] else if x="_law_triples" then ["_law_triples_here"] else if x="deal_done" then ["answers"] else if x="nodes_behind" then ["pairs"] else if x="searched" then ["seen","row","trail"] else if x="waiting" then ["return"] else if x="marked" then ["return"] else if x="_law_come" then ["_law_nodes","return"] else if x="_law_list" then ["_law_state","_law_nodes"] else if x="_law_rows" then ["_law_found"] else if x="law" then [] else []
noncomputable def wf (x:Str):Bool:=decide (x="ways_of")||(decide (x="waiting")||(decide (x="marked")||decide (x="_law_come")))
def methOf (m:Str):Option Stmt:=body.findSome? fun s=>match s with
 | .ClassDef n _ _ b _ _ _ _ _ _ _=>if n="Ways" then b.find? (aN9 m) else none
 | _=>none
def ini (x:Str):Option (Addr×Stmt):=if x="Ways" then (methOf "__init__").map fun s=>(280,s) else none
def mt (x:Str):Option (Addr×Stmt):=if x="stand_behind" then (methOf "stand_behind").map fun s=>(280,s) else if x="may_follow" then (methOf "may_follow").map fun s=>(280,s) else if x="followers" then (methOf "followers").map fun s=>(280,s) else if x="missing" then (methOf "missing").map fun s=>(280,s) else none
noncomputable def fo (C:Addr) (f:Str):Bool:=decide (C=280)&&(["first","listed","musts","ahead","later","gaps"]:List Str).contains f
noncomputable def qn (x:Str):Option (Str×Pos):=if x="waiting" then some ("waiting.<locals>.",⟨261,29,261,67⟩) else none
def T:Top:=cC1 body (fun _=>[]) cv 100000 60 wf ini mt fo qn
end K26

namespace K26
open PySem PySem.Spec PyProof.Rows L2 DL CI
noncomputable def YE:Fl×aA->Option (Fl×aA):=fun p=>match p.1 with
  | Fl.nx δ'=>some (Fl.nx δ',p.2)
  | f=>some (f,p.2)
def YN:W->XR (List W):=fun w=>xb (aC []) fun ws=>aC (w::ws)
@[simp] theorem cV7 :YN=fun w=>xb (aC []) fun ws=>aC (w::ws):=rfl
def YC (w:W):List W->XR (List W):=fun ws=>aC (w::ws)
@[simp] theorem cV8 (w:W):YC w=fun ws=>aC (w::ws):=rfl
def YF (d:Nat) (s:String):List W->XR W:=fun ws x h=>Option.bind (aD T d (Str.ofString s) ws h) fun p=>some (W.d p.1,p.2)
@[simp] theorem cV9 (d:Nat) (s:String):YF d s=fun ws x h=>Option.bind (aD T d (Str.ofString s) ws h) fun p=>some (W.d p.1,p.2):=rfl
def YCw (d:Nat) (s:String):List W->XR W:=fun ws x h=>callW T d (Str.ofString s) ws h
@[simp] theorem cU1 (d:Nat) (s:String):YCw d s=fun ws x h=>callW T d (Str.ofString s) ws h:=rfl
def YI (n:Int):W->XR W:=fun x=>xb (aC (W.d (PyData.int n))) fun y x_1 h=>xIx x y h
@[simp] theorem cW0 (n:Int):YI n=fun x=>xb (aC (W.d (PyData.int n))) fun y x_1 h=>xIx x y h:=rfl
def YB (o:Operator) (n:Int):W->XR W:=fun u=>xb (aC (W.d (PyData.int n))) fun w x h=>fM o u w h
@[simp] theorem cW1 (o:Operator) (n:Int):YB o n=fun u=>xb (aC (W.d (PyData.int n))) fun w x h=>fM o u w h:=rfl
def YO (o:Operator) (u:W):W->XR W:=fun w x h=>fM o u w h
@[simp] theorem cW2 (o:Operator) (u:W):YO o u=fun w x h=>fM o u w h:=rfl
def YT:List PyData->XR W:=fun xs=>aC (W.d (PyData.tuple xs))
@[simp] theorem cW3 :YT=fun xs=>aC (W.d (PyData.tuple xs)):=rfl
noncomputable def YW:W×aA->Option (Fl×aA):=fun p=>some (Fl.rt p.1,p.2)
@[simp] theorem cW4 :YW=fun p=>some (Fl.rt p.1,p.2):=rfl
def YS (s:String):XR W:=aC (W.d (PyData.str (Str.ofString s)))
@[simp] theorem cW5 (s:String):YS s=aC (W.d (PyData.str (Str.ofString s))):=rfl
def YJ (n:Int):XR W:=aC (W.d (PyData.int n))
@[simp] theorem cW6 (n:Int):YJ n=aC (W.d (PyData.int n)):=rfl
noncomputable def YK (f:List W->aA->Option (W×aA)):List W->XR W:=fun ws x h=>f ws h
@[simp] theorem cW7 (f:List W->aA->Option (W×aA)):YK f=fun ws x h=>f ws h:=rfl
noncomputable def YQ (k:DSt->Fl×aA->Option (Fl×aA)):Fl×aA->Option (Fl×aA):=fun p=>match p.1 with
  | Fl.nx δ'=>k δ' p
  | f=>some (f,p.2)
noncomputable def YP {α β:Type} (x:Option α) (f:α->Option β):Option β:=Option.bind x f
@[simp] theorem cW8 {α β:Type} (x:Option α) (f:α->Option β):YP x f=Option.bind x f:=rfl
noncomputable def YG (i:Nat):XG:=fun w δ h=>some (List.set δ i (some w),h)
@[simp] theorem cR8 (i:Nat):YG i=fun w δ h=>some (List.set δ i (some w),h):=rfl
def YZ:XR W:=aC (W.d PyData.none)
@[simp] theorem cW9:YZ=aC (W.d PyData.none):=rfl
def YV (i:Nat) (n:Int):XR W:=xb (aB i) (YI n)
@[simp] theorem cX0 (i:Nat) (n:Int):YV i n=xb (aB i) (YI n):=rfl
def YL (s:String):W->XR W:=fun w x h=>match w with
  | W.c j=>match h[j]? with
    | some (Cell.o C fs)=>if Top.fo T C (Str.ofString s)=true then Option.map (fun (w:W)=>(w,h)) (List.lookup (Str.ofString s) fs) else none
    | x=>none
  | x=>none
@[simp] theorem cX1 (s:String):YL s=fun w x h=>match w with
  | W.c j=>match h[j]? with
    | some (Cell.o C fs)=>if Top.fo T C (Str.ofString s)=true then Option.map (fun (w:W)=>(w,h)) (List.lookup (Str.ofString s) fs) else none
    | x=>none
  | x=>none:=rfl
def YM (s:String) (δ:DSt) (v:W):W×aA->Option (Fl×aA):=fun q=>match q.1 with
  | W.c j=>match (q.2)[j]? with
    | some (Cell.o C fs)=>if Top.fo T C (Str.ofString s)=true/\List.length fs < 1000 then some (Fl.nx δ,List.set (q.2) j (Cell.o C (dY (Str.ofString s) v fs))) else none
    | x=>none
  | x=>none
@[simp] theorem cX2 (s:String) (δ:DSt) (v:W):YM s δ v=fun q=>match q.1 with
  | W.c j=>match (q.2)[j]? with
    | some (Cell.o C fs)=>if Top.fo T C (Str.ofString s)=true/\List.length fs < 1000 then some (Fl.nx δ,List.set (q.2) j (Cell.o C (dY (Str.ofString s) v fs))) else none
    | x=>none
  | x=>none:=rfl
def YA (e:XR (List W)):W->XR W:=fun w δ h=>if eP (Str.ofString "append") w h=true then Option.bind (e δ h) fun p=>rG w p.1 p.2 else none
@[simp] theorem cX3 (e:XR (List W)):YA e=fun w δ h=>if eP (Str.ofString "append") w h=true then Option.bind (e δ h) fun p=>rG w p.1 p.2 else none:=rfl
def YR :W->XR (List PyData×Option Nat):=fun w x h=>match w with
  | W.d (PyData.int j)=>if fB 0 j=true then some ((rng 0 (Int.toNat j),none),h) else none
  | x=>none
@[simp] theorem cX4 :YR =fun w x h=>match w with
  | W.d (PyData.int j)=>if fB 0 j=true then some ((rng 0 (Int.toNat j),none),h) else none
  | x=>none:=rfl
def YD :W->XR Bool:=fun w=>match w with
  | W.d (PyData.bool b)=>aC b
  | x=>xno
@[simp] theorem cX5 :YD =fun w=>match w with
  | W.d (PyData.bool b)=>aC b
  | x=>xno:=rfl
def YU :W->XR (Option Int):=fun w=>match w with
  | W.d (PyData.int i)=>aC (some i)
  | x=>xno
@[simp] theorem cX6 :YU =fun w=>match w with
  | W.d (PyData.int i)=>aC (some i)
  | x=>xno:=rfl
def YH (d:Nat) (s:String) (e:XR (List W)):W->XR W:=fun w δ h=>match w with
  | W.c j=>match h[j]? with
    | some (Cell.o C' fs)=>if C'=280/\List.lookup (Str.ofString s) fs=none then Option.bind (e δ h) fun p=>callM T d (Str.ofString s) (W.c j::p.1) p.2 else none
    | x=>none
  | x=>none
@[simp] theorem cX7 (d:Nat) (s:String) (e:XR (List W)):YH d s e=fun w δ h=>match w with
  | W.c j=>match h[j]? with
    | some (Cell.o C' fs)=>if C'=280/\List.lookup (Str.ofString s) fs=none then Option.bind (e δ h) fun p=>callM T d (Str.ofString s) (W.c j::p.1) p.2 else none
    | x=>none
  | x=>none:=rfl
def YX (x:W):W->XR W:=fun y _ h=>xIx x y h
@[simp] theorem cX8 (x:W):YX x=fun y _ h=>xIx x y h:=rfl
def YS3 (x:W) (l:Option Int):Option Int->XR W:=fun u _ h=>xSl x l u h
@[simp] theorem cU2 (x:W) (l:Option Int):YS3 x l=fun u _ h=>xSl x l u h:=rfl
def YT2 (b:Bool) (δ:DSt):Bool×aA->Option (Fl×aA):=fun p=>if p.1=true then YP (YP (aC (W.d (PyData.bool b)) δ p.2) YW) YE else some (Fl.nx δ,p.2)
@[simp] theorem cU3 (b:Bool) (δ:DSt):YT2 b δ=fun p=>if p.1=true then YP (YP (aC (W.d (PyData.bool b)) δ p.2) YW) YE else some (Fl.nx δ,p.2):=rfl
def YI2 (s:String):W->XR W:=fun w x h=>Option.bind (ref h w) fun d=>some (W.d (PyData.bool (isi d s)),h)
@[simp] theorem cU4 (s:String):YI2 s=fun w x h=>Option.bind (ref h w) fun d=>some (W.d (PyData.bool (isi d s)),h):=rfl
def YNg :W->XR W:=fun w=>match w with
  | W.d (PyData.int i)=>aC (W.d (PyData.int (-i)))
  | x=>xno
@[simp] theorem cU5 :YNg =fun w=>match w with
  | W.d (PyData.int i)=>aC (W.d (PyData.int (-i)))
  | x=>xno:=rfl
def Y1 (a:XR W):XR (List W):=xb a YN
@[simp] theorem cX9 (a:XR W):Y1 a=xb a YN:=rfl
def Y2 (a b:XR W):XR (List W):=xb a fun w=>xb (Y1 b) (YC w)
@[simp] theorem cY0 (a b:XR W):Y2 a b=xb a fun w=>xb (Y1 b) (YC w):=rfl
def Y3 (a b c:XR W):XR (List W):=xb a fun w=>xb (Y2 b c) (YC w)
@[simp] theorem cY1 (a b c:XR W):Y3 a b c=xb a fun w=>xb (Y2 b c) (YC w):=rfl
def Y4 (a b c e:XR W):XR (List W):=xb a fun w=>xb (Y3 b c e) (YC w)
@[simp] theorem cY2 (a b c e:XR W):Y4 a b c e=xb a fun w=>xb (Y3 b c e) (YC w):=rfl
def Y5 (a b c e f:XR W):XR (List W):=xb a fun w=>xb (Y4 b c e f) (YC w)
@[simp] theorem cY3 (a b c e f:XR W):Y5 a b c e f=xb a fun w=>xb (Y4 b c e f) (YC w):=rfl
def Y6 (a b c e f g:XR W):XR (List W):=xb a fun w=>xb (Y5 b c e f g) (YC w)
@[simp] theorem cY4 (a b c e f g:XR W):Y6 a b c e f g=xb a fun w=>xb (Y5 b c e f g) (YC w):=rfl
def Y7 (a b c e f g i:XR W):XR (List W):=xb a fun w=>xb (Y6 b c e f g i) (YC w)
@[simp] theorem cY5 (a b c e f g i:XR W):Y7 a b c e f g i=xb a fun w=>xb (Y6 b c e f g i) (YC w):=rfl
def wU (d:Nat) (w0:W) (h:aA):aD T (d+1) "is_whole" [w0] h =
 YP
 (YP
 (YP
 (xb (xb (aB 0) (YI2 "int"))
 (fun (w:W) =>
 match w with
     | W.d (PyData.bool true) =>
      xb (xb (aB 0) (YI2 "bool")) fun (w:W) =>
 match w with
       | W.d (PyData.bool b)=>aC (W.d (PyData.bool !b))
       | x=>xno
     | W.d (PyData.bool false)=>aC (W.d (PyData.bool false))
     | x=>xno)
 [some w0] h)
 YW)
 YE)
 (aO h):=by kernel_rfl
def rY (d:Nat) (w0 w1 w2:W) (h:aA):aD T (d+1) "is_between" [w0,w1,w2] h =
 YP
 (YP
 (YP
 (xb (xb (Y1 (aB 0)) (YF d "is_whole"))
 (fun (w:W) =>
 match w with
     | W.d (PyData.bool true)=>cG (xC2 CmpOp.LtE CmpOp.LtE (aB 1) (aB 0) (aB 2))
     | W.d (PyData.bool false)=>aC (W.d (PyData.bool false))
     | x=>xno)
 [some w0,some w1,some w2] h)
 YW)
 YE)
 (aO h):=by kernel_rfl
def oV (d:Nat) (w0 w1:W) (h:aA):aD T (d+1) "is_tuple_of" [w0,w1] h =
 YP
 (YP
 (YP
 (xb (xb (aB 0) (YI2 "tuple"))
 (fun (w:W) =>
 match w with
     | W.d (PyData.bool true)=>cG (xC1 CmpOp.Eq (xb (Y1 (aB 0)) (YK aZ)) (aB 1))
     | W.d (PyData.bool false)=>aC (W.d (PyData.bool false))
     | x=>xno)
 [some w0,some w1] h)
 YW)
 YE)
 (aO h):=by kernel_rfl
def uD (d:Nat) (w0:W) (h:aA):aD T (d+1) "are_whole" [w0] h =
 YP
 (YP (YP (xb (Y1 (aM (xb (aU (aB 0)) fun p δ h=>aN (YG 0) (aC true) (xb (Y1 (aB 0)) (YF d "is_whole")) p.2 p.1 p.1 (aP [none] δ) h []))) (YK hX) [some w0] h) YW) YE)
 (aO h):=by kernel_rfl
def rZ (d:Nat) (w0:W) (h:aA):aD T (d+1) "are_rising" [w0] h =
 YP
 (YP
 (YP
 (xb
 (Y1 (aM
 (xb
 (xb (xb (xb (Y1 (aB 0)) (YK aZ)) (YB .Sub 1)) YR)
 fun p δ h=>aN (YG 0) (aC true) (cG (xC1 CmpOp.Lt (xb (aB 1) fun x=>xb (aB 0) (YX x)) (xb (aB 1) fun x=>xb (xb (aB 0) (YB .Add 1)) (YX x)))) p.2 p.1 p.1 (aP [none,some 0] δ) h [])))
 (YK hX) [some w0] h)
 YW)
 YE)
 (aO h):=by kernel_rfl
def aP0 (d:Nat) (w0:W) (h:aA):aD T (d+1) "is_key" [w0] h =
 YP
 (YP (YP (xb (Y3 (aB 0) (YJ 0) (YJ 7)) ((YF d "is_between")) [some w0] h) YW) YE)
 (aO h):=by kernel_rfl
def gU (d:Nat) (w0:W) (h:aA):aD T (d+1) "word_of" [w0] h =
 YP
 (YP
 (YP
 (xb
 (xb (xb (aB 0) (YI2 "tuple")) YD)
 (fun c =>
 if c=true then
 xb (xC1 CmpOp.Gt (xb (Y1 (aB 0)) (YK aZ)) (YJ 0)) fun c =>
 if c=true then
 xb (xb (YV 0 0) (YI2 "str")) YD
 else aC false
 else aC false)
 [some w0] h)
 fun p =>
 if p.1=true then
 YP (YP (xb (aB 0) (YI 0) [some w0] p.2) YW) YE
 else some (Fl.nx [some w0],p.2))
 (YQ fun δ' p =>
 YP (YP (YZ δ' p.2) YW) YE))
 (aO h):=by kernel_rfl
def uE (d:Nat) (w0 w1 w2:W) (h:aA):aD T (d+1) "is_worded" [w0,w1,w2] h =
 YP
 (YP
 (YP
 (xb (cG (xC1 CmpOp.Eq (xb (Y1 (aB 0)) (YF d "word_of")) (aB 1)))
 (fun (w:W) =>
 match w with
     | W.d (PyData.bool true)=>cG (xC1 CmpOp.Eq (xb (Y1 (aB 0)) (YK aZ)) (aB 2))
     | W.d (PyData.bool false)=>aC (W.d (PyData.bool false))
     | x=>xno)
 [some w0,some w1,some w2] h)
 YW)
 YE)
 (aO h):=by kernel_rfl
def uF (d:Nat) (w0:W) (h:aA):aD T (d+1) "is_single" [w0] h =
 YP
 (YP (aQ 1 (xb (Y1 (aB 0)) (YF d "word_of")) [some w0,none] h) (YQ fun δ' p =>
   YP
    (YP
     (xb (kW (fun (z:Str)=>List.lookup z [(Str.ofString "read",0),(Str.ofString "write",1),(Str.ofString "add",1),(Str.ofString "swap",2)]) (aB 1))
      (fun c =>
       if c=true then aC true
       else
        xC1 CmpOp.NotEq (xb (Y1 (aB 0)) (YK aZ))
         (xb (YJ 2) fun (u:W) =>
          xb
           (xb (aB 1) fun (w:W) =>
            match w with
            | W.d (PyData.str z) =>
             match List.lookup z [(Str.ofString "read",0),(Str.ofString "write",1),(Str.ofString "add",1),(Str.ofString "swap",2)] with
             | some i=>aC (W.d (PyData.int i))
             | none=>xno
            | x=>xno)
           (YO .Add u)))
      δ' p.2)
     (YT2 false δ'))
    (YQ fun δ' p =>
     YP
      (YP
       (xb (xb (Y1 (YV 0 1)) (YF d "is_key"))
        (fun (w:W) =>
         match w with
         | W.d (PyData.bool true) =>
          xb
           (Y1 (xb (aB 0) fun (x:W) =>
             xb
              (xb (YJ 2) YU)
              fun (l:Option Int)=>xb (aC none) (YS3 x l)))
           (YF d "are_whole")
         | W.d (PyData.bool false)=>aC (W.d (PyData.bool false))
         | x=>xno)
        δ' p.2)
       YW)
      YE)))
 (aO h):=by kernel_rfl
def aD6 (d:Nat) (w0:W) (h:aA):aD T (d+1) "is_span" [w0] h =
 YP
 (YP
 (YP
 (xb
 (xb
 (xb (xb (Y3 (aB 0) (YS "span") (YJ 3)) (YF d "is_worded")) YD)
 fun (b:Bool)=>aC !b)
 (fun c =>
 if c=true then aC true
 else
 xb
 (xb
 (xb
 (Y1 (xb (aB 0) fun (x:W) =>
 xb
 (xb (YJ 1) YU)
 fun (l:Option Int)=>xb (aC none) (YS3 x l)))
 (YF d "are_whole"))
 YD)
 fun (b:Bool)=>aC !b)
 [some w0] h)
 (YT2 false [some w0]))
 (YQ fun δ' p =>
 YP (YP (cG (xC3 CmpOp.LtE CmpOp.Lt CmpOp.LtE (YJ 0) (YV 0 1) (YV 0 2) (xb (YJ 7) (YB .Add 1))) δ' p.2) YW) YE))
 (aO h):=by kernel_rfl
def aD7 (d:Nat) (w0:W) (h:aA):aD T (d+1) "is_deal" [w0] h =
 YP
 (YP
 (YP
 (xb
 (xb
 (xb (xb (Y3 (aB 0) (YS "deal") (YJ 2)) (YF d "is_worded")) YD)
 fun (b:Bool)=>aC !b)
 (fun c =>
 if c=true then aC true
 else
 xb
 (xb (xb (YV 0 1) (YI2 "tuple")) YD)
 fun (b:Bool)=>aC !b)
 [some w0] h)
 (YT2 false [some w0]))
 (YQ fun δ' p =>
 YP
 (YP
 (xb (cG (xC2 CmpOp.LtE CmpOp.LtE (YJ 1) (xb (Y1 (YV 0 1)) (YK aZ)) (YJ 4)))
 (fun (w:W) =>
 match w with
       | W.d (PyData.bool true)=>xb (Y1 (aM (xb (aU (YV 0 1)) fun p δ h=>aN (YG 0) (aC true) (xb (Y1 (aB 0)) (YF d "is_single")) p.2 p.1 p.1 (aP [none] δ) h []))) (YK hX)
       | W.d (PyData.bool false)=>aC (W.d (PyData.bool false))
       | x=>xno)
 δ' p.2)
 YW)
 YE))
 (aO h):=by kernel_rfl
def aD8 (d:Nat) (w0:W) (h:aA):aD T (d+1) "is_call" [w0] h =
 YP
 (YP
 (YP
 (xb (xb (Y1 (aB 0)) (YF d "is_single"))
 (fun (w:W) =>
 match w with
     | W.d (PyData.bool true)=>aC (W.d (PyData.bool true))
     | W.d (PyData.bool false) =>
      xb (xb (Y1 (aB 0)) (YF d "is_span")) fun (w:W) =>
 match w with
       | W.d (PyData.bool true)=>aC (W.d (PyData.bool true))
       | W.d (PyData.bool false)=>xb (Y1 (aB 0)) (YF d "is_deal")
       | x=>xno
     | x=>xno)
 [some w0] h)
 YW)
 YE)
 (aO h):=by kernel_rfl
def aD9 (d:Nat) (w0:W) (h:aA):aD T (d+1) "is_look" [w0] h =
 YP
 (YP
 (YP
 (xb (xb (Y3 (aB 0) (YS "look") (YJ 2)) (YF d "is_worded"))
 (fun (w:W) =>
 match w with
     | W.d (PyData.bool true)=>xb (Y1 (YV 0 1)) (YF d "is_call")
     | W.d (PyData.bool false)=>aC (W.d (PyData.bool false))
     | x=>xno)
 [some w0] h)
 YW)
 YE)
 (aO h):=by kernel_rfl
def lN (d:Nat) (w0:W) (h:aA):aD T (d+1) "is_value_pair" [w0] h =
 YP
 (YP
 (YP
 (xb (xb (Y2 (aB 0) (YJ 2)) (YF d "is_tuple_of"))
 (fun (w:W) =>
 match w with
     | W.d (PyData.bool true) =>
      xb (xb (Y1 (YV 0 0)) (YF d "is_key")) fun (w:W) =>
 match w with
       | W.d (PyData.bool true)=>xb (Y1 (YV 0 1)) (YF d "is_whole")
       | W.d (PyData.bool false)=>aC (W.d (PyData.bool false))
       | x=>xno
     | W.d (PyData.bool false)=>aC (W.d (PyData.bool false))
     | x=>xno)
 [some w0] h)
 YW)
 YE)
 (aO h):=by kernel_rfl
def aP1 (d:Nat) (w0:W) (h:aA):aD T (d+1) "is_lay" [w0] h =
 YP
 (YP
 (YP
 (xb
 (xb
 (xb (xb (Y3 (aB 0) (YS "lay") (YJ 2)) (YF d "is_worded")) YD)
 fun (b:Bool)=>aC !b)
 (fun c =>
 if c=true then aC true
 else
 xb
 (xb
 (xb (xb (YV 0 1) (YI2 "tuple")) YD)
 fun (b:Bool)=>aC !b)
 fun c=>if c=true then aC true else xC1 CmpOp.Eq (xb (Y1 (YV 0 1)) (YK aZ)) (YJ 0))
 [some w0] h)
 (YT2 false [some w0]))
 (YQ fun δ' p =>
 YP
 (YP
 (xb
 (xb (xb (Y1 (aM (xb (aU (YV 0 1)) fun p δ h=>aN (YG 0) (aC true) (xb (Y1 (aB 0)) (YF d "is_value_pair")) p.2 p.1 p.1 (aP [none] δ) h []))) (YK hX)) YD)
 (fun (b:Bool)=>aC !b) δ' p.2)
 (YT2 false δ'))
 (YQ fun δ' p =>
 YP (YP (xb (Y1 (aM (xb (aU (YV 0 1)) fun p δ h=>aN (YG 0) (aC true) (YV 0 0) p.2 p.1 p.1 (aP [none] δ) h []))) ((YF d "are_rising")) δ' p.2) YW) YE)))
 (aO h):=by kernel_rfl
def aE0 (d:Nat) (w0:W) (h:aA):aD T (d+1) "is_step" [w0] h =
 YP
 (YP
 (YP
 (xb (xb (Y1 (aB 0)) (YF d "is_call"))
 (fun (w:W) =>
 match w with
     | W.d (PyData.bool true)=>aC (W.d (PyData.bool true))
     | W.d (PyData.bool false) =>
      xb (xb (Y1 (aB 0)) (YF d "is_look")) fun (w:W) =>
 match w with
       | W.d (PyData.bool true)=>aC (W.d (PyData.bool true))
       | W.d (PyData.bool false)=>xb (Y1 (aB 0)) (YF d "is_lay")
       | x=>xno
     | x=>xno)
 [some w0] h)
 YW)
 YE)
 (aO h):=by kernel_rfl
def gJ (d:Nat) (w0 w1:W) (h:aA):aD T (d+1) "is_answer" [w0,w1] h =
 YP
 (YP
 (YP
 (xb
 (xb (xb (Y1 (aB 0)) (YF d "is_step")) YD)
 (fun (b:Bool)=>aC !b) [some w0,some w1] h)
 (YT2 false [some w0,some w1]))
 (YQ fun δ' p =>
 YP
 (YP
 (xb (xb (Y3 (aB 1) (YS "refused") (YJ 1)) (YF d "is_worded"))
 (YD)
 δ' p.2)
 fun p =>
 if p.1=true then
 YP (YP (xb (Y1 (aB 0)) ((YF d "is_call")) δ' p.2) YW) YE
 else some (Fl.nx δ',p.2))
 (YQ fun δ' p =>
 YP (YP (xb (Y2 (aB 0) (aB 1)) ((YF d "is_own_answer")) δ' p.2) YW) YE)))
 (aO h):=by kernel_rfl
def aY (d:Nat) (w0 w1:W) (h:aA):aD T (d+1) "is_own_answer" [w0,w1] h =
 YP
 (YP (aQ 2 (YV 0 0) [some w0,some w1,none] h) (YQ fun δ' p =>
 YP
 (YP (xC1 CmpOp.In (aB 2) (xb (xPl (Y2 (YS "read") (YS "add"))) YT) δ' p.2) fun p =>
 if p.1=true then
 YP
 (YP
 (xb (xb (Y3 (aB 1) (YS "got") (YJ 2)) (YF d "is_worded"))
 (fun (w:W) =>
 match w with
          | W.d (PyData.bool true)=>xb (Y1 (YV 1 1)) (YF d "is_whole")
          | W.d (PyData.bool false)=>aC (W.d (PyData.bool false))
          | x=>xno)
 δ' p.2)
 YW)
 YE
 else some (Fl.nx δ',p.2))
 (YQ fun δ' p =>
 YP
 (YP (xC1 CmpOp.In (aB 2) (xb (xPl (Y2 (YS "write") (YS "lay"))) YT) δ' p.2) fun p =>
 if p.1=true then
 YP (YP (xb (Y3 (aB 1) (YS "done") (YJ 1)) ((YF d "is_worded")) δ' p.2) YW) YE
 else some (Fl.nx δ',p.2))
 (YQ fun δ' p =>
 YP
 (YP (xC1 CmpOp.Eq (aB 2) (YS "swap") δ' p.2) fun p =>
 if p.1=true then
 YP
 (YP
 (xb (xb (Y3 (aB 1) (YS "yes") (YJ 1)) (YF d "is_worded"))
 (fun (w:W) =>
 match w with
              | W.d (PyData.bool true)=>aC (W.d (PyData.bool true))
              | W.d (PyData.bool false)=>xb (Y3 (aB 1) (YS "no") (YJ 1)) (YF d "is_worded")
              | x=>xno)
 δ' p.2)
 YW)
 YE
 else some (Fl.nx δ',p.2))
 (YQ fun δ' p =>
 YP
 (YP (xC1 CmpOp.Eq (aB 2) (YS "span") δ' p.2) fun p =>
 if p.1=true then
 YP
 (YP
 (xb (xb (Y3 (aB 1) (YS "all") (YJ 2)) (YF d "is_worded"))
 (fun (w:W) =>
 match w with
                | W.d (PyData.bool true) =>
                 xb (xb (Y2 (YV 1 1) (xb (YV 0 2) fun u=>xb (YV 0 1) (YO .Sub u))) (YF d "is_tuple_of")) fun (w:W) =>
 match w with
                  | W.d (PyData.bool true)=>xb (Y1 (YV 1 1)) (YF d "are_whole")
                  | W.d (PyData.bool false)=>aC (W.d (PyData.bool false))
                  | x=>xno
                | W.d (PyData.bool false)=>aC (W.d (PyData.bool false))
                | x=>xno)
 δ' p.2)
 YW)
 YE
 else some (Fl.nx δ',p.2))
 (YQ fun δ' p =>
 YP
 (YP (xC1 CmpOp.Eq (aB 2) (YS "look") δ' p.2) fun p =>
 if p.1=true then
 YP (YP (xb (Y2 (YV 0 1) (aB 1)) ((YF d "is_own_answer")) δ' p.2) YW) YE
 else some (Fl.nx δ',p.2))
 (YQ fun δ' p =>
 YP
 (YP
 (xb
 (xb
 (xb (xb (Y3 (aB 1) (YS "each") (YJ 2)) (YF d "is_worded")) YD)
 fun (b:Bool)=>aC !b)
 (fun c =>
 if c=true then aC true
 else
 xb
 (xb (xb (Y2 (YV 1 1) (xb (Y1 (YV 0 1)) (YK aZ))) (YF d "is_tuple_of")) YD)
 fun (b:Bool)=>aC !b)
 δ' p.2)
 (YT2 false δ'))
 (YQ fun δ' p =>
 YP
 (YP
 (xb
 (Y1 (aM
 (xb
 (xb (YV 0 1) fun (u:W) =>
 xb (YV 1 1) fun (w:W) (x:DSt) (h:aA) =>
 match gC u,gC w with
                       | some xs,some ys=>some ((jU xs ys,none),h)
                       | x,x_1=>none)
 fun p δ h=>aN (bV [YG 0,YG 1]) (aC true) (xb (Y2 (aB 0) (aB 1)) (YF d "is_own_answer")) p.2 p.1 p.1 (aP [none,none] δ) h [])))
 (YK hX) δ' p.2)
 YW)
 YE))))))))
 (aO h):=by kernel_rfl
def wV (d:Nat) (w0:W) (h:aA):aD T (d+1) "is_stand" [w0] h =
 YP
 (YP
 (YP
 (xb (xb (Y2 (aB 0) (xb (Y1 (aC (W.d (PyData.tuple (List.reverse [PyData.int 0,PyData.int 0,PyData.int 0,PyData.int 0,PyData.int 0,PyData.int 0,PyData.int 0,PyData.int 0]))))) (YK aZ))) (YF d "is_tuple_of"))
 (fun (w:W) =>
 match w with
     | W.d (PyData.bool true)=>xb (Y1 (aB 0)) (YF d "are_whole")
     | W.d (PyData.bool false)=>aC (W.d (PyData.bool false))
     | x=>xno)
 [some w0] h)
 YW)
 YE)
 (aO h):=by kernel_rfl
def sA (d:Nat) (w0 w1 w2:W) (h:aA):aD T (d+1) "with_value" [w0,w1,w2] h =
 YP
 (YP
 (YP
 (xb
 (xb
 (xb (aB 0) fun (x:W) =>
 xb (aC none) fun (l:Option Int) =>
 xb
 (xb (aB 1) YU)
 (YS3 x l))
 fun u=>xb (xb (xPl (Y1 (aB 2))) YT) (YO .Add u))
 (fun (u:W) =>
 xb
 (xb (aB 0) fun (x:W) =>
 xb
 (xb (xb (aB 1) (YB .Add 1)) YU)
 fun (l:Option Int)=>xb (aC none) (YS3 x l))
 (YO .Add u))
 [some w0,some w1,some w2] h)
 YW)
 YE)
 (aO h):=by kernel_rfl
def nN (d:Nat) (w0 w1:W) (h:aA):aD T (d+1) "done" [w0,w1] h =
 YP
 (YP (aQ 2 (YV 1 0) [some w0,some w1,none] h) (YQ fun δ' p =>
 YP
 (YP (xC1 CmpOp.Eq (aB 2) (YS "span") δ' p.2) fun p =>
 if p.1=true then
 YP
 (YP
 (xb
 (xPl
 (Y2 (xb
 (xPl
 (Y2 (YS "all") (xb (aB 0) fun (x:W) =>
 xb
 (xb (YV 1 1) YU)
 fun (l:Option Int) =>
 xb
 (xb (YV 1 2) YU)
 (YS3 x l))))
 YT) (aB 0)))
 (YT) δ' p.2)
 YW)
 YE
 else some (Fl.nx δ',p.2))
 (YQ fun δ' p =>
 YP
 (YP (xC1 CmpOp.Eq (aB 2) (YS "deal") δ' p.2) fun p =>
 if p.1=true then
 YP (YP (xb (Y2 (aB 0) (YV 1 1)) ((YF d "deal_done")) δ' p.2) YW) YE
 else some (Fl.nx δ',p.2))
 (YQ fun δ' p =>
 YP
 (YP (xC1 CmpOp.Eq (aB 2) (YS "look") δ' p.2) fun p =>
 if p.1=true then
 YP (YP (xb (xPl (Y2 (xb (xb (Y2 (aB 0) (YV 1 1)) (YF d "done")) (YI 0)) (aB 0))) (YT) δ' p.2) YW) YE
 else some (Fl.nx δ',p.2))
 (YQ fun δ' p =>
 YP
 (YP (xC1 CmpOp.Eq (aB 2) (YS "lay") δ' p.2) fun p =>
 if p.1=true then
 YP (YP (xb (xPl (Y2 (xb (xPl (Y1 (YS "done"))) YT) (xb (Y2 (aB 0) (YV 1 1)) (YF d "laid")))) (YT) δ' p.2) YW) YE
 else some (Fl.nx δ',p.2))
 (YQ fun δ' p =>
 YP (YP (xb (Y2 (aB 0) (aB 1)) ((YF d "single_done")) δ' p.2) YW) YE))))))
 (aO h):=by kernel_rfl
def cH (d:Nat) (w0 w1:W) (h:aA):aD T (d+1) "single_done" [w0,w1] h =
 YP
 (YP (aQ 2 (YV 1 0) [some w0,some w1,none,none,none] h) (YQ fun δ' p =>
 YP (aQ 3 (YV 1 1) δ' p.2) (YQ fun δ' p =>
 YP (aQ 4 (xb (aB 0) fun x=>xb (aB 3) (YX x)) δ' p.2) (YQ fun δ' p =>
 YP
 (YP (xC1 CmpOp.Eq (aB 2) (YS "write") δ' p.2) fun p =>
 if p.1=true then
 YP (YP (xb (xPl (Y2 (xb (xPl (Y1 (YS "done"))) YT) (xb (Y3 (aB 0) (aB 3) (YV 1 2)) (YF d "with_value")))) (YT) δ' p.2) YW) YE
 else some (Fl.nx δ',p.2))
 (YQ fun δ' p =>
 YP
 (YP (xC1 CmpOp.Eq (aB 2) (YS "add") δ' p.2) fun p =>
 if p.1=true then
 YP (YP (xb (xPl (Y2 (xb (xPl (Y2 (YS "got") (xb (aB 4) fun u=>xb (YV 1 2) (YO .Add u)))) YT) (xb (Y3 (aB 0) (aB 3) (xb (aB 4) fun u=>xb (YV 1 2) (YO .Add u))) (YF d "with_value")))) (YT) δ' p.2) YW) YE
 else some (Fl.nx δ',p.2))
 (YQ fun δ' p =>
 YP
 (YP (xb (xC1 CmpOp.Eq (aB 2) (YS "swap")) (fun c=>if c=true then xC1 CmpOp.Eq (aB 4) (YV 1 2) else aC false) δ' p.2) fun p =>
 if p.1=true then
 YP (YP (xb (xPl (Y2 (xb (xPl (Y1 (YS "yes"))) YT) (xb (Y3 (aB 0) (aB 3) (YV 1 3)) (YF d "with_value")))) (YT) δ' p.2) YW) YE
 else some (Fl.nx δ',p.2))
 (YQ fun δ' p =>
 YP
 (YP (xC1 CmpOp.Eq (aB 2) (YS "swap") δ' p.2) fun p =>
 if p.1=true then
 YP (YP (xb (xPl (Y2 (xb (xPl (Y1 (YS "no"))) YT) (aB 0))) (YT) δ' p.2) YW) YE
 else some (Fl.nx δ',p.2))
 (YQ fun δ' p =>
 YP (YP (xb (xPl (Y2 (xb (xPl (Y2 (YS "got") (aB 4))) YT) (aB 0))) (YT) δ' p.2) YW) YE))))))))
 (aO h):=by kernel_rfl
@[simp] def kH (d:Nat) (x:DSt) (x_1:aA):Option (Fl×aA) :=
 YP (aQ 4 (xb (Y2 (aB 0) (aB 3)) (YF d "single_done")) x x_1) (YQ fun δ' p =>
 YP (YP (xb (aB 2) ((YA (Y1 (YV 4 0)))) δ' p.2) fun p=>some (Fl.nx δ',p.2)) (YQ fun δ' p =>
 YP (aQ 0 (YV 4 1) δ' p.2) YE))
def uG (d:Nat) (w0 w1:W) (h:aA):aD T (d+1) "deal_done" [w0,w1] h =
 YP
 (YP (aQ 2 (aS (xPl (aC []))) [some w0,some w1,none,none,none] h) (YQ fun δ' p =>
 YP
 (YP (aU (aB 1) δ' p.2) fun (p:(List PyData×Option Nat)×aA) =>
 aX (YG 3)
 (kH d)
 (Prod.snd p.1) (Prod.fst p.1) (Prod.fst p.1) δ' p.2)
 (YQ fun δ' p =>
 YP (YP (xb (xPl (Y2 (xb (xPl (Y2 (YS "each") (xb (Y1 (aB 2)) (YK bG)))) YT) (aB 0))) (YT) δ' p.2) YW) YE)))
 (aO h):=by kernel_rfl
def bQ4 (d:Nat) (w0 w1:W) (h:aA):aD T (d+1) "laid" [w0,w1] h =
 YP
 (YP
 (YP (aU (aB 1) [some w0,some w1,none,none] h) fun (p:(List PyData×Option Nat)×aA) =>
 aX (bV [YG 2,YG 3])
 (fun (x:DSt) (x_1:aA) =>
 YP (aQ 0 (xb (Y3 (aB 0) (aB 2) (aB 3)) (YF d "with_value")) x x_1) YE)
 (Prod.snd p.1) (Prod.fst p.1) (Prod.fst p.1) [some w0,some w1,none,none] p.2)
 (YQ fun δ' p =>
 YP (YP (aB 0 δ' p.2) YW) YE))
 (aO h):=by kernel_rfl
def qM (d:Nat) (w0:W) (h:aA):aD T (d+1) "is_item" [w0] h =
 YP
 (YP
 (YP
 (xb
 (xb
 (xb (xb (Y2 (aB 0) (YJ 3)) (YF d "is_tuple_of")) YD)
 fun (b:Bool)=>aC !b)
 (fun c =>
 if c=true then aC true
 else
 xb
 (xb (xb (Y1 (YV 0 0)) (YF d "is_step")) YD)
 fun (b:Bool)=>aC !b)
 [some w0] h)
 (YT2 false [some w0]))
 (YQ fun δ' p =>
 YP
 (YP
 (xb (xC1 CmpOp.IsNot (YV 0 1) (YZ))
 (fun c =>
 if c=true then
 xb
 (xb (xb (Y2 (YV 0 0) (YV 0 1)) (YF d "is_answer")) YD)
 fun (b:Bool)=>aC !b
 else aC false)
 δ' p.2)
 (YT2 false δ'))
 (YQ fun δ' p =>
 YP
 (YP
 (xb (xb (YV 0 2) (YI2 "str"))
 (fun (w:W) =>
 match w with
         | W.d (PyData.bool true)=>cG (xC1 CmpOp.In (YV 0 2) (aC (W.d (PyData.tuple (List.reverse [PyData.str (Str.ofString "out"),PyData.str (Str.ofString "may"),PyData.str (Str.ofString "must")])))))
         | W.d (PyData.bool false)=>aC (W.d (PyData.bool false))
         | x=>xno)
 δ' p.2)
 YW)
 YE)))
 (aO h):=by kernel_rfl
def uH (d:Nat) (w0:W) (h:aA):aD T (d+1) "are_items" [w0] h =
 YP
 (YP
 (YP
 (xb (xb (aB 0) (YI2 "tuple"))
 (fun (w:W) =>
 match w with
     | W.d (PyData.bool true) =>
      xb (cG (xC1 CmpOp.LtE (xb (Y1 (aB 0)) (YK aZ)) (YJ 120))) fun (w:W) =>
 match w with
       | W.d (PyData.bool true)=>xb (Y1 (aM (xb (aU (aB 0)) fun p δ h=>aN (YG 0) (aC true) (xb (Y1 (aB 0)) (YF d "is_item")) p.2 p.1 p.1 (aP [none] δ) h []))) (YK hX)
       | W.d (PyData.bool false)=>aC (W.d (PyData.bool false))
       | x=>xno
     | W.d (PyData.bool false)=>aC (W.d (PyData.bool false))
     | x=>xno)
 [some w0] h)
 YW)
 YE)
 (aO h):=by kernel_rfl
def oW (d:Nat) (w0 w1:W) (h:aA):aD T (d+1) "are_numbers" [w0,w1] h =
 YP
 (YP (YP (xb (Y1 (aM (xb (aU (aB 0)) fun p δ h=>aN (YG 0) (aC true) (xb (Y3 (aB 0) (YJ 0) (xb (aB 1) (YB .Sub 1))) (YF d "is_between")) p.2 p.1 p.1 (aP [none,some 1] δ) h []))) (YK hX) [some w0,some w1] h) YW) YE)
 (aO h):=by kernel_rfl
def sB (d:Nat) (w0 w1 w2:W) (h:aA):aD T (d+1) "are_unlike" [w0,w1,w2] h =
 YP
 (YP
 (YP
 (xb (xb (Y2 (aB 0) (aB 1)) (YF d "is_tuple_of"))
 (fun (w:W) =>
 match w with
     | W.d (PyData.bool true) =>
      xb (xb (Y2 (aB 0) (aB 2)) (YF d "are_numbers")) fun (w:W) =>
 match w with
       | W.d (PyData.bool true)=>cG (xC1 CmpOp.Eq (xb (Y1 (aB 0)) fun (ws:List W) (x:DSt) (h:aA)=>xLS ws h) (aB 1))
       | W.d (PyData.bool false)=>aC (W.d (PyData.bool false))
       | x=>xno
     | W.d (PyData.bool false)=>aC (W.d (PyData.bool false))
     | x=>xno)
 [some w0,some w1,some w2] h)
 YW)
 YE)
 (aO h):=by kernel_rfl
def uI (d:Nat) (w0 w1:W) (h:aA):aD T (d+1) "are_pairs" [w0,w1] h =
 YP
 (YP
 (YP
 (xb
 (xb
 (xb (xb (aB 0) (YI2 "tuple")) YD)
 fun (b:Bool)=>aC !b)
 (fun c=>if c=true then aC true else xC1 CmpOp.Gt (xb (Y1 (aB 0)) (YK aZ)) (YJ 4000)) [some w0,some w1] h)
 (YT2 false [some w0,some w1]))
 (YQ fun δ' p =>
 YP (YP (xb (Y1 (aM (xb (aU (aB 0)) fun p δ h=>aN (YG 0) (aC true) (xb (Y3 (aB 0) (YJ 2) (aB 1)) (YF d "are_unlike")) p.2 p.1 p.1 (aP [none,some 1] δ) h []))) (YK hX) δ' p.2) YW) YE))
 (aO h):=by kernel_rfl
def oX (d:Nat) (w0 w1:W) (h:aA):aD T (d+1) "are_triples" [w0,w1] h =
 YP
 (YP
 (YP
 (xb
 (xb
 (xb (xb (aB 0) (YI2 "tuple")) YD)
 fun (b:Bool)=>aC !b)
 (fun c=>if c=true then aC true else xC1 CmpOp.Gt (xb (Y1 (aB 0)) (YK aZ)) (YJ 4000)) [some w0,some w1] h)
 (YT2 false [some w0,some w1]))
 (YQ fun δ' p =>
 YP
 (YP
 (xb
 (xb (xb (Y1 (aM (xb (aU (aB 0)) fun p δ h=>aN (YG 0) (aC true) (xb (Y3 (aB 0) (YJ 3) (xb (Y1 (aB 1)) (YK aZ))) (YF d "are_unlike")) p.2 p.1 p.1 (aP [none,some 1] δ) h []))) (YK hX)) YD)
 (fun (b:Bool)=>aC !b) δ' p.2)
 (YT2 false δ'))
 (YQ fun δ' p =>
 YP
 (YP
 (xb
 (Y1 (aM
 (xb (aU (aB 0)) fun p δ h =>
 aN (bV [YG 0,YG 1,YG 2]) (aC true)
 (xb (cG (xC1 CmpOp.Eq (xb (xb (aB 3) fun x=>xb (aB 0) (YX x)) (YI 2)) (YS "must"))) fun (w:W) =>
 match w with
             | W.d (PyData.bool true)=>cG (xC1 CmpOp.Eq (xb (xb (aB 3) fun x=>xb (aB 1) (YX x)) (YI 2)) (YS "must"))
             | W.d (PyData.bool false)=>aC (W.d (PyData.bool false))
             | x=>xno)
 p.2 p.1 p.1 (aP [none,none,none,some 1] δ) h [])))
 (YK hX) δ' p.2)
 YW)
 YE)))
 (aO h):=by kernel_rfl
def sC (d:Nat) (w0:W) (h:aA):aD T (d+1) "is_problem" [w0] h =
 YP
 (YP
 (YP
 (xb
 (xb
 (xb (xb (Y2 (aB 0) (YJ 4)) (YF d "is_tuple_of")) YD)
 fun (b:Bool)=>aC !b)
 (fun c =>
 if c=true then aC true
 else
 xb
 (xb
 (xb (xb (Y1 (YV 0 0)) (YF d "is_stand")) YD)
 fun (b:Bool)=>aC !b)
 fun c =>
 if c=true then aC true
 else
 xb
 (xb (xb (Y1 (YV 0 1)) (YF d "are_items")) YD)
 fun (b:Bool)=>aC !b)
 [some w0] h)
 (YT2 false [some w0]))
 (YQ fun δ' p =>
 YP
 (YP
 (xb (xb (Y2 (YV 0 2) (xb (Y1 (YV 0 1)) (YK aZ))) (YF d "are_pairs"))
 (fun (w:W) =>
 match w with
       | W.d (PyData.bool true)=>xb (Y2 (YV 0 3) (YV 0 1)) (YF d "are_triples")
       | W.d (PyData.bool false)=>aC (W.d (PyData.bool false))
       | x=>xno)
 δ' p.2)
 YW)
 YE))
 (aO h):=by kernel_rfl
def lO (d:Nat) (w0:W) (h:aA):aD T (d+1) "check_problem" [w0] h =
 YP
 (YP
 (YP
 (xb
 (xb (xb (Y1 (aB 0)) (YF d "is_problem")) YD)
 (fun (b:Bool)=>aC !b) [some w0] h)
 fun p =>
 if p.1=true then
 YP none YE
 else some (Fl.nx [some w0],p.2))
 YE)
 (aO h):=by kernel_rfl
def wW (d:Nat) (w0 w1:W) (h:aA):aD T (d+1) "may_come" [w0,w1] h =
 YP
 (YP
 (YP
 (xb (xb (Y1 (aB 0)) (YCw d "ways_of"))
 ((YH d "followers" (Y1 (xb (Y1 (aB 1)) (YCw d "marked")))))
 [some w0,some w1] h)
 YW)
 YE)
 (aO h):=by kernel_rfl
def aP2 (d:Nat) (w0 w1 w2:W) (h:aA):aD T (d+1) "behind" [w0,w1,w2] h =
 YP
 (YP
 (YP
 (xb (xb (Y1 (aB 0)) (YCw d "ways_of"))
 ((YH d "stand_behind" (Y2 (aB 1) (aB 2))))
 [some w0,some w1,some w2] h)
 YW)
 YE)
 (aO h):=by kernel_rfl
def aE1 (d:Nat) (w0 w1:W) (h:aA):aD T (d+1) "is_node" [w0,w1] h =
 YP
 (YP
 (YP
 (xb
 (xb
 (xb (xb (Y2 (aB 0) (YJ 2)) (YF d "is_tuple_of")) YD)
 fun (b:Bool)=>aC !b)
 (fun c =>
 if c=true then aC true
 else
 xb
 (xb
 (xb (xb (YV 0 0) (YI2 "tuple")) YD)
 fun (b:Bool)=>aC !b)
 fun c =>
 if c=true then aC true
 else
 xb
 (xb (xb (Y1 (YV 0 1)) (YF d "is_stand")) YD)
 fun (b:Bool)=>aC !b)
 [some w0,some w1] h)
 (YT2 false [some w0,some w1]))
 (YQ fun δ' p =>
 YP
 (YP
 (xb (xb (Y2 (YV 0 0) (aB 1)) (YF d "are_numbers"))
 (fun (w:W) =>
 match w with
       | W.d (PyData.bool true)=>xb (Y1 (YV 0 0)) (YF d "are_rising")
       | W.d (PyData.bool false)=>aC (W.d (PyData.bool false))
       | x=>xno)
 δ' p.2)
 YW)
 YE))
 (aO h):=by kernel_rfl
def sD (d:Nat) (w0:W) (h:aA):aD T (d+1) "first_node" [w0] h =
 YP
 (YP
 (YP
 (xb
 (xPl
 (Y2 (xb (xPl (aC [])) YT) (xb (aB 0) (YL "first"))))
 (YT) [some w0] h)
 YW)
 YE)
 (aO h):=by kernel_rfl
def aE2 (d:Nat) (w0 w1:W) (h:aA):aD T (d+1) "is_last" [w0,w1] h =
 YP
 (YP
 (YP
 (cG
 (xC1 CmpOp.Eq
 (xb
 (Y1 (xb (aB 0) (YH d "missing" (Y1 (xb (Y1 (YV 1 0)) (YCw d "marked"))))))
 (YK aZ))
 (YJ 0))
 [some w0,some w1] h)
 YW)
 YE)
 (aO h):=by kernel_rfl
@[simp] def gX (d:Nat) (x:DSt) (x_1:aA):Option (Fl×aA) :=
 YP
 (aQ 4
 (xb (aB 0) (YH d "stand_behind" (Y2 (YV 1 1) (aB 3))))
 x x_1)
 (YQ fun δ' p =>
 YP
 (YP (xC1 CmpOp.IsNot (aB 4) (YZ) δ' p.2) fun p =>
 if p.1=true then
 YP (YP (xb (aB 2) ((YA (Y1 (xb (xPl (Y2 (aB 3) (xb (xPl (Y2 (xb (Y1 (aM (xb (Y1 (xb (YV 1 0) fun u=>xb (xb (xPl (Y1 (aB 3))) YT) (YO .Add u))) fun (ws:List W) (x:DSt) (h:aA)=>rF ws h))) (YK bG)) (aB 4))) YT))) YT)))) δ' p.2) fun p=>some (Fl.nx δ',p.2)) YE
 else some (Fl.nx δ',p.2))
 YE)
def nO (d:Nat) (w0 w1:W) (h:aA):aD T (d+1) "nodes_behind" [w0,w1] h =
 YP
 (YP (aQ 2 (aS (xPl (aC []))) [some w0,some w1,none,none,none] h) (YQ fun δ' p =>
 YP
 (YP
 (aU
 (xb (aB 0) (YH d "followers" (Y1 (xb (Y1 (YV 1 0)) (YCw d "marked")))))
 δ' p.2)
 fun (p:(List PyData×Option Nat)×aA) =>
 aX (YG 3)
 (gX d)
 (Prod.snd p.1) (Prod.fst p.1) (Prod.fst p.1) δ' p.2)
 (YQ fun δ' p =>
 YP (YP (aB 2 δ' p.2) YW) YE)))
 (aO h):=by kernel_rfl
def nP (d:Nat) (w0 w1:W) (h:aA):aD T (d+1) "stands_fault" [w0,w1] h =
 YP
 (YP (YP (xb (Y2 (xb (Y1 (aB 0)) (YCw d "ways_of")) (aB 1)) ((YF d "nodes_fault")) [some w0,some w1] h) YW) YE)
 (aO h):=by kernel_rfl
@[simp] def iJ (d:Nat) (x:DSt) (x_1:aA):Option (Fl×aA) :=
 YP
 (YP
 (xb (xb (Y2 (aB 0) (aB 5)) (YF d "is_last"))
 (YD)
 x x_1)
 fun p =>
 if p.1=true then
 YP (YP (xb (xPl (Y2 (YS "last") (aB 2))) (YT) x p.2) YW) YE
 else some (Fl.nx x,p.2))
 (YQ fun δ' p =>
 YP (aQ 6 (aM (xb (aU (xb (Y2 (aB 0) (aB 5)) (YF d "nodes_behind"))) fun p δ h=>aN (bV [YG 0,YG 1]) (xC1 CmpOp.NotIn (aB 1) (aB 2)) (aB 0) p.2 p.1 p.1 (aP [none,none,some 4] δ) h [])) δ' p.2) (YQ fun δ' p =>
 YP
 (YP (xC1 CmpOp.Gt (xb (Y1 (aB 6)) (YK aZ)) (YJ 0) δ' p.2) fun p =>
 if p.1=true then
 YP (YP (xb (xPl (Y3 (YS "next") (aB 2) (YV 6 0))) (YT) δ' p.2) YW) YE
 else some (Fl.nx δ',p.2))
 YE))
@[simp] def iK (d:Nat) (x:DSt) (x_1:aA):Option (Fl×aA) :=
 YP
 (YP
 (xb
 (xb
 (xb
 (Y2 (aB 3) (xb
 (Y1 (xb (aB 0) (YL "listed")))
 (YK aZ)))
 (YF d "is_node"))
 YD)
 (fun (b:Bool)=>aC !b) x x_1)
 fun p =>
 if p.1=true then
 YP (YP (xb (xPl (Y2 (YS "form") (aB 2))) (YT) x p.2) YW) YE
 else some (Fl.nx x,p.2))
 YE
def oY (d:Nat) (w0 w1:W) (h:aA):aD T (d+1) "nodes_fault" [w0,w1] h =
 YP
 (YP
 (YP
 (xb
 (xb (xb (aB 1) fun (w:W) (x:DSt) (h:aA)=>YP (ref h w) fun (d:PyData)=>some (W.d (PyData.bool (isi d "list"||isi d "tuple")),h)) YD)
 (fun (b:Bool)=>aC !b) [some w0,some w1,none,none,none,none,none] h)
 fun p =>
 if p.1=true then
 YP (YP (xb (xPl (Y2 (YS "form") (YJ 0))) (YT) [some w0,some w1,none,none,none,none,none] p.2) YW) YE
 else some (Fl.nx [some w0,some w1,none,none,none,none,none],p.2))
 (YQ fun δ' p =>
 YP
 (YP
 (xb (aB 1)
 (fun (u:W) (x:DSt) (h:aA) =>
 match gC u with
       | some xs=>some ((eT xs,none),h)
       | none=>none)
 δ' p.2)
 fun (p:(List PyData×Option Nat)×aA) =>
 aX (bV [YG 2,YG 3])
 (iK d)
 (Prod.snd p.1) (Prod.fst p.1) (Prod.fst p.1) δ' p.2)
 (YQ fun δ' p =>
 YP (aQ 4 (xb (Y1 (aB 1)) (YCw d "marked")) δ' p.2) (YQ fun δ' p =>
 YP
 (YP (xC1 CmpOp.NotIn (xb (Y1 (aB 0)) (YF d "first_node")) (aB 4) δ' p.2) fun p =>
 if p.1=true then
 YP (YP (xb (xPl (Y1 (YS "first"))) (YT) δ' p.2) YW) YE
 else some (Fl.nx δ',p.2))
 (YQ fun δ' p =>
 YP
 (YP
 (xb (aB 1)
 (fun (u:W) (x:DSt) (h:aA) =>
 match gC u with
             | some xs=>some ((eT xs,none),h)
             | none=>none)
 δ' p.2)
 fun (p:(List PyData×Option Nat)×aA) =>
 aX (bV [YG 2,YG 5])
 (iJ d)
 (Prod.snd p.1) (Prod.fst p.1) (Prod.fst p.1) δ' p.2)
 (YQ fun δ' p =>
 YP (YP (YZ δ' p.2) YW) YE))))))
 (aO h):=by kernel_rfl
def aP3 (d:Nat) (w0 w1:W) (h:aA):aD T (d+1) "search" [w0,w1] h =
 YP
 (YP (YP (xb (Y2 (xb (Y1 (aB 0)) (YCw d "ways_of")) (aB 1)) ((YF d "searched")) [some w0,some w1] h) YW) YE)
 (aO h):=by kernel_rfl
@[simp] def lP (d:Nat) (x:DSt) (x_1:aA):Option (Fl×aA) :=
 YP
 (YP (xC1 CmpOp.Gt (xb (Y1 (aB 2)) (YK aZ)) (aB 1) x x_1) fun p =>
 if p.1=true then
 YP (YP (xb (xPl (Y1 (YS "more"))) (YT) x p.2) YW) YE
 else some (Fl.nx x,p.2))
 (YQ fun δ' p =>
 YP
 (YP
 (xC1 CmpOp.Eq
 (xb
 (Y1 (xb (aB 4) fun (x:W) =>
 xb
 (xb (YJ 1) YNg)
 (YX x)))
 (YK aZ))
 (YJ 0) δ' p.2)
 fun p =>
 if p.1=true then
 YP (YP (xb (aB 4) (fun (w:W) (x:DSt) (h:aA)=>rH w h) δ' p.2) fun p=>some (Fl.nx δ',p.2)) (YQ fun δ' p =>
 YP
 (aQ 3
 (aS
 (xb (aB 3) fun (x:W) =>
 xb (aC none) fun (l:Option Int) =>
 xb
 (xb
 (xb (YJ 1) YNg)
 YU)
 fun (u:Option Int) (x_2:DSt) (h:aA) =>
 match ref h x with
             | some (PyData.list xs)=>some (cut xs l u,h)
             | x=>none))
 δ' p.2)
 (YQ fun δ' p =>
 YP (some (Fl.ct δ',p.2)) YE))
 else some (Fl.nx δ',p.2))
 (YQ fun δ' p =>
 YP
 (aQ 5
 (xb
 (xb (aB 4) fun (x:W) =>
 xb
 (xb (YJ 1) YNg)
 (YX x))
 fun (w:W) (x:DSt) (h:aA)=>rH w h)
 δ' p.2)
 (YQ fun δ' p =>
 YP
 (YP (xC1 CmpOp.In (YV 5 1) (aB 2) δ' p.2) fun p =>
 if p.1=true then
 YP (some (Fl.ct δ',p.2)) YE
 else some (Fl.nx δ',p.2))
 (YQ fun δ' p =>
 YP (YP (xb (aB 3) ((YA (Y1 (YV 5 0)))) δ' p.2) fun p=>some (Fl.nx δ',p.2)) (YQ fun δ' p =>
 YP
 (YP
 (xb (xb (Y2 (aB 0) (YV 5 1)) (YF d "is_last"))
 (YD)
 δ' p.2)
 fun p =>
 if p.1=true then
 YP (YP (xb (xPl (Y2 (YS "row") (xb (Y1 (aB 3)) (YK bG)))) (YT) δ' p.2) YW) YE
 else some (Fl.nx δ',p.2))
 (YQ fun δ' p =>
 YP
 (YP (aC (W.d (PyData.bool true)) δ' p.2) fun p =>
 YP
 (YP (aB 2 δ' p.2) fun (p_1:W×aA) =>
 YP (xb (aB 5) (YI 1) δ' (p_1.2)) fun (q:W×aA) =>
 match p_1.1,q.1,p.1 with
               | W.c j,W.d y,W.d x=>rI j y x δ' (q.2)
               | x,x_2,x_3=>none)
 fun (q:DSt×aA)=>some (Fl.nx (q.1),q.2))
 (YQ fun δ' p =>
 YP (YP (xb (aB 4) ((YA (Y1 (xb (Y2 (aB 0) (YV 5 1)) (YCw d "waiting"))))) δ' p.2) fun p=>some (Fl.nx δ',p.2)) YE)))))))
def wX (d:Nat) (w0 w1:W) (h:aA):aD T (d+1) "searched" [w0,w1] h =
 YP
 (YP
 (YP
 (xb (xb (Y2 (aB 0) (xb (Y1 (aB 0)) (YF d "first_node"))) (YF d "is_last"))
 (YD)
 [some w0,some w1,none,none,none,none] h)
 fun p =>
 if p.1=true then
 YP (YP (xb (xPl (Y2 (YS "row") (xb (xPl (aC [])) YT))) (YT) [some w0,some w1,none,none,none,none] p.2) YW) YE
 else some (Fl.nx [some w0,some w1,none,none,none,none],p.2))
 (YQ fun δ' p =>
 YP (aQ 2 (yC (xb (Y1 (aB 0)) (YF d "first_node")) (aC (W.d (PyData.bool true)))) δ' p.2) (YQ fun δ' p =>
 YP (aQ 3 (aS (xPl (aC []))) δ' p.2) (YQ fun δ' p =>
 YP (aQ 4 (yD (xb (Y2 (aB 0) (xb (Y1 (aB 0)) (YF d "first_node"))) (YCw d "waiting"))) δ' p.2) (YQ fun δ' p =>
 YP
 (bR (xC1 CmpOp.Gt (xb (Y1 (aB 4)) (YK aZ)) (YJ 0))
 (lP d)
 100000 δ' p.2)
 (YQ fun δ' p =>
 YP
 (YP
 (xb
 (xPl
 (Y2 (YS "stands") (aM
 (xb (Y1 (aB 2)) fun (ws:List W) (x:DSt) (h:aA) =>
 match ws with
                    | [w] =>
                     match ref h w with
                     | some (PyData.list xs)=>some (xs,h)
                     | some (PyData.tuple xs)=>some (xs,h)
                     | none=>Option.map (fun (kvs:List (PyData×PyData))=>(List.map (fun (x:PyData×PyData)=>Prod.fst x) kvs,h)) (hW w h)
                     | x=>none
                    | x=>none))))
 (YT) δ' p.2)
 YW)
 YE))))))
 (aO h):=by kernel_rfl
def aE3 (d:Nat) (w0 w1 w2:W) (h:aA):aD T (d+1) "urgency" [w0,w1,w2] h =
 YP
 (YP
 (YP
 (xb
 (xPl
 (Y3 (cG
 (xC1 CmpOp.NotEq
 (xb
 (xb
 (xb (aB 0) (YL "listed"))
 fun x=>xb (YV 2 0) (YX x))
 (YI 2))
 (YS "must"))) (cG (xC1 CmpOp.NotEq (xb (YV 2 1) (YI 1)) (YV 1 1))) (YV 2 0)))
 (YT) [some w0,some w1,some w2] h)
 YW)
 YE)
 (aO h):=by kernel_rfl
def nQ (d:Nat) (w0 w1:W) (h:aA):aD T (d+1) "_law_cell_at" [w0,w1] h =
 YP
 (YP
 (YP (xC1 CmpOp.Lt (aB 1) (xb (Y1 (aB 0)) (YK aZ)) [some w0,some w1] h) fun p =>
 if p.1=true then
 YP (YP (xb (aB 0) (fun x=>xb (aB 1) (YX x)) [some w0,some w1] p.2) YW) YE
 else some (Fl.nx [some w0,some w1],p.2))
 (YQ fun δ' p =>
 YP (YP (YJ 0 δ' p.2) YW) YE))
 (aO h):=by kernel_rfl
def jF (d:Nat) (w0 w1:W) (h:aA):aD T (d+1) "_law_digit" [w0,w1] h =
 YP
 (YP
 (YP (xC1 CmpOp.Eq (xb (Y1 (aB 0)) (YK aZ)) (YJ 1) [some w0,some w1,none,none] h) fun p =>
 if p.1=true then
 YP
 (YP
 (xb (aB 0)
 (fun (w:W) (δ:DSt) (h:aA) =>
 match w with
        | W.c j =>
         match h[j]? with
         | some (Cell.l xs) =>
          YP (xPl (Y2 (xb (YV 0 0) (YB .Mod 2147483647)) (YJ 0)) δ h) fun (p:List PyData×aA) =>
 match p.2[j]? with
           | some (Cell.l xs)=>if List.length xs+List.length p.1<=sizeLine then some (W.d PyData.none,List.set p.2 j (Cell.l (xs++p.1))) else none
           | x=>none
         | x=>none
        | x=>none)
 [some w0,some w1,none,none] p.2)
 fun p=>some (Fl.nx [some w0,some w1,none,none],p.2))
 YE
 else some (Fl.nx [some w0,some w1,none,none],p.2))
 (YQ fun δ' p =>
 YP
 (YP (xC1 CmpOp.Gt (YV 0 0) (YJ 0) δ' p.2) fun p =>
 if p.1=true then
 YP (aQ 2 (xb (YV 0 0) fun u=>xb (aB 1) (YO .Mod u)) δ' p.2) (YQ fun δ' p =>
 YP
 (YP (xb (YV 0 0) (fun u=>xb (aB 1) (YO .FloorDiv u)) δ' p.2) fun p =>
 YP
 (YP (aB 0 δ' p.2) fun (p_1:W×aA) =>
 YP (YJ 0 δ' (p_1.2)) fun (q:W×aA) =>
 match p_1.1,q.1,p.1 with
             | W.c j,W.d y,W.d x=>rI j y x δ' (q.2)
             | x,x_1,x_2=>none)
 fun (q:DSt×aA)=>some (Fl.nx (q.1),q.2))
 (YQ fun δ' p =>
 YP (YP (aB 2 δ' p.2) YW) YE))
 else some (Fl.nx δ',p.2))
 (YQ fun δ' p =>
 YP
 (YP (xb (YV 0 2) ((YB .Add 1)) δ' p.2) fun p =>
 YP
 (YP (aB 0 δ' p.2) fun (p_1:W×aA) =>
 YP (YJ 2 δ' (p_1.2)) fun (q:W×aA) =>
 match p_1.1,q.1,p.1 with
          | W.c j,W.d y,W.d x=>rI j y x δ' (q.2)
          | x,x_1,x_2=>none)
 fun (q:DSt×aA)=>some (Fl.nx (q.1),q.2))
 (YQ fun δ' p =>
 YP (aQ 3 (xb (xb (xb (xb (YV 0 1) fun u=>xb (xb (YJ 7919) fun u=>xb (YV 0 2) (YO .Mult u)) (YO .Add u)) (YB .Add 1)) (YB .Mult 48271)) (YB .Mod 2147483647)) δ' p.2) (YQ fun δ' p =>
 YP (aQ 3 (xb (xb (aB 3) fun u=>xb (xb (xb (aB 3) (YB .FloorDiv 1009)) (YB .Add 69621)) (YO .Mult u)) (YB .Mod 2147483647)) δ' p.2) (YQ fun δ' p =>
 YP (YP (xb (xb (xb (aB 3) fun u=>xb (xb (xb (aB 3) (YB .FloorDiv 2003)) (YB .Add 40692)) (YO .Mult u)) (YB .Mod 2147483399)) (fun u=>xb (aB 1) (YO .Mod u)) δ' p.2) YW) YE))))))
 (aO h):=by kernel_rfl
def fR (d:Nat) (w0:W) (h:aA):aD T (d+1) "_law_value" [w0] h =
 YP
 (YP (YP (xb (aM (xPl (Y3 (xb (Y2 (aB 0) (YJ 3)) (YF d "_law_digit")) (xb (xb (Y2 (aB 0) (YJ 2)) (YF d "_law_digit")) (YB .Sub 1)) (xb (Y2 (aB 0) (xb (YJ 10) (YB .Pow 12))) (YF d "_law_digit"))))) (fun x=>xb (xb (xb (Y2 (aB 0) (YJ 8)) (YF d "_law_digit")) (YB .FloorDiv 3)) (YX x)) [some w0] h) YW) YE)
 (aO h):=by kernel_rfl
def bZ (d:Nat) (w0:W) (h:aA):aD T (d+1) "_law_plain_call" [w0] h =
 YP
 (YP (aQ 1 (xb (Y2 (aB 0) (YJ 4)) (YF d "_law_digit")) [some w0,none,none] h) (YQ fun δ' p =>
 YP (aQ 2 (xb (aM (xPl (Y2 (xb (Y2 (aB 0) (YJ 2)) (YF d "_law_digit")) (xb (Y2 (aB 0) (YJ 8)) (YF d "_law_digit"))))) fun x=>xb (xb (xb (Y2 (aB 0) (YJ 4)) (YF d "_law_digit")) (YB .FloorDiv 3)) (YX x)) δ' p.2) (YQ fun δ' p =>
 YP
 (YP (xC1 CmpOp.Eq (aB 1) (YJ 0) δ' p.2) fun p =>
 if p.1=true then
 YP (YP (xb (xPl (Y2 (YS "read") (aB 2))) (YT) δ' p.2) YW) YE
 else some (Fl.nx δ',p.2))
 (YQ fun δ' p =>
 YP
 (YP (xC1 CmpOp.Eq (aB 1) (YJ 1) δ' p.2) fun p =>
 if p.1=true then
 YP (YP (xb (xPl (Y3 (YS "write") (aB 2) (xb (Y1 (aB 0)) (YF d "_law_value")))) (YT) δ' p.2) YW) YE
 else some (Fl.nx δ',p.2))
 (YQ fun δ' p =>
 YP
 (YP (xC1 CmpOp.Eq (aB 1) (YJ 2) δ' p.2) fun p =>
 if p.1=true then
 YP (YP (xb (xPl (Y3 (YS "add") (aB 2) (xb (Y1 (aB 0)) (YF d "_law_value")))) (YT) δ' p.2) YW) YE
 else some (Fl.nx δ',p.2))
 (YQ fun δ' p =>
 YP (YP (xb (xPl (Y4 (YS "swap") (aB 2) (xb (Y1 (aB 0)) (YF d "_law_value")) (xb (Y1 (aB 0)) (YF d "_law_value")))) (YT) δ' p.2) YW) YE))))))
 (aO h):=by kernel_rfl
def bO (d:Nat) (w0:W) (h:aA):aD T (d+1) "_law_step" [w0] h =
 YP
 (YP (aQ 1 (xb (Y2 (aB 0) (YJ 9)) (YF d "_law_digit")) [some w0,none,none,none,none] h) (YQ fun δ' p =>
   YP
    (YP (xC1 CmpOp.Lt (aB 1) (YJ 5) δ' p.2) fun p =>
     if p.1=true then
      YP (YP (xb (Y1 (aB 0)) ((YF d "_law_plain_call")) δ' p.2) YW) YE
     else some (Fl.nx δ',p.2))
    (YQ fun δ' p =>
     YP
      (YP (xC1 CmpOp.Eq (aB 1) (YJ 5) δ' p.2) fun p =>
       if p.1=true then
        YP (aQ 2 (xb (Y2 (aB 0) (YJ 8)) (YF d "_law_digit")) δ' p.2) (YQ fun δ' p =>
          YP (YP (xb (xPl (Y3 (YS "span") (aB 2) (xb (xb (aB 2) (YB .Add 1)) fun u=>xb (xb (Y2 (aB 0) (xb (YJ 8) fun u=>xb (aB 2) (YO .Sub u))) (YF d "_law_digit")) (YO .Add u)))) (YT) δ' p.2) YW) YE)
       else some (Fl.nx δ',p.2))
      (YQ fun δ' p =>
       YP
        (YP (xC1 CmpOp.Eq (aB 1) (YJ 6) δ' p.2) fun p =>
         if p.1=true then
          YP
           (YP
            (xb
             (xPl
              (Y2 (YS "deal") (xb
                  (Y1 (aM
                    (xb
                     (xb (xb (YJ 1) fun u=>xb (xb (Y2 (aB 0) (YJ 4)) (YF d "_law_digit")) (YO .Add u)) YR)
                     fun p δ h=>aN (YG 0) (aC true) (xb (Y1 (aB 1)) (YF d "_law_plain_call")) p.2 p.1 p.1 (aP [none,some 0] δ) h [])))
                  (YK bG))))
             (YT) δ' p.2)
            YW)
           YE
         else some (Fl.nx δ',p.2))
        (YQ fun δ' p =>
         YP
          (YP (xC1 CmpOp.Eq (aB 1) (YJ 7) δ' p.2) fun p =>
           if p.1=true then
            YP (aQ 2 (xb (Y2 (aB 0) (YJ 8)) (YF d "_law_digit")) δ' p.2) (YQ fun δ' p =>
              YP (aQ 3 (aM (xPl (Y3 (xb (Y1 (aB 0)) (YF d "_law_plain_call")) (xb (xPl (Y3 (YS "span") (aB 2) (YJ 8))) YT) (xb (xPl (Y2 (YS "deal") (xb (xPl (Y2 (xb (Y1 (aB 0)) (YF d "_law_plain_call")) (xb (Y1 (aB 0)) (YF d "_law_plain_call")))) YT))) YT)))) δ' p.2) (YQ fun δ' p =>
                YP (YP (xb (xPl (Y2 (YS "look") (xb (aB 3) fun x=>xb (xb (Y2 (aB 0) (YJ 3)) (YF d "_law_digit")) (YX x)))) (YT) δ' p.2) YW) YE))
           else some (Fl.nx δ',p.2))
          (YQ fun δ' p =>
           YP
            (aQ 4
             (aM
              (xb
               (xb (YJ 8) YR)
               fun p δ h=>aN (YG 0) (xC1 CmpOp.Eq (xb (Y2 (aB 1) (YJ 3)) (YF d "_law_digit")) (YJ 0)) (xb (xPl (Y2 (aB 0) (xb (Y1 (aB 1)) (YF d "_law_value")))) YT) p.2 p.1 p.1 (aP [none,some 0] δ) h []))
             δ' p.2)
            (YQ fun δ' p =>
             YP
              (YP
               (xb
                (xPl
                 (Y2 (YS "lay") (xb
                     (Y1 (xb (aB 4) fun (u:W) =>
                       xb
                        (xb (aM (xPl (Y1 (xb (xPl (Y2 (YJ 7) (xb (Y1 (aB 0)) (YF d "_law_value")))) YT)))) fun (x:W) =>
                         xb
                          (xb
                           (xb
                            (Y1 (xb (cG (xC1 CmpOp.NotEq (aB 4) (aM (xPl (aC []))))) fun (w:W) =>
                              match w with
                              | W.d (PyData.bool true) =>
                               cG
                                (xC1 CmpOp.Eq
                                 (xb
                                  (xb (aB 4) fun (x:W) =>
                                   xb
                                    (xb (YJ 1) YNg)
                                    (YX x))
                                  (YI 0))
                                 (YJ 7))
                              | W.d (PyData.bool false)=>aC (W.d (PyData.bool false))
                              | x=>xno))
                            fun (ws:List W) (x:DSt) (h:aA)=>aH0 ws h)
                           YU)
                          fun (l:Option Int)=>xb (aC none) (YS3 x l))
                        (YO .Add u)))
                     (YK bG))))
                (YT) δ' p.2)
               YW)
              YE)))))))
 (aO h):=by kernel_rfl
def eJ (d:Nat) (w0:W) (h:aA):aD T (d+1) "_law_altered" [w0] h =
 YP
 (YP
 (YP (xC1 CmpOp.Eq (YV 0 0) (YS "got") [some w0] h) fun p =>
 if p.1=true then
 YP (YP (xb (xPl (Y2 (YS "got") (xb (YV 0 1) (YB .Add 1)))) (YT) [some w0] p.2) YW) YE
 else some (Fl.nx [some w0],p.2))
 (YQ fun δ' p =>
 YP
 (YP (xC1 CmpOp.Eq (YV 0 0) (YS "yes") δ' p.2) fun p =>
 if p.1=true then
 YP (YP (xb (xPl (Y1 (YS "no"))) (YT) δ' p.2) YW) YE
 else some (Fl.nx δ',p.2))
 (YQ fun δ' p =>
 YP
 (YP (xC1 CmpOp.Eq (YV 0 0) (YS "no") δ' p.2) fun p =>
 if p.1=true then
 YP (YP (xb (xPl (Y1 (YS "yes"))) (YT) δ' p.2) YW) YE
 else some (Fl.nx δ',p.2))
 (YQ fun δ' p =>
 YP
 (YP (xC1 CmpOp.Eq (YV 0 0) (YS "all") δ' p.2) fun p =>
 if p.1=true then
 YP
 (YP
 (xb
 (xPl
 (Y2 (YS "all") (xb (xb (xPl (Y1 (xb (xb (YV 0 1) (YI 0)) (YB .Sub 1)))) YT) fun (u:W) =>
 xb
 (xb (YV 0 1) fun (x:W) =>
 xb
 (xb (YJ 1) YU)
 fun (l:Option Int)=>xb (aC none) (YS3 x l))
 (YO .Add u))))
 (YT) δ' p.2)
 YW)
 YE
 else some (Fl.nx δ',p.2))
 (YQ fun δ' p =>
 YP
 (YP (xC1 CmpOp.Eq (YV 0 0) (YS "each") δ' p.2) fun p =>
 if p.1=true then
 YP (YP (xb (xPl (Y2 (YS "each") (xb (Y1 (aM (xb (aU (YV 0 1)) fun p δ h=>aN (YG 0) (aC true) (xb (Y1 (aB 0)) (YF d "_law_altered")) p.2 p.1 p.1 (aP [none] δ) h []))) (YK bG)))) (YT) δ' p.2) YW) YE
 else some (Fl.nx δ',p.2))
 (YQ fun δ' p =>
 YP (YP (aB 0 δ' p.2) YW) YE))))))
 (aO h):=by kernel_rfl
@[simp] def jG (d:Nat) (x:DSt) (x_1:aA):Option (Fl×aA) :=
 YP (aQ 7 (xb (Y1 (aB 0)) (YF d "_law_step")) x x_1) (YQ fun δ' p =>
 YP (YP (xb (Y2 (aB 3) (aB 7)) ((YF d "done")) δ' p.2) fun p=>YP (bV [YG 8,YG 3] p.1 δ' p.2) fun (q:DSt×aA)=>some (Fl.nx (q.1),q.2)) (YQ fun δ' p =>
 YP (aQ 9 (xb (Y2 (aB 0) (YJ 7)) (YF d "_law_digit")) δ' p.2) (YQ fun δ' p =>
 YP
 (YP (xC1 CmpOp.Eq (aB 9) (YJ 0) δ' p.2) fun p =>
 if p.1=true then
 YP (aQ 8 (YZ) δ' p.2) YE
 else some (Fl.nx δ',p.2))
 (YQ fun δ' p =>
 YP
 (YP (xC1 CmpOp.Eq (aB 9) (YJ 1) δ' p.2) fun p =>
 if p.1=true then
 YP (aQ 8 (xb (Y1 (aB 8)) (YF d "_law_altered")) δ' p.2) YE
 else some (Fl.nx δ',p.2))
 (YQ fun δ' p =>
 YP
 (YP (xb (xC1 CmpOp.Eq (aB 9) (YJ 2)) (fun c=>if c=true then xb (xC1 CmpOp.NotEq (YV 7 0) (YS "look")) fun c=>if c=true then xb (xC1 CmpOp.NotEq (YV 7 0) (YS "lay")) fun c=>if c=true then xC1 CmpOp.Eq (xb (Y2 (aB 0) (YJ 4)) (YF d "_law_digit")) (YJ 0) else aC false else aC false else aC false) δ' p.2) fun p =>
 if p.1=true then
 YP (aQ 8 (xb (xPl (Y1 (YS "refused"))) YT) δ' p.2) YE
 else some (Fl.nx δ',p.2))
 (YQ fun δ' p =>
 YP (aQ 10 (xb (aM (xPl (Y7 (YS "must") (YS "must") (YS "must") (YS "must") (YS "may") (YS "may") (YS "out")))) fun x=>xb (xb (Y2 (aB 0) (YJ 7)) (YF d "_law_digit")) (YX x)) δ' p.2) (YQ fun δ' p =>
 YP
 (YP (xb (xPl (Y3 (aB 7) (aB 8) (aB 10))) (YT) δ' p.2) fun p =>
 YP
 (YP (aB 5 δ' p.2) fun (p_1:W×aA) =>
 YP
 (xb (aB 4)
 (fun (w:W) (δ:DSt) (h:aA) =>
 match w with
                | W.c j =>
                 match h[j]? with
                 | some (Cell.l xs)=>YP (Y1 (xb (Y2 (aB 0) (xb (Y1 (aB 4)) (YK aZ))) (YF d "_law_digit")) δ h) fun (p:List W×aA)=>aA6 j p.1 p.2
                 | x=>none
                | x=>none)
 δ' (p_1.2))
 fun (q:W×aA) =>
 match p_1.1,q.1,p.1 with
               | W.c j,W.d y,W.d x=>rI j y x δ' (q.2)
               | x,x_2,x_3=>none)
 fun (q:DSt×aA)=>some (Fl.nx (q.1),q.2))
 YE)))))))
def sE (d:Nat) (w0 w1 w2:W) (h:aA):aD T (d+1) "_law_items" [w0,w1,w2] h =
 YP
 (YP (aQ 3 (aB 1) [some w0,some w1,some w2,none,none,none,none,none,none,none,none] h) (YQ fun δ' p =>
 YP
 (aQ 4
 (aS
 (xb (Y1 (aB 2)) fun (ws:List W) (x:DSt) (h:aA) =>
 match ws with
       | [W.d (PyData.int j)]=>if -2^62<=j/\j < 2^62/\j<=16000000 then some (rng 0 (Int.toNat j),h) else none
       | x=>none))
 δ' p.2)
 (YQ fun δ' p =>
 YP (aQ 5 yF δ' p.2) (YQ fun δ' p =>
 YP
 (YP
 (xb (aB 2)
 (YR)
 δ' p.2)
 fun (p:(List PyData×Option Nat)×aA) =>
 aX (YG 6)
 (jG d)
 (Prod.snd p.1) (Prod.fst p.1) (Prod.fst p.1) δ' p.2)
 (YQ fun δ' p =>
 YP
 (YP
 (xb
 (Y1 (aM
 (xb
 (xb (aB 2) YR)
 fun p δ h=>aN (YG 0) (aC true) (xb (aB 1) fun x=>xb (aB 0) (YX x)) p.2 p.1 p.1 (aP [none,some 5] δ) h [])))
 (YK bG) δ' p.2)
 YW)
 YE)))))
 (aO h):=by kernel_rfl
@[simp] def jI (d:Nat) (x:DSt) (x_1:aA):Option (Fl×aA) :=
 YP
 (YP (xC1 CmpOp.Gt (aB 1) (YJ 1) x x_1) fun p =>
 if p.1=true then
 YP (aQ 4 (xb (Y2 (aB 0) (aB 1)) (YF d "_law_digit")) x p.2) (YQ fun δ' p =>
 YP (YP (xb (aB 2) ((YA (Y1 (xb (xPl (Y2 (aB 4) (xb (xb (xb (aB 4) (YB .Add 1)) fun u=>xb (xb (Y2 (aB 0) (xb (aB 1) (YB .Sub 1))) (YF d "_law_digit")) (YO .Add u)) fun u=>xb (aB 1) (YO .Mod u)))) YT)))) δ' p.2) fun p=>some (Fl.nx δ',p.2)) YE)
 else some (Fl.nx x,p.2))
 YE
def sG (d:Nat) (w0 w1:W) (h:aA):aD T (d+1) "_law_pairs" [w0,w1] h =
 YP
 (YP (aQ 2 (aS (xPl (aC []))) [some w0,some w1,none,none,none] h) (YQ fun δ' p =>
 YP
 (YP
 (xb (xb (Y2 (aB 0) (YJ 5)) (YF d "_law_digit"))
 (YR)
 δ' p.2)
 fun (p:(List PyData×Option Nat)×aA) =>
 aX (YG 3)
 (jI d)
 (Prod.snd p.1) (Prod.fst p.1) (Prod.fst p.1) δ' p.2)
 (YQ fun δ' p =>
 YP (YP (xb (Y1 (aB 2)) (YK bG) δ' p.2) YW) YE)))
 (aO h):=by kernel_rfl
@[simp] def gY (d:Nat) (x:DSt) (x_1:aA):Option (Fl×aA) :=
 YP
 (YP (xb (xC1 CmpOp.Gt (xb (Y1 (aB 3)) (YK aZ)) (YJ 1)) (fun c=>if c=true then xC1 CmpOp.Gt (xb (Y1 (aB 1)) (YK aZ)) (YJ 2) else aC false) x x_1) fun p =>
 if p.1=true then
 YP (aQ 2 (xb (Y2 (aB 0) (xb (Y1 (aB 3)) (YK aZ))) (YF d "_law_digit")) x p.2) (YQ fun δ' p =>
 YP (aQ 6 (xb (xb (xb (aB 2) (YB .Add 1)) fun u=>xb (xb (Y2 (aB 0) (xb (xb (Y1 (aB 3)) (YK aZ)) (YB .Sub 1))) (YF d "_law_digit")) (YO .Add u)) fun u=>xb (xb (Y1 (aB 3)) (YK aZ)) (YO .Mod u)) δ' p.2) (YQ fun δ' p =>
 YP
 (aQ 7
 (aM
 (xb
 (xb (xb (Y1 (aB 1)) (YK aZ)) YR)
 fun p δ h=>aN (YG 0) (xb (xC1 CmpOp.NotEq (aB 0) (xb (aB 1) fun x=>xb (aB 2) (YX x))) fun c=>if c=true then xC1 CmpOp.NotEq (aB 0) (xb (aB 1) fun x=>xb (aB 3) (YX x)) else aC false) (aB 0) p.2 p.1 p.1 (aP [none,some 3,some 2,some 6] δ) h []))
 δ' p.2)
 (YQ fun δ' p =>
 YP (YP (xb (aB 4) ((YA (Y1 (xb (xPl (Y3 (xb (aB 3) fun x=>xb (aB 2) (YX x)) (xb (aB 3) fun x=>xb (aB 6) (YX x)) (xb (aB 7) fun x=>xb (xb (Y2 (aB 0) (xb (Y1 (aB 7)) (YK aZ))) (YF d "_law_digit")) (YX x)))) YT)))) δ' p.2) fun p=>some (Fl.nx δ',p.2)) YE)))
 else some (Fl.nx x,p.2))
 YE
def nR (d:Nat) (w0 w1:W) (h:aA):aD T (d+1) "_law_triples" [w0,w1] h =
 YP
 (YP
 (aQ 3
 (aM
 (xb
 (xb (xb (Y1 (aB 1)) (YK aZ)) YR)
 fun p δ h=>aN (YG 0) (xC1 CmpOp.Eq (xb (xb (aB 1) fun x=>xb (aB 0) (YX x)) (YI 2)) (YS "must")) (aB 0) p.2 p.1 p.1 (aP [none,some 1] δ) h []))
 [some w0,some w1,none,none,none,none,none,none] h)
 (YQ fun δ' p =>
 YP (aQ 4 (aS (xPl (aC []))) δ' p.2) (YQ fun δ' p =>
 YP
 (YP
 (xb (xb (Y2 (aB 0) (YJ 4)) (YF d "_law_digit"))
 (YR)
 δ' p.2)
 fun (p:(List PyData×Option Nat)×aA) =>
 aX (YG 5)
 (gY d)
 (Prod.snd p.1) (Prod.fst p.1) (Prod.fst p.1) δ' p.2)
 (YQ fun δ' p =>
 YP (YP (xb (Y1 (aB 4)) (YK bG) δ' p.2) YW) YE))))
 (aO h):=by kernel_rfl
def nS (d:Nat) (w0 w1:W) (h:aA):aD T (d+1) "_law_problem" [w0,w1] h =
 YP
 (YP (aQ 2 (aS (xPl (Y1 (aB 0)))) [some w0,some w1,none,none,none,none] h) (YQ fun δ' p =>
 YP (aQ 3 (xb (Y2 (aB 2) (xb (aB 1) (YB .Add 1))) (YF d "_law_digit")) δ' p.2) (YQ fun δ' p =>
 YP (aQ 4 (aC (W.d (PyData.tuple (List.reverse [PyData.int 0,PyData.int 0,PyData.int 0,PyData.int 0,PyData.int 0,PyData.int 0,PyData.int 0,PyData.int 0])))) δ' p.2) (YQ fun δ' p =>
 YP
 (YP (xC1 CmpOp.Eq (xb (Y2 (aB 2) (YJ 3)) (YF d "_law_digit")) (YJ 0) δ' p.2) fun p =>
 if p.1=true then
 YP
 (aQ 4
 (xb
 (Y1 (aM
 (xb
 (xb (YJ 8) YR)
 fun p δ h=>aN (YG 0) (aC true) (xb (Y1 (aB 1)) (YF d "_law_value")) p.2 p.1 p.1 (aP [none,some 2] δ) h [])))
 (YK bG))
 δ' p.2)
 YE
 else some (Fl.nx δ',p.2))
 (YQ fun δ' p =>
 YP (aQ 5 (xb (Y3 (aB 2) (aB 4) (aB 3)) (YF d "_law_items")) δ' p.2) (YQ fun δ' p =>
 YP (YP (xb (xPl (Y4 (aB 4) (aB 5) (xb (Y2 (aB 2) (aB 3)) (YF d "_law_pairs")) (xb (Y2 (aB 2) (aB 5)) (YF d "_law_triples")))) (YT) δ' p.2) YW) YE))))))
 (aO h):=by kernel_rfl
def nT (d:Nat) (w0 w1:W) (h:aA):aD T (d+1) "_law_ordered" [w0,w1] h =
 YP
 (YP
 (YP (aU (YV 0 2) [some w0,some w1,none,none,none] h) fun (p:(List PyData×Option Nat)×aA) =>
 aX (bV [YG 2,YG 3])
 (fun (x:DSt) (x_1:aA) =>
 YP
 (YP
 (xb (xC1 CmpOp.In (aB 2) (aB 1))
 (fun c =>
 if c=true then
 xb (xC1 CmpOp.In (aB 3) (aB 1)) fun c =>
 if c=true then
 xC1 CmpOp.Gt
 (xb (aB 1) fun (w:W) (δ:DSt) (h:aA) =>
 YP (Y1 (aB 2) δ h) fun (p:List W×aA) =>
 match w,p.1 with
               | W.d (PyData.list xs),[W.d d]=>if (aI 64 (PyData.list xs)&&aI 64 d)=true then Option.map (fun (j:Nat)=>(W.d (PyData.int ↑j),p.2)) (List.findIdx? (fun (z:PyData)=>PyData.eqv z d) xs) else none
               | x,x_2=>none)
 (xb (aB 1) fun (w:W) (δ:DSt) (h:aA) =>
 YP (Y1 (aB 3) δ h) fun (p:List W×aA) =>
 match w,p.1 with
               | W.d (PyData.list xs),[W.d d]=>if (aI 64 (PyData.list xs)&&aI 64 d)=true then Option.map (fun (j:Nat)=>(W.d (PyData.int ↑j),p.2)) (List.findIdx? (fun (z:PyData)=>PyData.eqv z d) xs) else none
               | x,x_2=>none)
 else aC false
 else aC false)
 x x_1)
 (YT2 false x))
 YE)
 (Prod.snd p.1) (Prod.fst p.1) (Prod.fst p.1) [some w0,some w1,none,none,none] p.2)
 (YQ fun δ' p =>
 YP
 (YP (aU (YV 0 3) δ' p.2) fun (p:(List PyData×Option Nat)×aA) =>
 aX (bV [YG 2,YG 3,YG 4])
 (fun (x:DSt) (x_1:aA) =>
 YP
 (YP
 (xb (xC1 CmpOp.In (aB 2) (aB 1))
 (fun c =>
 if c=true then
 xb (xC1 CmpOp.In (aB 3) (aB 1)) fun c =>
 if c=true then
 xb (xC1 CmpOp.In (aB 4) (aB 1)) fun c =>
 if c=true then
 xC2 CmpOp.Lt CmpOp.Lt
 (xb (aB 1) fun (w:W) (δ:DSt) (h:aA) =>
 YP (Y1 (aB 2) δ h) fun (p:List W×aA) =>
 match w,p.1 with
                   | W.d (PyData.list xs),[W.d d]=>if (aI 64 (PyData.list xs)&&aI 64 d)=true then Option.map (fun (j:Nat)=>(W.d (PyData.int ↑j),p.2)) (List.findIdx? (fun (z:PyData)=>PyData.eqv z d) xs) else none
                   | x,x_2=>none)
 (xb (aB 1) fun (w:W) (δ:DSt) (h:aA) =>
 YP (Y1 (aB 4) δ h) fun (p:List W×aA) =>
 match w,p.1 with
                   | W.d (PyData.list xs),[W.d d]=>if (aI 64 (PyData.list xs)&&aI 64 d)=true then Option.map (fun (j:Nat)=>(W.d (PyData.int ↑j),p.2)) (List.findIdx? (fun (z:PyData)=>PyData.eqv z d) xs) else none
                   | x,x_2=>none)
 (xb (aB 1) fun (w:W) (δ:DSt) (h:aA) =>
 YP (Y1 (aB 3) δ h) fun (p:List W×aA) =>
 match w,p.1 with
                   | W.d (PyData.list xs),[W.d d]=>if (aI 64 (PyData.list xs)&&aI 64 d)=true then Option.map (fun (j:Nat)=>(W.d (PyData.int ↑j),p.2)) (List.findIdx? (fun (z:PyData)=>PyData.eqv z d) xs) else none
                   | x,x_2=>none)
 else aC false
 else aC false
 else aC false)
 x x_1)
 (YT2 false x))
 YE)
 (Prod.snd p.1) (Prod.fst p.1) (Prod.fst p.1) δ' p.2)
 (YQ fun δ' p =>
 YP (YP (aC (W.d (PyData.bool true)) δ' p.2) YW) YE)))
 (aO h):=by kernel_rfl
def lQ (d:Nat) (w0 w1:W) (h:aA):aD T (d+1) "_law_answered" [w0,w1] h =
 YP
 (YP (aQ 2 (YV 0 0) [some w0,some w1,none,none,none] h) (YQ fun δ' p =>
 YP
 (YP (aU (aB 1) δ' p.2) fun (p:(List PyData×Option Nat)×aA) =>
 aX (YG 3)
 (fun (x:DSt) (x_1:aA) =>
 YP (YP (xb (Y2 (aB 2) (xb (xb (YV 0 1) fun x=>xb (aB 3) (YX x)) (YI 0))) ((YF d "done")) x x_1) fun p=>YP (bV [YG 4,YG 2] p.1 x p.2) fun (q:DSt×aA)=>some (Fl.nx (q.1),q.2)) (YQ fun δ' p =>
 YP
 (YP (xb (xC1 CmpOp.IsNot (xb (xb (YV 0 1) fun x=>xb (aB 3) (YX x)) (YI 1)) (YZ)) (fun c=>if c=true then xC1 CmpOp.NotEq (aB 4) (xb (xb (YV 0 1) fun x=>xb (aB 3) (YX x)) (YI 1)) else aC false) δ' p.2) (YT2 false δ'))
 YE))
 (Prod.snd p.1) (Prod.fst p.1) (Prod.fst p.1) δ' p.2)
 (YQ fun δ' p =>
 YP (YP (aC (W.d (PyData.bool true)) δ' p.2) YW) YE)))
 (aO h):=by kernel_rfl
def sH (d:Nat) (w0 w1:W) (h:aA):aD T (d+1) "_law_right" [w0,w1] h =
 YP
 (YP
 (YP (xb (xC1 CmpOp.Lt (xb (Y1 (aB 1)) fun (ws:List W) (x:DSt) (h:aA)=>xLS ws h) (xb (Y1 (aB 1)) (YK aZ))) (fun c=>if c=true then aC true else xC1 CmpOp.NotEq (aM (xb (aU (aB 1)) fun p δ h=>aN (YG 0) (xC1 CmpOp.Eq (xb (xb (YV 1 1) fun x=>xb (aB 0) (YX x)) (YI 2)) (YS "out")) (aB 0) p.2 p.1 p.1 (aP [none,some 0] δ) h [])) (aM (xPl (aC [])))) [some w0,some w1] h) (YT2 false [some w0,some w1]))
 (YQ fun δ' p =>
 YP
 (YP
 (xC1 CmpOp.NotEq
 (aM
 (xb
 (xb (xb (Y1 (YV 0 1)) (YK aZ)) YR)
 fun p δ h=>aN (YG 0) (xb (xC1 CmpOp.Eq (xb (xb (YV 1 1) fun x=>xb (aB 0) (YX x)) (YI 2)) (YS "must")) fun c=>if c=true then xC1 CmpOp.NotIn (aB 0) (aB 2) else aC false) (aB 0) p.2 p.1 p.1 (aP [none,some 0,some 1] δ) h []))
 (aM (xPl (aC []))) δ' p.2)
 (YT2 false δ'))
 (YQ fun δ' p =>
 YP
 (YP
 (xb (xb (Y2 (aB 0) (aB 1)) (YF d "_law_ordered"))
 (fun (w:W) =>
 match w with
         | W.d (PyData.bool true)=>xb (Y2 (aB 0) (aB 1)) (YF d "_law_answered")
         | W.d (PyData.bool false)=>aC (W.d (PyData.bool false))
         | x=>xno)
 δ' p.2)
 YW)
 YE)))
 (aO h):=by kernel_rfl
@[simp] def kI (d:Nat) (x:DSt) (x_1:aA):Option (Fl×aA) :=
 YP
 (YP
 (xb (xC1 CmpOp.NotIn (aB 3) (aB 1))
 (fun c =>
 if c=true then
 xb (xC1 CmpOp.NotEq (xb (xb (YV 0 1) fun x=>xb (aB 3) (YX x)) (YI 2)) (YS "out")) fun c =>
 if c=true then
 xb (xb (Y2 (aB 0) (xb (aB 1) fun u=>xb (aM (xPl (Y1 (aB 3)))) (YO .Add u))) (YF d "_law_answered")) YD
 else aC false
 else aC false)
 x x_1)
 fun p =>
 if p.1=true then
 YP
 (aQ 2
 (aS
 (xb (aB 2) fun (u:W) =>
 xb (xb (Y2 (aB 0) (xb (aB 1) fun u=>xb (aM (xPl (Y1 (aB 3)))) (YO .Add u))) (YF d "_law_rows")) fun (w:W) (x:DSt) (h:aA) =>
 match ref h u,ref h w with
         | some (PyData.list xs),some (PyData.list ys)=>if List.length xs+List.length ys<=sizeLine then some (xs++ys,h) else none
         | x,x_2=>none))
 x p.2)
 YE
 else some (Fl.nx x,p.2))
 YE
def uJ (d:Nat) (w0 w1:W) (h:aA):aD T (d+1) "_law_rows" [w0,w1] h =
 YP
 (YP (aQ 2 (aS (xPl (aC []))) [some w0,some w1,none,none] h) (YQ fun δ' p =>
 YP
 (YP
 (xb (xb (Y2 (aB 0) (aB 1)) (YF d "_law_right"))
 (YD)
 δ' p.2)
 fun p =>
 if p.1=true then
 YP (YP (xb (aB 2) ((YA (Y1 (aB 1)))) δ' p.2) fun p=>some (Fl.nx δ',p.2)) YE
 else some (Fl.nx δ',p.2))
 (YQ fun δ' p =>
 YP
 (YP
 (xb (xb (Y1 (YV 0 1)) (YK aZ))
 (YR)
 δ' p.2)
 fun (p:(List PyData×Option Nat)×aA) =>
 aX (YG 3)
 (kI d)
 (Prod.snd p.1) (Prod.fst p.1) (Prod.fst p.1) δ' p.2)
 (YQ fun δ' p =>
 YP (YP (aB 2 δ' p.2) YW) YE))))
 (aO h):=by kernel_rfl
def uK (d:Nat) (w0 w1:W) (h:aA):aD T (d+1) "_law_list" [w0,w1] h =
 YP
 (YP (aQ 2 (aS (xPl (Y1 (aB 1)))) [some w0,some w1,none,none,none,none] h) (YQ fun δ' p =>
 YP (aQ 3 (xb (Y2 (aB 0) (YJ 5000)) (YF d "search")) δ' p.2) (YQ fun δ' p =>
 YP (aQ 4 (xb (Y2 (aB 0) (aB 2)) (YCw d "_law_come")) δ' p.2) (YQ fun δ' p =>
 YP
 (YP (xb (xC1 CmpOp.Eq (YV 3 0) (YS "stands")) (fun c=>if c=true then xC1 CmpOp.Gt (xb (Y2 (aB 2) (YJ 3)) (YF d "_law_digit")) (YJ 0) else aC false) δ' p.2) fun p =>
 if p.1=true then
 YP
 (aQ 4
 (aS
 (xb (Y1 (YV 3 1)) fun (ws:List W) (x:DSt) (h:aA) =>
 match ws with
              | [w] =>
               match ref h w with
               | some (PyData.list xs)=>some (xs,h)
               | some (PyData.tuple xs)=>some (xs,h)
               | none=>Option.map (fun (kvs:List (PyData×PyData))=>(List.map (fun (x:PyData×PyData)=>Prod.fst x) kvs,h)) (hW w h)
               | x=>none
              | x=>none))
 δ' p.2)
 YE
 else some (Fl.nx δ',p.2))
 (YQ fun δ' p =>
 YP (aQ 5 (xb (Y2 (aB 2) (xb (Y1 (aB 4)) (YK aZ))) (YF d "_law_digit")) δ' p.2) (YQ fun δ' p =>
 YP
 (YP (xC1 CmpOp.Eq (xb (Y2 (aB 2) (YJ 2)) (YF d "_law_digit")) (YJ 0) δ' p.2) fun p =>
 if p.1=true then
 YP
 (aQ 4
 (aS
 (xb
 (xb (aB 4) fun (x:W) =>
 xb (aC none) fun (l:Option Int) =>
 xb
 (xb (aB 5) YU)
 (YS3 x l))
 fun (u:W) =>
 xb
 (xb (aB 4) fun (x:W) =>
 xb
 (xb (xb (aB 5) (YB .Add 1)) YU)
 fun (l:Option Int)=>xb (aC none) (YS3 x l))
 fun (w:W) (x:DSt) (h:aA) =>
 match ref h u,ref h w with
                   | some (PyData.list xs),some (PyData.list ys)=>if List.length xs+List.length ys<=sizeLine then some (xs++ys,h) else none
                   | x,x_1=>none))
 δ' p.2)
 YE
 else some (Fl.nx δ',p.2))
 (YQ fun δ' p =>
 YP
 (YP (xb (xC1 CmpOp.Eq (xb (Y2 (aB 2) (YJ 3)) (YF d "_law_digit")) (YJ 0)) (fun c=>if c=true then xC1 CmpOp.NotEq (aB 4) (aM (xPl (aC []))) else aC false) δ' p.2) fun p =>
 if p.1=true then
 YP
 (YP
 (xb (aB 4)
 ((YA (Y1 (xb
 (xPl
 (Y2 (xb
 (xb (aB 4) fun (x:W) =>
 xb
 (xb (YJ 1) YNg)
 (YX x))
 (YI 0)) (YV 0 0)))
 YT))))
 δ' p.2)
 fun p=>some (Fl.nx δ',p.2))
 YE
 else some (Fl.nx δ',p.2))
 (YQ fun δ' p =>
 YP (YP (aB 4 δ' p.2) YW) YE))))))))
 (aO h):=by kernel_rfl
@[simp] def wY (d:Nat) (x:DSt) (x_1:aA):Option (Fl×aA) :=
 YP
 (YP (xb (xC1 CmpOp.Is (xb (Y2 (aB 1) (xb (Y2 (aB 1) (aB 3)) (YF d "_law_list"))) (YF d "stands_fault")) (YZ)) (fun c=>if c=true then xC1 CmpOp.NotEq (aB 2) (aM (xPl (aC []))) else aC false) x x_1) (YT2 false x))
 YE
def cD9 (d:Nat) (w0:W) (h:aA):aD T (d+1) "law" [w0] h =
 YP
 (YP (aQ 1 (xb (Y2 (xb (Y2 (aB 0) (YJ 0)) (YF d "_law_cell_at")) (YJ 5)) (YF d "_law_problem")) [some w0,none,none,none] h) (YQ fun δ' p =>
 YP (aQ 2 (xb (Y2 (aB 1) (aM (xPl (aC [])))) (YF d "_law_rows")) δ' p.2) (YQ fun δ' p =>
 YP
 (YP
 (aU
 (xb (aB 0) fun (x:W) =>
 xb
 (xb (YJ 1) YU)
 fun (l:Option Int) =>
 xb
 (xb (YJ 9) YU)
 (YS3 x l))
 δ' p.2)
 fun (p:(List PyData×Option Nat)×aA) =>
 aX (YG 3)
 (wY d)
 (Prod.snd p.1) (Prod.fst p.1) (Prod.fst p.1) δ' p.2)
 (YQ fun δ' p =>
 YP (YP (aC (W.d (PyData.bool true)) δ' p.2) YW) YE))))
 (aO h):=by kernel_rfl
def wZ (d:Nat) (w0:W) (h:aA):callW T (d+1) "ways_of" [w0] h =
 YP
 (YP (YP (xb (Y1 (aB 0)) ((YF d "check_problem")) [some w0] h) fun p=>some (Fl.nx [some w0],p.2)) (YQ fun δ' p =>
 YP (YP (xb (Y1 (aB 0)) (fun (ws:List W) (x:DSt) (h:aA)=>xMk 280 (callI T d (Str.ofString "Ways")) ws h) δ' p.2) YW) YE))
 dG:=by kernel_rfl
def xA (d:Nat) (w0 w1:W) (h:aA):callW T (d+1) "waiting" [w0,w1] h =
 YP
 (YP (aQ 2 (xb (Y2 (aB 0) (aB 1)) (YF d "nodes_behind")) [some w0,some w1,none] h) (YQ fun δ' p =>
 YP
 (YP
 (aS
 (xb (Y1 (aB 2)) fun (ws:List W) =>
 match ws with
       | [w]=>mQ (xb (Y3 (aB 2) (aB 1) (aB 0)) (YF d "urgency")) [none,some 1,some 0] 0 "waiting.<locals>.<lambda>" ⟨261,29,261,67⟩ w
       | x=>xno)
 δ' p.2)
 YW)
 YE))
 dG:=by kernel_rfl
def qN (d:Nat) (w0:W) (h:aA):callW T (d+1) "marked" [w0] h =
 YP
 (YP (YP (xb (Y1 (aM (xb (aU (aB 0)) fun p δ h=>aN (YG 0) (aC true) (xb (xPl (Y2 (aB 0) (aC (W.d (PyData.bool true))))) YT) p.2 p.1 p.1 (aP [none] δ) h []))) (fun (ws:List W) (x:DSt) (h:aA)=>iS ws h) [some w0] h) YW) YE)
 dG:=by kernel_rfl
@[simp] def jJ (d:Nat) (x:DSt) (x_1:aA):Option (Fl×aA) :=
 YP (YP (xb (aB 2) (fun x=>xb (xb (Y2 (aB 1) (xb (Y1 (aB 2)) (YK aZ))) (YF d "_law_digit")) (YX x)) x x_1) fun p=>YP (bV [YG 4,YG 5] p.1 x p.2) fun (q:DSt×aA)=>some (Fl.nx (q.1),q.2)) (YQ fun δ' p =>
 YP
 (YP (aU (xb (Y2 (aB 0) (aB 4)) (YF d "may_come")) δ' p.2) fun (p:(List PyData×Option Nat)×aA) =>
 aX (YG 6)
 (fun (x:DSt) (x_2:aA) =>
 YP (aQ 7 (xb (Y3 (aB 0) (aB 5) (aB 6)) (YF d "behind")) x x_2) (YQ fun δ' p =>
 YP
 (YP (xb (xC1 CmpOp.IsNot (aB 7) (YZ)) (fun c=>if c=true then xC1 CmpOp.Gt (xb (Y2 (aB 1) (YJ 6)) (YF d "_law_digit")) (YJ 0) else aC false) δ' p.2) fun p =>
 if p.1=true then
 YP (YP (xb (aB 2) ((YA (Y1 (xb (xPl (Y2 (xb (Y1 (aM (xb (Y1 (xb (aB 4) fun u=>xb (xb (xPl (Y1 (aB 6))) YT) (YO .Add u))) fun (ws:List W) (x:DSt) (h:aA)=>rF ws h))) (YK bG)) (aB 7))) YT)))) δ' p.2) fun p=>some (Fl.nx δ',p.2)) YE
 else some (Fl.nx δ',p.2))
 YE))
 (Prod.snd p.1) (Prod.fst p.1) (Prod.fst p.1) δ' p.2)
 YE)
def sJ (d:Nat) (w0 w1:W) (h:aA):callW T (d+1) "_law_come" [w0,w1] h =
 YP
 (YP (aQ 2 (aS (xPl (Y1 (xb (xPl (Y2 (xb (xPl (aC [])) YT) (YV 0 0))) YT)))) [some w0,some w1,none,none,none,none,none,none] h) (YQ fun δ' p =>
 YP
 (YP
 (xb (xb (Y2 (aB 1) (YJ 30)) (YF d "_law_digit"))
 (YR)
 δ' p.2)
 fun (p:(List PyData×Option Nat)×aA) =>
 aX (YG 3)
 (jJ d)
 (Prod.snd p.1) (Prod.fst p.1) (Prod.fst p.1) δ' p.2)
 (YQ fun δ' p =>
 YP
 (YP
 (aS
 (xb (aB 2) fun (x:W) =>
 xb (aC none) fun (l:Option Int) =>
 xb
 (xb (YJ 400) YU)
 fun (u:Option Int) (x_1:DSt) (h:aA) =>
 match ref h x with
           | some (PyData.list xs)=>some (cut xs l u,h)
           | x=>none)
 δ' p.2)
 YW)
 YE)))
 dG:=by kernel_rfl
def bA1 (d:Nat) (w0 w1:W) (h:aA):callI T (d+2) "Ways" [w0,w1] h =
 YP
 (YP
 (YP (xb (aB 1) (YI 0) [some w0,some w1,none,none,none] h) fun p =>
 YP (aB 0 [some w0,some w1,none,none,none] p.2) (YM "first" [some w0,some w1,none,none,none] p.1))
 (YQ fun δ' p =>
 YP
 (YP (xb (aB 1) (YI 1) δ' p.2) fun p =>
 YP (aB 0 δ' p.2) (YM "listed" δ' p.1))
 (YQ fun δ' p =>
 YP
 (YP
 (aM
 (xb
 (xb
 (xb (aB 0) (YL "listed"))
 fun (u:W) (x:DSt) (h:aA) =>
 match gC u with
          | some xs=>some ((eT xs,none),h)
          | none=>none)
 fun p δ h=>aN (bV [YG 0,YG 1]) (xC1 CmpOp.Eq (YV 1 2) (YS "must")) (aB 0) p.2 p.1 p.1 (aP [none,none] δ) h [])
 δ' p.2)
 fun p =>
 YP (aB 0 δ' p.2) (YM "musts" δ' p.1))
 (YQ fun δ' p =>
 YP
 (YP
 (xb
 (aU
 (xb (aB 0) (YL "listed")))
 (fun p δ h=>YP (cM (YG 0) (aC true) (aS (xPl (aC []))) p.2 p.1 p.1 (aP [none] δ) h []) fun (q:List Nat×aA)=>some (W.c (List.length (q.2)),q.2++[Cell.r (q.1)])) δ' p.2)
 fun p =>
 YP (aB 0 δ' p.2) (YM "ahead" δ' p.1))
 (YQ fun δ' p =>
 YP
 (YP
 (xb
 (aU
 (xb (aB 0) (YL "listed")))
 (fun p δ h=>YP (cM (YG 0) (aC true) (aS (xPl (aC []))) p.2 p.1 p.1 (aP [none] δ) h []) fun (q:List Nat×aA)=>some (W.c (List.length (q.2)),q.2++[Cell.r (q.1)])) δ' p.2)
 fun p =>
 YP (aB 0 δ' p.2) (YM "later" δ' p.1))
 (YQ fun δ' p =>
 YP
 (YP
 (xb
 (aU
 (xb (aB 0) (YL "listed")))
 (fun p δ h=>YP (cM (YG 0) (aC true) (aS (xPl (aC []))) p.2 p.1 p.1 (aP [none] δ) h []) fun (q:List Nat×aA)=>some (W.c (List.length (q.2)),q.2++[Cell.r (q.1)])) δ' p.2)
 fun p =>
 YP (aB 0 δ' p.2) (YM "gaps" δ' p.1))
 (YQ fun δ' p =>
 YP
 (YP (aU (YV 1 2) δ' p.2) fun (p:(List PyData×Option Nat)×aA) =>
 aX (bV [YG 2,YG 3])
 (fun (x:DSt) (x_1:aA) =>
 YP
 (YP
 (xb
 (xb
 (xb (aB 0) (YL "later"))
 fun x=>xb (aB 2) (YX x))
 ((YA (Y1 (aB 3)))) x x_1)
 fun p=>some (Fl.nx x,p.2))
 (YQ fun δ' p =>
 YP
 (YP
 (xC1 CmpOp.Eq
 (xb
 (xb
 (xb (aB 0) (YL "listed"))
 fun x=>xb (aB 2) (YX x))
 (YI 2))
 (YS "must") δ' p.2)
 fun p =>
 if p.1=true then
 YP
 (YP
 (xb
 (xb
 (xb (aB 0) (YL "ahead"))
 fun x=>xb (aB 3) (YX x))
 ((YA (Y1 (aB 2)))) δ' p.2)
 fun p=>some (Fl.nx δ',p.2))
 YE
 else some (Fl.nx δ',p.2))
 YE))
 (Prod.snd p.1) (Prod.fst p.1) (Prod.fst p.1) δ' p.2)
 (YQ fun δ' p =>
 YP
 (YP (aU (YV 1 3) δ' p.2) fun (p:(List PyData×Option Nat)×aA) =>
 aX (bV [YG 2,YG 3,YG 4])
 (fun (x:DSt) (x_1:aA) =>
 YP
 (YP
 (xb
 (xb
 (xb (aB 0) (YL "gaps"))
 fun x=>xb (aB 4) (YX x))
 ((YA (Y1 (xb (xPl (Y2 (aB 2) (aB 3))) YT)))) x x_1)
 fun p=>some (Fl.nx x,p.2))
 YE)
 (Prod.snd p.1) (Prod.fst p.1) (Prod.fst p.1) δ' p.2)
 YE))))))))
 dG:=by kernel_rfl
def oZ (d:Nat) (w0 w1 w2:W) (h:aA):callM T (d+1) "may_follow" [w0,w1,w2] h =
 YP
 (YP
 (YP
 (xb (xC1 CmpOp.In (aB 2) (aB 1))
 (fun c =>
 if c=true then aC true
 else
 xC1 CmpOp.Eq
 (xb
 (xb
 (xb (aB 0) (YL "listed"))
 fun x=>xb (aB 2) (YX x))
 (YI 2))
 (YS "out"))
 [some w0,some w1,some w2,none,none,none,none] h)
 (YT2 false [some w0,some w1,some w2,none,none,none,none]))
 (YQ fun δ' p =>
 YP
 (YP
 (aU
 (xb
 (xb (aB 0) (YL "ahead"))
 fun x=>xb (aB 2) (YX x))
 δ' p.2)
 fun (p:(List PyData×Option Nat)×aA) =>
 aX (YG 3)
 (fun (x:DSt) (x_1:aA) =>
 YP
 (YP (xC1 CmpOp.NotIn (aB 3) (aB 1) x x_1) (YT2 false x))
 YE)
 (Prod.snd p.1) (Prod.fst p.1) (Prod.fst p.1) δ' p.2)
 (YQ fun δ' p =>
 YP
 (YP
 (aU
 (xb
 (xb (aB 0) (YL "later"))
 fun x=>xb (aB 2) (YX x))
 δ' p.2)
 fun (p:(List PyData×Option Nat)×aA) =>
 aX (YG 4)
 (fun (x:DSt) (x_1:aA) =>
 YP
 (YP (xC1 CmpOp.In (aB 4) (aB 1) x x_1) (YT2 false x))
 YE)
 (Prod.snd p.1) (Prod.fst p.1) (Prod.fst p.1) δ' p.2)
 (YQ fun δ' p =>
 YP
 (YP
 (aU
 (xb
 (xb (aB 0) (YL "gaps"))
 fun x=>xb (aB 2) (YX x))
 δ' p.2)
 fun (p:(List PyData×Option Nat)×aA) =>
 aX (bV [YG 5,YG 6])
 (fun (x:DSt) (x_1:aA) =>
 YP
 (YP (xb (xC1 CmpOp.In (aB 5) (aB 1)) (fun c=>if c=true then xC1 CmpOp.NotIn (aB 6) (aB 1) else aC false) x x_1) (YT2 false x))
 YE)
 (Prod.snd p.1) (Prod.fst p.1) (Prod.fst p.1) δ' p.2)
 (YQ fun δ' p =>
 YP (YP (aC (W.d (PyData.bool true)) δ' p.2) YW) YE)))))
 dG:=by kernel_rfl
def sK (d:Nat) (w0 w1:W) (h:aA):callM T (d+1) "followers" [w0,w1] h =
 YP
 (YP
 (YP
 (aM
 (xb
 (xb
 (xb
 (Y1 (xb (aB 0) (YL "listed")))
 (YK aZ))
 YR)
 fun p δ h =>
 aN (YG 0)
 (xb
 (xb (aB 2) (YH d "may_follow" (Y2 (aB 1) (aB 0))))
 YD)
 (aB 0) p.2 p.1 p.1 (aP [none,some 1,some 0] δ) h [])
 [some w0,some w1] h)
 YW)
 YE)
 dG:=by kernel_rfl
def xB (d:Nat) (w0 w1:W) (h:aA):callM T (d+1) "missing" [w0,w1] h =
 YP
 (YP
 (YP
 (aM
 (xb
 (aU
 (xb (aB 0) (YL "musts")))
 fun p δ h=>aN (YG 0) (xC1 CmpOp.NotIn (aB 0) (aB 1)) (aB 0) p.2 p.1 p.1 (aP [none,some 1] δ) h [])
 [some w0,some w1] h)
 YW)
 YE)
 dG:=by kernel_rfl
def gA (d:Nat) (w0 w1 w2:W) (h:aA):callM T (d+1) "stand_behind" [w0,w1,w2] h =
 YP
 (YP
 (aQ 3
 (xb
 (Y2 (aB 1) (xb
 (xb
 (xb (aB 0) (YL "listed"))
 fun x=>xb (aB 2) (YX x))
 (YI 0)))
 (YF d "done"))
 [some w0,some w1,some w2,none,none] h)
 (YQ fun δ' p =>
 YP
 (aQ 4
 (xb
 (xb
 (xb (aB 0) (YL "listed"))
 fun x=>xb (aB 2) (YX x))
 (YI 1))
 δ' p.2)
 (YQ fun δ' p =>
 YP (YP (xb (xb (xC1 CmpOp.Is (aB 4) (YZ)) fun c=>if c=true then aC true else xC1 CmpOp.Eq (aB 4) (YV 3 0)) (fun (t:Bool)=>if t=true then xb (aB 3) (YI 1) else YZ) δ' p.2) YW) YE)))
 dG:=by kernel_rfl
end K26

namespace K26
open PySem PySem.Spec PyProof.Rows L2 DL CI SJ
abbrev Ow {α β:Type} (_:α->Option β):=Option α
noncomputable def bd {α β:Type} (f:α->Option β) (x:Ow f):Option β:=Option.bind x f
@[simp ↓ high] theorem bdi {α β:Type} (x:Option α) (f:α->Option β):x.bind f=bd f x:=rfl
@[simp high] theorem bds {α β:Type} (a:α) (f:α->Option β):bd f (some a)=f a:=id rfl
@[simp ↓ high] theorem bdy {α β:Type} (x:Option α) (f:α->Option β):YP x f=bd f x:=rfl
@[simp ↓ high] theorem ynx (k:DSt->Fl×aA->Option (Fl×aA)) (δ:DSt) (h:aA):YQ k (.nx δ,h)=k δ (.nx δ,h):=id rfl
@[simp ↓ high] theorem yrt (k:DSt->Fl×aA->Option (Fl×aA)) (w:W) (h:aA):YQ k (.rt w,h)=some (.rt w,h):=id rfl
@[simp ↓ high] theorem yct (k:DSt->Fl×aA->Option (Fl×aA)) (δ:DSt) (h:aA):YQ k (.ct δ,h)=some (.ct δ,h):=id rfl
@[simp ↓ high] theorem yE (f:Fl) (h:aA):YE (f,h)=some (f,h):=by cases f<;>rfl
@[simp ↓ high] theorem xba {α β:Type} (x:XR α) (f:α->XR β) (δ:DSt) (h:aA):xb x f δ h=bd (fun p=>f p.1 δ p.2) (x δ h):=rfl
@[simp ↓ high] theorem xsa (i:Nat) (x:XR W) (δ:DSt) (h:aA):aQ i x δ h=bd (fun p=>some (.nx (δ.set i (some p.1)),p.2)) (x δ h):=rfl
variable (d:Nat) (h:aA)
def bG2 (cs:List One):PyData:=.tuple [.str "deal",.tuple (cs.map One.dat)]
end K26

namespace K26
open PySem PySem.Spec PyProof.Rows L2 DL CI SJ
variable (d:Nat) (x:PyData) (h:aA)
@[simp] theorem fS:aD T (d+1) "is_whole" [.d x] h=some (.bool (fH x),h):=by
 cases x<;>simp [wU,isi,fE,fH]
@[simp] theorem sL (lo hi:Int):aD T (d+2) "is_between" [.d x,.d (.int lo),.d (.int hi)] h=some (.bool (gR x lo hi),h):=by
 cases x<;>simp [rY,fS,gR,fH];split<;>simp_all;omega
@[simp] theorem hO (n:Int):aD T (d+1) "is_tuple_of" [.d x,.d (.int n)] h=some (.bool (fZ x n),h):=by
 cases x<;>simp [oV,isi,fE,fZ]
@[simp] theorem dH (xs:List PyData):aD T (d+2) "are_whole" [.d (.tuple xs)] h=some (.bool (xs.all fH),h):=by
 simp [uD];rw [bH (fun x=>.bool (fH x)) 0 (fun _ _ _=>rfl)]
 ·simp [bools_map]
 ·intro y _ u;simp [fS]
@[simp] theorem nU:aD T (d+3) "is_key" [.d x] h=some (.bool (jD x),h):=by
 simp [aP0,sL,jD]
def tp (a:PyData):(∃ ps,a=.tuple ps)\/((∀ n,fZ a n=false)/\isi a "tuple"=false/\fD a=.none/\bN a=false/\dO a=false/\(∀ s,dM (.tuple [.str s,a])=false/\jE (.tuple [.str s,a])=false)/\∀ s,(∀ lo hi,bD (.span lo hi) (.tuple [.str s,a])=false)/\∀ cs,bD (.deal cs) (.tuple [.str s,a])=false):=by
 cases a<;>first | exact .inl ⟨_,rfl⟩ | exact .inr ⟨fun _=>rfl,rfl,rfl,rfl,rfl,fun _=>⟨rfl,rfl⟩,fun _=>⟨fun _ _=>rfl,fun _=>rfl⟩⟩
@[simp] theorem qO:aD T (d+1) "word_of" [.d x] h=some (fD x,h):=by
 rcases tp x with ⟨xs,rfl⟩ | hn
 ·cases xs with
  | nil=>simp [gU,isi,fE,fD]
  | cons y r =>
   cases hs:isi y "str"
   ·have:fD (.tuple (y::r))=.none:=by cases y<;>first | rfl | cases hs
    simp [gU,show ∀ xs,isi (.tuple xs) "tuple"=true from fun _=>rfl,hs,this]
   ·obtain ⟨s,rfl⟩:∃ s,y=.str s:=by cases y<;>first | exact ⟨_,rfl⟩ | cases hs
    simp [gU,isi,fE,fD]
 ·simp [gU,hn]
end K26

namespace K26
open PySem PySem.Spec PyProof.Rows L2 DL CI SJ
variable (d:Nat) (x:PyData) (h:aA)
@[simp] theorem gK (s:Str) (n:Int):aD T (d+2) "is_worded" [.d x,.d (.str s),.d (.int n)] h=some (.bool (aJ x s n),h):=by
 simp [uE,qO];cases x<;>simp [fD,aJ];rename_i xs;cases xs with
 | nil=>simp [fD,aJ]
 | cons y r=>cases y<;>simp [fD,aJ];rename_i t;cases e:(t==s)<;>simp
def lk (s:Str):List.lookup s [(Str.ofString "read",(0:Int)),(Str.ofString "write",1),(Str.ofString "add",1),(Str.ofString "swap",2)]=nb s:=by
 unfold nb;simp only [List.lookup]
 repeat' split
 all_goals simp_all
def cR9 (a b:PyData) (r:List PyData):cut (a::b::r) (some 2) none=r:=by
 have e1:HT.sIx (a::b::r).length 0 (some 2)=2:=by simp [HT.sIx]
 have e2:HT.sIx (a::b::r).length (a::b::r).length none=r.length+2:=by simp [HT.sIx]
 rw [cut,e1,e2];simp
def bQ5 (a:PyData) (r:List PyData):cut (a::r) (some 1) none=r:=by
 have e1:HT.sIx (a::r).length 0 (some 1)=1:=by simp [HT.sIx]
 have e2:HT.sIx (a::r).length (a::r).length none=r.length+1:=by simp [HT.sIx]
 rw [cut,e1,e2];simp
@[simp] theorem lF:aD T (d+4) "is_single" [.d x] h=some (.bool (bN x),h):=by
 simp [uF,qO,nU,dH,lk];rcases tp x with ⟨xs,rfl⟩ | hn
 rotate_left
 ·simp [hn]
 cases xs with
 | nil=>simp [fD,bN]
 | cons y r =>
  cases y<;>simp [fD,bN];rename_i t;cases e:nb t with
  | none=>simp
  | some n =>
   have hn:0<=n:=by
    unfold nb at e
    repeat' split at e
    all_goals simp at e
    all_goals omega
   by_cases hl:(r.length:Int)+1=2+n
   ·cases r with
    | nil=>simp at hl;omega
    | cons k vs =>
     cases ek:jD k<;>simp_all [nU,cR9,dH,lk]
   ·simp [hl,e,lk]
def fT {x:PyData} {s:Str} (e:aJ x s 2=true):∃ a,x=.tuple [.str s,a]:=by
 unfold aJ at e;split at e
 ·rename_i t r;simp at e;obtain ⟨rfl,e⟩:=e
  match r,e with
  | [a],_=>exact ⟨a,rfl⟩
  | [],e=>simp at e
  | _::_::_,e=>simp at e;omega
 ·cases e
def bA2 {x:PyData} {s:Str} (e:aJ x s 3=true):∃ a b,x=.tuple [.str s,a,b]:=by
 unfold aJ at e;split at e
 ·rename_i t r;simp at e;obtain ⟨rfl,e⟩:=e
  match r,e with
  | [a,b],_=>exact ⟨a,b,rfl⟩
  | [],e=>simp at e
  | [_],e=>simp at e
  | _::_::_::_,e=>simp at e;omega
 ·cases e
def bA3 {x:PyData} (e:aJ x "span" 3=false):dK x=false:=by
 unfold dK;split
 ·simp [aJ] at e;simp [e]
 ·rfl
def bA4 {x:PyData} (e:aJ x "deal" 2=false):dM x=false:=by
 unfold dM;split
 ·simp [aJ] at e;simp [e]
 ·rfl
def bA5 {x:PyData} (e:aJ x "look" 2=false):iI x=false:=by
 unfold iI;split
 ·simp [aJ] at e;simp [e]
 ·rfl
def bQ6 {x:PyData} (e:aJ x "lay" 2=false):jE x=false:=by
 unfold jE;split
 ·simp [aJ] at e;simp [e]
 ·rfl
@[simp] theorem aE4:aD T (d+3) "is_span" [.d x] h=some (.bool (dK x),h):=by
 simp [aD6,gK,dH];cases e:aJ x (Str.ofString "span") 3
 ·simp [bA3 e]
 ·obtain ⟨a,b,rfl⟩:=bA2 e;simp [bQ5,dH];have wn:∀ {x},fH x=true->∃ i,x=.int i:=fun {x} h=>by cases x<;>first | exact ⟨_,rfl⟩ | cases h
  cases ha:fH a
  ·have:dK (.tuple [.str (Str.ofString "span"),a,b])=false:=by cases a<;>first | rfl | cases ha
   simp [this]
  obtain ⟨i,rfl⟩:=wn ha;cases hb:fH b
  ·have:dK (.tuple [.str (Str.ofString "span"),.int i,b])=false:=by cases b<;>first | rfl | cases hb
   simp [fH,this]
  obtain ⟨j,rfl⟩:=wn hb;simp [fH,dK]
  by_cases h1:0<=i<;>by_cases h2:i < j<;>simp [h1,h2]
@[simp] theorem aE5:aD T (d+5) "is_deal" [.d x] h=some (.bool (dM x),h):=by
 simp [aD7,gK];cases e:aJ x (Str.ofString "deal") 2
 ·simp [bA4 e]
 ·obtain ⟨a,rfl⟩:=fT e;rcases tp a with ⟨ps,rfl⟩ | hn
  rotate_left
  ·simp [hn]
  simp [isi,fE,dM]
  by_cases h1:(1:Int)<=ps.length
  ·by_cases h2:(ps.length:Int)<=4
   ·simp [h1,h2];rw [bH (fun x=>.bool (bN x)) 0 (fun _ _ _=>rfl)]
    ·have h3:1<=ps.length:=by omega
     have h4:ps.length<=4:=by omega
     simp [bools_map,h3,h4]
    ·intro y _ u;simp [lF]
   ·have h4:¬ ps.length<=4:=by omega
    simp [h1,h2,h4]
  ·have h4:¬ 1<=ps.length:=by omega
   simp [h1,h4]
@[simp] theorem aE6:aD T (d+6) "is_call" [.d x] h=some (.bool (cF x),h):=by
 simp [aD8,lF,aE4,aE5,cF];cases e1:bN x<;>cases e2:dK x<;>cases e3:dM x<;>simp [e1,e2,e3]
@[simp] theorem bV5:aD T (d+7) "is_look" [.d x] h=some (.bool (iI x),h):=by
 simp [aD9,gK];cases e:aJ x (Str.ofString "look") 2
 ·simp [bA5 e]
 ·obtain ⟨a,rfl⟩:=fT e;simp [aE6,iI]
@[simp] theorem aG4:aD T (d+4) "is_value_pair" [.d x] h=some (.bool (dO x),h):=by
 simp [lN,hO];rcases tp x with ⟨xs,rfl⟩ | hn
 rotate_left
 ·simp [hn]
 simp [fZ]
 match xs with
 | []=>simp [dO]
 | [a]=>simp [dO]
 | [a,b] =>
  simp [nU,fS,dO];cases jD a<;>simp [fS]
 | a::b::c::r =>
  have:¬ ((r.length:Int)+1+1+1=2):=by omega
  simp [dO,this]
def bJ {n:Int} (h0:-5<=n) (h1:n<=100000):fB 0 n=true:=by
 unfold fB;simp;omega
def zF {ns:List Int} {i:Nat} (hi:i < ns.length):atI (ns.map PyData.int) (i:Int)=some (.int (ns.getD i 0)):=by
 unfold atI;rw [ix_nat (by simpa using hi)];simp [List.getD,hi]
def bQ7 (n:Nat):rng 0 n=(List.range n).map fun (i:Nat)=>PyData.int (i:Int):=by
 unfold rng;simp
def aP4 {w:W} {ns:List Int} (hl:ns.length<=1000) (l1:∀ h,aZ [w] h=some (.d (.int ns.length),h)) (ix:∀ (i:Int) h,xIx w (.d (.int i)) h=(atI (ns.map .int) i).map fun v=>(.d v,h)):aD T (d+1) "are_rising" [w] h=some (.bool (aD4 ns),h):=by
 simp [rZ,l1];rw [if_pos (bJ (by omega) (by omega))];simp only [bds];rw [bH (fun x=>.bool (decide (ns.getD (oU x).toNat 0 < ns.getD ((oU x).toNat+1) 0))) 0 (fun _ _ _=>rfl)]
 ·simp only [List.nil_append,bds,yE,all_map];rw [bQ7,List.all_map,aZ2];rfl
 ·intro y hy u;rw [bQ7] at hy;obtain ⟨k,hk,rfl⟩:=List.mem_map.mp hy;have hk:=List.mem_range.mp hk;have e2:((k:Int)+1)=((k+1:Nat):Int):=rfl;simp [ix,zF (show k < ns.length by omega),oU];rw [e2,zF (by omega)];simp
noncomputable def dI:PyData->Bool
 | .tuple [_,.tuple ps]=>decide (ps.length<=1000)
 | _=>true
def aP5 (hs:dI x=true):aD T (d+5) "is_lay" [.d x] h=some (.bool (jE x),h):=by
 simp [aP1];cases e:aJ x (Str.ofString "lay") 2
 ·simp [bQ6 e]
 ·obtain ⟨a,rfl⟩:=fT e;rcases tp a with ⟨ps,rfl⟩ | hn
  rotate_left
  ·simp [hn]
  simp [isi,fE,jE]
  replace hs:ps.length<=1000:=of_decide_eq_true hs
  by_cases hp:ps=[]
  ·subst hp;simp
  ·have hn:¬ ((ps.length:Int)=0):=by
    have:ps.length≠0:=fun z=>hp (List.length_eq_zero_iff.mp z);omega
   simp [hp];rw [bH (fun x=>.bool (dO x)) 0 (fun _ _ _=>rfl)]
   ·simp only [List.nil_append,bds,yE,all_map];generalize ea:ps.all dO=b;cases b
    ·simp
    ·simp;rw [bH (fun x=>.int (oU (nK x))) 0 (fun _ _ _=>rfl)]
     ·have e3:(ps.map fun x=>PyData.int (oU (nK x)))=(ps.map fun p=>oU (nK p)).map PyData.int:=by simp
      simp only [List.nil_append,bds,e3];rw [aP4 _ _ (ns:=ps.map fun p=>oU (nK p)) (by simpa using hs) (fun _=>by simp) fun _ _=>rfl];simp [hp]
     ·intro y hy u;have:=List.all_eq_true.mp ea y hy;unfold dO at this;split at this
      ·rename_i k v;simp [jD,gR] at this;cases k<;>simp at this;simp [nK,oU]
      ·cases this
   ·intro y _ u;simp
@[simp] theorem dX (hs:dI x=true):aD T (d+8) "is_step" [.d x] h=some (.bool (fQ x),h):=by
 simp [aE0,fQ];cases e1:cF x<;>cases e2:iI x<;>simp [e2,aP5 _ _ _ hs]
end K26

namespace K26
open PySem PySem.Spec PyProof.Rows L2 DL CI SJ
variable (d:Nat) (t:PyData) (h:aA)
def aP6 {t:PyData} (e:aJ t "got" 2=false):cP (.read 0) t=false:=by
 unfold cP;split
 ·split
  ·rename_i s v;cases es:(s==Str.ofString "got")
   ·simp
   ·simp at es;subst es;simp [aJ] at e
  ·rfl
 all_goals rename_i e';cases e'
def qP (o:One):aD T (d+3) "is_own_answer" [.d o.dat,.d t] h=some (.bool (cP o t),h):=by
 cases o
 ·simp [aY,One.dat,PyData.eqv,cP,szl];cases e:aJ t (Str.ofString "got") 2
  ·simp;exact aP6 e
  ·obtain ⟨v,rfl⟩:=fT e;simp
 ·simp [aY,One.dat,PyData.eqv,cP,szl]
 ·simp [aY,One.dat,PyData.eqv,cP,szl];cases e:aJ t (Str.ofString "got") 2
  ·simp;exact aP6 e
  ·obtain ⟨v,rfl⟩:=fT e;simp
 ·simp [aY,One.dat,PyData.eqv,cP,szl];cases e:aJ t (Str.ofString "yes") 1<;>simp
end K26

namespace K26
open PySem PySem.Spec PyProof.Rows L2 DL CI SJ
variable (d:Nat) (t:PyData) (h:aA)
def bQ8 {t:PyData} {lo hi:Nat} (e:aJ t "all" 2=false):bD (.span lo hi) t=false:=by
 unfold bD;split
 ·rename_i e';cases e'
 ·split
  ·rename_i s xs;cases es:(s==Str.ofString "all")
   ·simp
   ·simp at es;subst es;simp [aJ] at e
  ·rfl
 ·rename_i e';cases e'
def bA6 {t:PyData} {cs:List One} (e:aJ t "each" 2=false):bD (.deal cs) t=false:=by
 unfold bD;split
 ·rename_i e';cases e'
 ·rename_i e';cases e'
 ·split
  ·rename_i s xs;cases es:(s==Str.ofString "each")
   ·simp
   ·simp at es;subst es;simp [aJ] at e
  ·rfl
def zps (cs:List One) (xs:List PyData):List (PyData×PyData):=(cs.zip xs).map fun p=>(.tuple [p.1.dat,p.2],.bool (cP p.1 p.2))
theorem bG3:∀ (cs:List One) (xs:List PyData),jU (cs.map One.dat) xs=(zps cs xs).map (·.1)
 | [],_=>by simp [jU,zps]
 | _::_,[]=>by simp [jU,zps]
 | c::cs,x::xs=>by
  have:=bG3 cs xs;unfold jU zps at this ⊢;simp at this ⊢;exact this
def cE0:∀ (cs:List One) (xs:List PyData),(zps cs xs).map (·.2)=((cs.zip xs).map fun p=>cP p.1 p.2).map PyData.bool:=fun cs xs=>by simp [zps]
theorem zG:∀ (cs:List One) (xs:List PyData),((cs.zip xs).map fun p=>cP p.1 p.2).all id=eX cs xs
 | [],_=>by simp [eX]
 | _::_,[]=>by simp [eX]
 | c::cs,x::xs=>by
  have:=zG cs xs;simp [eX] at this ⊢;rw [this]
theorem zH:∀ bs:List Bool,eR (bs.map PyData.bool)=some bs
 | []=>rfl
 | b::r=>by simp [eR,zH r]
def xC (lo hi:Nat):aD T (d+4) "is_own_answer" [.d (Call.span lo hi).dat,.d t] h=some (.bool (bD (.span lo hi) t),h):=by
 simp [aY,Call.dat,PyData.eqv,szl];cases e:aJ t (Str.ofString "all") 2
 ·simp;exact bQ8 e
 ·obtain ⟨v,rfl⟩:=fT e;rcases tp v with ⟨xs,rfl⟩ | hn
  rotate_left
  ·simp [hn]
  simp [fZ,bD]
  by_cases hl:(xs.length:Int)=(hi:Int) - lo<;>simp [hl]
def xD (cs:List One):aD T (d+4) "is_own_answer" [.d (Call.deal cs).dat,.d t] h=some (.bool (bD (.deal cs) t),h):=by
 simp [aY,Call.dat,PyData.eqv,szl];cases e:aJ t (Str.ofString "each") 2
 ·simp;exact bA6 e
 ·obtain ⟨v,rfl⟩:=fT e;rcases tp v with ⟨xs,rfl⟩ | hn
  rotate_left
  ·simp [hn]
  simp [fZ,bD]
  by_cases hl:(xs.length:Int)=cs.length
  ·have hl':xs.length=cs.length:=by omega
   simp [hl,hl'];rw [bG3,iH (fun δ=>∃ a b,δ=[a,b]) _ _ _ ⟨_,_,rfl⟩]
   ·have hz:=zG cs xs;rw [cE0];generalize ((cs.zip xs).map fun p=>cP p.1 p.2)=L at hz ⊢;simp [zH,hz]
   ·intro p hp δ ⟨a,b,e⟩;subst e;obtain ⟨⟨o,x⟩,_,rfl⟩:=List.mem_map.mp hp;refine ⟨[some (.d o.dat),some (.d x)],by simp [bV,jV],⟨_,_,rfl⟩,?_⟩;simp [qP]
  ·have hl':¬ xs.length=cs.length:=by omega
   simp [hl,hl']
def nV (c:SJ.Call):aD T (d+4) "is_own_answer" [.d c.dat,.d t] h=some (.bool (bD c t),h):=by
 cases c with
 | one o=>exact qP (d+1) t h o
 | span lo hi=>exact xC d t h lo hi
 | deal cs=>exact xD d t h cs
end K26

namespace K26
open PySem PySem.Spec PyProof.Rows L2 DL CI SJ
variable (d:Nat) (t:PyData) (h:aA)
def nW {c:SJ.Call} (hc:c.ok):dI c.dat=true:=by
 cases c with
 | one o=>cases o<;>simp [Call.dat,One.dat,dI]
 | span lo hi=>simp [Call.dat,dI]
 | deal cs =>
  have:=hc.1;simp [Call.dat,dI];omega
def xE {c:SJ.Call} (hc:c.ok):aD T (d+9) "is_answer" [.d c.dat,.d t] h=some (.bool (aJ t "refused" 1||bD c t),h):=by
 simp [gJ,dX (d) c.dat h (nW hc),(fI hc).2.1,(fI hc).1];cases e:aJ t (Str.ofString "refused") 1
 ·simp [nV (d+4)]
 ·simp [(fI hc).1]
def xF {ps:List (Nat×Int)} (hn:ps≠[]) (hl:ps.length<=1000) (hk:∀ p∈ps,p.1 < 8) (hr:(ps.map (·.1)).Pairwise (· < ·)):aD T (d+8) "is_step" [.d (.tuple [.str "lay",.tuple (ps.map prP)])] h=some (.bool true,h):=by
 rw [dX _ _ _ (by simpa [dI] using hl)];obtain ⟨q1,q2,q3⟩:=kG hk;have e:=zE hr;rw [List.map_map] at e;have e1:jE (.tuple [.str "lay",.tuple (ps.map prP)])=true:=by
  unfold jE;simp only [q1,q3,List.isEmpty_map];have:ps.isEmpty=false:=by simpa using hn
  rw [this]
  simpa [Function.comp_def] using e
 simp [fQ,e1]
end K26

namespace K26
open PySem PySem.Spec PyProof.Rows L2 DL CI SJ
variable (d:Nat) (h:aA)
noncomputable def wv (st:List Int) (k:Nat) (v:Int):List Int:=st.take k++v::st.drop (k+1)
def kJ {st:List Int} {k:Nat} (hk:k < st.length) (v:Int):(wv st k v).length=st.length:=by
 unfold wv;simp;omega
def sd (st:List Int):One->An1×List Int
 | .read k=>(.got (st.getD k 0),st)
 | .write k v=>(.dn,wv st k v)
 | .add k v=>(.got (st.getD k 0+v),wv st k (st.getD k 0+v))
 | .swap k x y=>if st.getD k 0=x then (.yes,wv st k y) else (.no,st)
def dr (st:List Int):List One->List An1×List Int
 | []=>([],st)
 | o::r=>((sd st o).1::(dr (sd st o).2 r).1,(dr (sd st o).2 r).2)
def xG {st:List Int} {o:One} (hk:o.key < st.length):(sd st o).2.length=st.length:=by
 cases o<;>simp only [One.key] at hk<;>simp only [sd]
 ·exact kJ hk _
 ·exact kJ hk _
 ·split
  ·exact kJ hk _
  ·rfl
def zI (st:List Int) (o:One):An1.fits o (sd st o).1:=by
 cases o<;>simp only [sd]<;>first | trivial | (split<;>trivial)
def bQ9 (xs:List PyData) {m:Nat} (hm:m<=xs.length):cut xs none (some (m:Int))=xs.take m:=by
 have e1:HT.sIx xs.length 0 none=0:=by simp [HT.sIx]
 have e2:HT.sIx xs.length xs.length (some (m:Int))=m:=by
  unfold HT.sIx;simp only [];rw [if_neg (by omega)];omega
 rw [cut,e1,e2];simp
def bR0 (xs:List PyData) {m:Nat} (hm:m<=xs.length):cut xs (some (m:Int)) none=xs.drop m:=by
 have e1:HT.sIx xs.length 0 (some (m:Int))=m:=by
  unfold HT.sIx;simp only [];rw [if_neg (by omega)];omega
 have e2:HT.sIx xs.length xs.length none=xs.length:=by simp [HT.sIx]
 rw [cut,e1,e2];rw [List.take_of_length_le];simp
def zJ {st:List Int} {k:Nat} (hk:k < st.length):atI (st.map PyData.int) (k:Int)=some (.int (st.getD k 0)):=eW (by simp [hk])
def aP7 (st:List Int) (k:Nat) (v:Int) (hk:k < 8) (hl:st.length=8):aD T (d+1) "with_value" [.d (.tuple (st.map .int)),.d (.int k),.d (.int v)] h=some (.tuple ((wv st k v).map .int),h):=by
 have c1:=bQ9 (st.map PyData.int) (m:=k) (by simp;omega);have c2:=bR0 (st.map PyData.int) (m:=k+1) (by simp;omega);have c2':cut (st.map PyData.int) (some ((k:Int)+1)) none=(st.map PyData.int).drop (k+1):=c2;have l1:min k st.length<=16777215:=by omega
 have l2:min k st.length+1+(st.length - (k+1))<=16777216:=by omega
 have l3:min k 8+1+(8 - (k+1))<=16777216:=by omega
 have l4:min k 8<=16777215:=by omega
 have l5:min k 8+1+(7 - k)<=16777216:=by omega
 simp [sA,c1,c2',szl,wv,l1,hl,l3,l4,l5]
def uL (st:List Int) (o:One) (hk:o.key < 8) (hl:st.length=8):aD T (d+2) "single_done" [.d (.tuple (st.map .int)),.d o.dat] h=some (.tuple [(sd st o).1.dat,.tuple ((sd st o).2.map .int)],h):=by
 cases o with
 | read k =>
  have:=zJ (st:=st) (k:=k) (by simp [One.key] at hk;omega);simp [cH,One.dat,An1.dat,this,szl,sd]
 | write k v =>
  simp only [One.key] at hk;have:=zJ (st:=st) (k:=k) (by omega);simp [cH,One.dat,An1.dat,this,szl,aP7,hk,hl,sd]
 | add k v =>
  simp only [One.key] at hk;have:=zJ (st:=st) (k:=k) (by omega);generalize e:st.getD k 0=w at this;simp only [sd,e];simp [cH,One.dat,An1.dat,this,szl,aP7,hk,hl]
 | swap k x y =>
  simp only [One.key] at hk;have:=zJ (st:=st) (k:=k) (by omega);generalize e:st.getD k 0=v at this;simp only [sd,e]
  by_cases e:v=x
  ·subst e;simp [cH,One.dat,An1.dat,this,szl,aP7,hk,hl]
  ·simp [cH,One.dat,An1.dat,this,szl,aP7,hk,hl,e]
theorem zK:∀ (cs:List One) (st:List Int) (o:One),dr st (cs++[o])=((dr st cs).1++[(sd (dr st cs).2 o).1],(sd (dr st cs).2 o).2)
 | [],st,o=>rfl
 | c::r,st,o=>by simp [dr,zK r]
theorem xH:∀ (cs:List One) (st:List Int),(∀ o∈cs,o.key < st.length)->(dr st cs).2.length=st.length
 | [],st,_=>rfl
 | o::r,st,hk=>by
  have h1:=hk o List.mem_cons_self;have:=xH r (sd st o).2 fun o' ho=>by rw [xG h1];exact hk o' (List.mem_cons_of_mem _ ho)
  rw [xG h1] at this;exact this
theorem bG4:∀ (cs:List One) (st:List Int),(dr st cs).1.length=cs.length
 | [],st=>rfl
 | o::r,st=>by simp [dr,bG4 r]
theorem aP8:∀ (cs:List One) (st:List Int),Fit2 cs (dr st cs).1
 | [],st=>.nil
 | o::r,st=>.cons (zI st o) (aP8 r _)
def uM (cs:List One) (hk:∀ o∈cs,o.key < 8) (hc:cs.length<=100) (st:List Int) (hl:st.length=8):aD T (d+3) "deal_done" [.d (.tuple (st.map .int)),.d (.tuple (cs.map One.dat))] h=some (.tuple [.tuple [.str "each",.tuple ((dr st cs).1.map An1.dat)],.tuple ((dr st cs).2.map .int)],h):=by
 rw [show d+3=(d+2)+1 from rfl,uG];simp [szl];generalize hr:aX _ _ _ _ _ _ _=r;have kk:∃ δ' h',r=some (.nx δ',h')/\∃ (x1 x3 x4:Option W),δ'=[some (.d (.tuple ((dr st cs).2.map .int))),x1,some (.c h.length),x3,x4]/\h'=h++[.l ((dr st cs).1.map An1.dat)]:=by
  rw [<- hr];clear hr;refine bX (fun m δ' h'=>∃ (x1 x3 x4:Option W),δ'=[some (.d (.tuple ((dr st (cs.take m)).2.map .int))),x1,some (.c h.length),x3,x4]/\h'=h++[.l ((dr st (cs.take m)).1.map An1.dat)]) ⟨_,_,_,rfl,rfl⟩ (fun δ h'=>?_) ?_
  ·rw [List.length_map,List.take_length];exact id
  ·rintro m hm δ h' ⟨x1,x3,x4,rfl,rfl⟩;have hm':m < cs.length:=by simpa using hm
   have l2:(dr st (cs.take m)).2.length=8:=by rw [xH _ _ fun o ho=>by rw [hl];exact hk o (List.mem_of_mem_take ho)];exact hl
   have hs':=fun h=>uL d h (dr st (cs.take m)).2 cs[m] (hk _ (List.getElem_mem _)) l2;have ll:(dr st (cs.take m)).1.length < 16777216:=by rw [bG4,List.length_take];omega
   have e:cs.take (m+1)=cs.take m++[cs[m]]:=by rw [List.take_add_one];simp [hm']
   rw [List.getElem_map,e,zK];generalize dr st (cs.take m)=q at *;obtain ⟨as,st'⟩:=q;have gl:=CI.get_last h (.l (as.map An1.dat));have mp:=CI.mpre_last h (as.map An1.dat);dsimp only at *;generalize sd st' cs[m]=p at hs';refine ⟨_,_,rfl,[some (.d (.tuple (p.2.map .int))),x1,some (.c h.length),some (.d cs[m].dat),some (.d (.tuple [p.1.dat,.tuple (p.2.map .int)]))],h++[.l ((as++[p.1]).map An1.dat)],?_,_,_,_,rfl,rfl⟩;simp [hs',gl,mp,ll,szl]
 obtain ⟨δ',h',rfl,x1,x3,x4,rfl,rfl⟩:=kk;have tl:bG [.c h.length] (h++[.l ((dr st cs).1.map An1.dat)])=some (.d (.tuple ((dr st cs).1.map An1.dat)),h++[.l ((dr st cs).1.map An1.dat)]):=by
  simp [bG,ref]
 simp [tl,szl]
def ly (st:List Int) (ps:List (Nat×Int)):List Int:=ps.foldl (fun s p=>wv s p.1 p.2) st
theorem aP9:∀ (ps:List (Nat×Int)) (st:List Int),(∀ p∈ps,p.1 < st.length)->(ly st ps).length=st.length
 | [],st,_=>rfl
 | p::r,st,hk=>by
  have h1:=hk p List.mem_cons_self;have:=aP9 r (wv st p.1 p.2) fun q hq=>by rw [kJ h1];exact hk q (List.mem_cons_of_mem _ hq)
  rw [kJ h1] at this;exact this
def bR1 (ps:List (Nat×Int)) (hk:∀ p∈ps,p.1 < 8) (st:List Int) (hl:st.length=8):aD T (d+2) "laid" [.d (.tuple (st.map .int)),.d (.tuple (ps.map fun p=>.tuple [.int p.1,.int p.2]))] h=some (.tuple ((ly st ps).map .int),h):=by
 rw [show d+2=(d+1)+1 from rfl,bQ4];simp;generalize hr:aX _ _ _ _ _ _ _=r;have kk:∃ δ' h',r=some (.nx δ',h')/\∃ x1 x2 x3,δ'=[some (.d (.tuple ((ly st ps).map .int))),x1,x2,x3]/\h'=h:=by
  rw [<- hr];clear hr;refine wT (fun p:Nat×Int=>.tuple [.int p.1,.int p.2]) (fun s p=>wv s p.1 p.2) (fun s δ' h'=>s.length=8/\∃ x1 x2 x3,δ'=[some (.d (.tuple (s.map .int))),x1,x2,x3]/\h'=h) st ps ⟨hl,_,_,_,rfl,rfl⟩ (fun _ _ z=>z.2) ?_;rintro p hp s δ h' ⟨hs,x1,x2,x3,rfl,rfl⟩;have hk':=hk p hp;have e:=fun h=>aP7 d h s p.1 p.2 hk' hs;refine ⟨[some (.d (.tuple (s.map .int))),x1,some (.d (.int p.1)),some (.d (.int p.2))],h',by simp [jV],[some (.d (.tuple ((wv s p.1 p.2).map .int))),x1,some (.d (.int p.1)),some (.d (.int p.2))],h',?_,by rw [kJ (by omega)];exact hs,_,_,_,rfl,rfl⟩;simp [e]
 obtain ⟨δ',h',rfl,x1,x2,x3,rfl,rfl⟩:=kk;simp
def aQ0 (o:One) (st:List Int) (hk:o.key < 8) (hl:st.length=8):aD T (d+3) "done" [.d (.tuple (st.map .int)),.d o.dat] h=some (.tuple [(sd st o).1.dat,.tuple ((sd st o).2.map .int)],h):=by
 have e:=fun h=>uL d h st o hk hl;rw [show d+3=(d+2)+1 from rfl,nN];generalize sd st o=p at e;cases o<;>simp [One.dat] at e ⊢<;>simp [e]
def aE7 (cs:List One) (hk:∀ o∈cs,o.key < 8) (hc:cs.length<=100) (st:List Int) (hl:st.length=8):aD T (d+4) "done" [.d (.tuple (st.map .int)),.d (bG2 cs)] h=some (.tuple [.tuple [.str "each",.tuple ((dr st cs).1.map An1.dat)],.tuple ((dr st cs).2.map .int)],h):=by
 have e:=fun h=>uM d h cs hk hc st hl;rw [show d+4=(d+3)+1 from rfl,nN];simp [bG2,e]
def aQ1 (ps:List (Nat×Int)) (hk:∀ p∈ps,p.1 < 8) (st:List Int) (hl:st.length=8):aD T (d+3) "done" [.d (.tuple (st.map .int)),.d (.tuple [.str "lay",.tuple (ps.map fun p=>.tuple [.int p.1,.int p.2])])] h=some (.tuple [.tuple [.str "done"],.tuple ((ly st ps).map .int)],h):=by
 have e:=fun h=>bR1 d h ps hk st hl;rw [show d+3=(d+2)+1 from rfl,nN];simp [e,szl]
def aE8 {s A S:PyData} {st:List Int} (e:∀ h,aD T (d+4) "done" [.d (.tuple (st.map .int)),.d s] h=some (.tuple [A,S],h)):aD T (d+5) "done" [.d (.tuple (st.map .int)),.d (.tuple [.str "look",s])] h=some (.tuple [A,.tuple (st.map .int)],h):=by
 rw [show d+5=(d+4)+1 from rfl,nN];simp [e,szl]
def bR2 (xs:List PyData) {i j:Nat} (hi:i<=j) (hj:j<=xs.length):cut xs (some (i:Int)) (some (j:Int))=(xs.drop i).take (j - i):=by
 have e1:HT.sIx xs.length 0 (some (i:Int))=i:=by
  unfold HT.sIx;simp only [];rw [if_neg (by omega)];omega
 have e2:HT.sIx xs.length xs.length (some (j:Int))=j:=by
  unfold HT.sIx;simp only [];rw [if_neg (by omega)];omega
 rw [cut,e1,e2]
def aE9 (lo hi:Nat) (h1:lo<=hi) (h2:hi<=8) (st:List Int) (hl:st.length=8):aD T (d+1) "done" [.d (.tuple (st.map .int)),.d (.tuple [.str "span",.int lo,.int hi])] h=some (.tuple [.tuple [.str "all",.tuple (((st.drop lo).take (hi - lo)).map .int)],.tuple (st.map .int)],h):=by
 have c:=bR2 (st.map PyData.int) (i:=lo) (j:=hi) h1 (by simp;omega);rw [<- List.map_drop,<- List.map_take] at c;simp [nN,c,szl]
end K26

namespace K26
open PySem PySem.Spec PyProof.Rows L2 DL CI SJ
variable (d:Nat) (h:aA)
def bA7 (ns:List Int):aD T (d+1) "_law_cell_at" [.d (.list (ns.map .int)),.d (.int 0)] h=some (.int (ns.head?.getD 0),h):=by
 cases ns<;>simp [nQ]
@[simp] theorem cU6 {h:aA} {i:Nat} {xs:List PyData} (hi:i < h.length):aZ [.c i] (h.set i (.l xs))=some (.d (.int xs.length),h.set i (.l xs)):=by simp [aZ,zC hi]
noncomputable def m1 (a n:Int):Int:=(a+7919*n+1)*48271%2147483647
noncomputable def m2 (x:Int):Int:=x*(x / 1009+69621)%2147483647
noncomputable def m3 (x:Int):Int:=x*(x / 2003+40692)%2147483399
def aK (s:S3) (b:Int):Int:=if 0 < s.1 then s.1%b else m3 (m2 (m1 s.2.1 (s.2.2+1)))%b
noncomputable def digS (s:S3) (b:Int):S3:=if 0 < s.1 then (s.1 / b,s.2.1,s.2.2) else (s.1,s.2.1,s.2.2+1)
noncomputable def st0 (c:Int):S3:=(c,c%2147483647,0)
def dA (s:S3) {b:Int} (hb:0 < b):0<=aK s b:=by
 unfold aK;split<;>exact Int.emod_nonneg _ (by omega)
def dB (s:S3) {b:Int} (hb:0 < b):aK s b < b:=by
 unfold aK;split<;>exact Int.emod_lt_of_pos _ hb
def aV (s:S3) {b:Int} (hb:0 < b):∃ n:Nat,aK s b=n/\(n:Int) < b:=⟨(aK s b).toNat,by have:=dA s hb;omega,by have:=dA s hb;have:=dB s hb;omega⟩
@[simp] theorem cD {i:Nat} (s:S3) (b:Int) (hi:i < h.length) (hb:0 < b) (hb2:aT b=true):aD T (d+1) "_law_digit" [.c i,.d (.int b)] (h.set i (stL s))=some (.int (aK s b),h.set i (stL (digS s b))):=by
 have e1:aT 1009=true:=by decide
 have e2:aT 2003=true:=by decide
 have h0:=gQ (i:=7919) (by decide) (by decide) (s.2.2+1);have h1:=zB (j:=48271) (by decide) (by decide) (s.2.1+7919*(s.2.2+1)+1);have h2:fV (m1 s.2.1 (s.2.2+1)) (m1 s.2.1 (s.2.2+1) / 1009+69621)=true:=gQ (by unfold m1;omega) (by unfold m1;omega) _;have h3:fV (m2 (m1 s.2.1 (s.2.2+1))) (m2 (m1 s.2.1 (s.2.2+1)) / 2003+40692)=true:=gQ (by unfold m2;omega) (by unfold m2;omega) _;have z1:(s.2.1+7919*(s.2.2+1)+1)*48271%2147483647=m1 s.2.1 (s.2.2+1):=rfl;have z2:m1 s.2.1 (s.2.2+1)*(m1 s.2.1 (s.2.2+1) / 1009+69621)%2147483647=m2 (m1 s.2.1 (s.2.2+1)):=rfl;have z3:m2 (m1 s.2.1 (s.2.2+1))*(m2 (m1 s.2.1 (s.2.2+1)) / 2003+40692)%2147483399=m3 (m2 (m1 s.2.1 (s.2.2+1))):=rfl
 by_cases h4:0 < s.1<;>simp [jF,stL,hi,e1,e2,hb,hb2,h0,h1,h2,h3,h4,z1,z2,z3,aK,digS]
def uN {i:Nat} (c b:Int) (hi:i < h.length) (hb:0 < b) (hb2:aT b=true):aD T (d+1) "_law_digit" [.c i,.d (.int b)] (h.set i (.l [.int c]))=some (.int (aK (st0 c) b),h.set i (stL (digS (st0 c) b))):=by
 have e1:aT 1009=true:=by decide
 have e2:aT 2003=true:=by decide
 have h0:=gQ (i:=7919) (by decide) (by decide) 1;have h1:=zB (j:=48271) (by decide) (by decide) (c%2147483647+7919+1);have h2:fV (m1 (c%2147483647) 1) (m1 (c%2147483647) 1 / 1009+69621)=true:=gQ (by unfold m1;omega) (by unfold m1;omega) _;have h3:fV (m2 (m1 (c%2147483647) 1)) (m2 (m1 (c%2147483647) 1) / 2003+40692)=true:=gQ (by unfold m2;omega) (by unfold m2;omega) _;have z1:(c%2147483647+7919+1)*48271%2147483647=m1 (c%2147483647) 1:=by simp [m1]
 have z2:m1 (c%2147483647) 1*(m1 (c%2147483647) 1 / 1009+69621)%2147483647=m2 (m1 (c%2147483647) 1):=rfl;have z3:m2 (m1 (c%2147483647) 1)*(m2 (m1 (c%2147483647) 1) / 2003+40692)%2147483399=m3 (m2 (m1 (c%2147483647) 1)):=rfl
 by_cases h4:0 < c<;>simp [jF,stL,hi,e1,e2,hb,hb2,h0,h1,h2,h3,h4,z1,z2,z3,aK,digS,st0,szl]
end K26

namespace K26
open PySem PySem.Spec PyProof.Rows L2 DL CI SJ
def Stf (c:Cell) (s:S3):Prop:=c=stL s\/∃ n:Int,c=.l [.int n]/\s=st0 n
def stf (s:S3):Stf (stL s) s:=.inl rfl
def bT (d:Nat) (h:aA) {i:Nat} {c:Cell} {s:S3} (hc:Stf c s) (b:Int) (hi:i < h.length) (hb:0 < b) (hb2:aT b=true):aD T (d+1) "_law_digit" [.c i,.d (.int b)] (h.set i c)=some (.int (aK s b),h.set i (stL (digS s b))):=by
 rcases hc with rfl | ⟨n,rfl,rfl⟩
 ·exact cD d h s b hi hb hb2
 ·exact uN d h n b hi hb hb2
def dig_cases (s:S3):aK s 8 / 3=0\/aK s 8 / 3=1\/aK s 8 / 3=2:=by
 have:=dA s (b:=8) (by decide);have:=dB s (b:=8) (by decide);omega
def dig2 (s:S3):aK s 4 / 3=0\/aK s 4 / 3=1:=by
 have:=dA s (b:=4) (by decide);have:=dB s (b:=4) (by decide);omega
def dig4 (s:S3):aK s 4=0\/aK s 4=1\/aK s 4=2\/aK s 4=3:=by
 have:=dA s (b:=4) (by decide);have:=dB s (b:=4) (by decide);omega
abbrev vb (n:Int):Prop:=-1<=n/\n < 1000000000000
def aQ4:One->Prop
 | .read _=>True | .write _ v=>vb v | .add _ n=>vb n | .swap _ _ n=>vb n
def bA8:SJ.Call->Prop
 | .one c=>aQ4 c | .span _ _=>True | .deal cs=>∀ c∈cs,aQ4 c
def cE1:Stp->Prop
 | .call c=>bA8 c | .look _=>True | .lay ps=>∀ p∈ps,vb p.2
def p12:aT 1000000000000=true:=by decide +kernel
def nX (s:S3):∃ r:Int×S3,vb r.1/\∀ (d:Nat) (h:aA) (i:Nat) (c:Cell),Stf c s->i < h.length->aD T (d+2) "_law_value" [.c i] (h.set i c)=some (.int r.1,h.set i (stL r.2)):=by
 have e1:xZ 10 12=true:=by decide
 have e3:aT 3=true:=by decide
 have e4:aT 2=true:=by decide
 have e5:aT 8=true:=by decide
 have p:=p12;rcases dig_cases (digS (digS (digS s 3) 2) 1000000000000) with e | e | e
 ·refine ⟨(aK s 3,digS (digS (digS (digS s 3) 2) 1000000000000) 8),by have:=dA s (b:=3) (by decide);have:=dB s (b:=3) (by decide);show _/\_;dsimp only;omega,fun d h i c hc hi=>?_⟩;have g:=bT d h hc 3 hi (by decide) e3;simp [fR,hi,g,e,e1,e3,e4,e5,p,aM,szl]
 ·refine ⟨(aK (digS s 3) 2 - 1,digS (digS (digS (digS s 3) 2) 1000000000000) 8),by have:=dA (digS s 3) (b:=2) (by decide);have:=dB (digS s 3) (b:=2) (by decide);show _/\_;dsimp only;omega,fun d h i c hc hi=>?_⟩;have g:=bT d h hc 3 hi (by decide) e3;simp [fR,hi,g,e,e1,e3,e4,e5,p,aM,szl]
 ·refine ⟨(aK (digS (digS s 3) 2) 1000000000000,digS (digS (digS (digS s 3) 2) 1000000000000) 8),by have:=dA (digS (digS s 3) 2) (b:=1000000000000) (by decide);have:=dB (digS (digS s 3) 2) (b:=1000000000000) (by decide);show _/\_;dsimp only;omega,fun d h i c hc hi=>?_⟩;have g:=bT d h hc 3 hi (by decide) e3;simp [fR,hi,g,e,e1,e3,e4,e5,p,aM,szl]
def vF (s:S3):Int×S3:=(nX s).choose
def uO (d:Nat) (h:aA) {i:Nat} {c:Cell} {s:S3} (hc:Stf c s) (hi:i < h.length):aD T (d+2) "_law_value" [.c i] (h.set i c)=some (.int (vF s).1,h.set i (stL (vF s).2)):=(nX s).choose_spec.2 d h i c hc hi
def v_b (s:S3):vb (vF s).1:=(nX s).choose_spec.1
@[simp] theorem cN5 (d:Nat) (h:aA) {i:Nat} (s:S3) (hi:i < h.length):aD T (d+2) "_law_value" [.c i] (h.set i (stL s))=some (.int (vF s).1,h.set i (stL (vF s).2)):=uO d h (stf s) hi
def jK (s:S3):∃ r:One×S3,(r.1.ok/\aQ4 r.1)/\∀ (d:Nat) (h:aA) (i:Nat),i < h.length->aD T (d+3) "_law_plain_call" [.c i] (h.set i (stL s))=some (r.1.dat,h.set i (stL r.2)):=by
 have e3:aT 4=true:=by decide
 have e4:aT 2=true:=by decide
 have e5:aT 8=true:=by decide
 have e6:aT 3=true:=by decide
 obtain ⟨k,hk,ek⟩:∃ k:Nat,k < 8/\atI [PyData.int (aK (digS s 4) 2),.int (aK (digS (digS s 4) 2) 8)] (aK (digS (digS (digS s 4) 2) 8) 4 / 3)=some (.int k):=by
  obtain ⟨a,ea,ha⟩:=aV (digS s 4) (b:=2) (by decide);obtain ⟨b,eb,hb⟩:=aV (digS (digS s 4) 2) (b:=8) (by decide);rcases dig2 (digS (digS (digS s 4) 2) 8) with y | y
  ·exact ⟨a,by omega,by rw [y,ea];simp⟩
  ·exact ⟨b,by omega,by rw [y,eb];simp⟩
 rcases dig4 s with e | e | e | e
 ·refine ⟨(.read k,digS (digS (digS (digS s 4) 2) 8) 4),⟨hk,True.intro⟩,fun d h i hi=>?_⟩;simp [bZ,hi,e,ek,e3,e4,e5,e6,One.dat,szl,aM]
 ·refine ⟨(.write k (vF (digS (digS (digS (digS s 4) 2) 8) 4)).1,(vF (digS (digS (digS (digS s 4) 2) 8) 4)).2),⟨hk,v_b _⟩,fun d h i hi=>?_⟩;simp [bZ,hi,e,ek,e3,e4,e5,e6,One.dat,szl,aM]
 ·refine ⟨(.add k (vF (digS (digS (digS (digS s 4) 2) 8) 4)).1,(vF (digS (digS (digS (digS s 4) 2) 8) 4)).2),⟨hk,v_b _⟩,fun d h i hi=>?_⟩;simp [bZ,hi,e,ek,e3,e4,e5,e6,One.dat,szl,aM]
 ·refine ⟨(.swap k (vF (digS (digS (digS (digS s 4) 2) 8) 4)).1 (vF (vF (digS (digS (digS (digS s 4) 2) 8) 4)).2).1,(vF (vF (digS (digS (digS (digS s 4) 2) 8) 4)).2).2),⟨hk,v_b _⟩,fun d h i hi=>?_⟩;simp [bZ,hi,e,ek,e3,e4,e5,e6,One.dat,szl,aM]
def pF (s:S3):One×S3:=(jK s).choose
def aQ5 (s:S3):(pF s).1.ok:=(jK s).choose_spec.1.1
def p_v (s:S3):aQ4 (pF s).1:=(jK s).choose_spec.1.2
@[simp] theorem cN6 (d:Nat) (h:aA) {i:Nat} (s:S3) (hi:i < h.length):aD T (d+3) "_law_plain_call" [.c i] (h.set i (stL s))=some ((pF s).1.dat,h.set i (stL (pF s).2)):=(jK s).choose_spec.2 d h i hi
theorem uP:∀ (xs:List PyData) (s:S3),∃ cs:List One,(thr (fun _ s=>(pF s).1.dat) (fun _ s=>(pF s).2) xs s).1=cs.map One.dat/\cs.length=xs.length/\∀ c∈cs,c.ok/\aQ4 c
 | [],s=>⟨[],rfl,rfl,fun _ z=>nomatch z⟩
 | x::r,s=>by
  obtain ⟨cs,e,hl,hc⟩:=uP r (pF s).2;refine ⟨(pF s).1::cs,by simp [thr,e],by simp [hl],fun c hm=>?_⟩;rcases List.mem_cons.mp hm with rfl | hm
  ·exact ⟨aQ5 s,p_v s⟩
  ·exact hc c hm
end K26

namespace K26
open PySem PySem.Spec PyProof.Rows L2 DL CI SJ
noncomputable def jL (p:PyData->S3->Bool) (n:PyData->S3->S3) (f:PyData->S3->PyData) (n2:PyData->S3->S3):List PyData->S3->List PyData×S3
 | [],s=>([],s)
 | x::r,s=>if p x s=true then (f x (n x s)::(jL p n f n2 r (n2 x (n x s))).1,(jL p n f n2 r (n2 x (n x s))).2) else jL p n f n2 r (n x s)
theorem nY {g:XG} {tt:XR Bool} {te:XR W} {all:List PyData} {h:aA} {i:Nat} (p:PyData->S3->Bool) (n:PyData->S3->S3) (f:PyData->S3->PyData) (n2:PyData->S3->S3) (k:Nat) (hg:∀ w δ h,g w δ h=some (δ.set k (some w),h)) :
  ∀ (rest:List PyData) (δ:DSt) (ac:List PyData) (s:S3),(∀ x∈rest,∀ u s,tt ((δ.set k u).set k (some (.d x))) (h.set i (stL s))=some (p x s,h.set i (stL (n x s))))->(∀ x∈rest,∀ u s,te ((δ.set k u).set k (some (.d x))) (h.set i (stL s))=some (.d (f x s),h.set i (stL (n2 x s)))) ->
   aN g tt te none all rest δ (h.set i (stL s)) ac=some (ac++(jL p n f n2 rest s).1,h.set i (stL (jL p n f n2 rest s).2))
 | [],δ,ac,s,_,_=>by simp [aN,jL]
 | x::r,δ,ac,s,hf,ht=>by
  have e:=hf x List.mem_cons_self none s;rw [List.set_set] at e;have e2:=ht x List.mem_cons_self none;simp only [List.set_set] at e2;have more:∀ ac s',aN g tt te none all r (δ.set k (some (.d x))) (h.set i (stL s')) ac=some (ac++(jL p n f n2 r s').1,h.set i (stL (jL p n f n2 r s').2)):=fun ac s' =>
   nY p n f n2 k hg r _ _ _ (fun y hy u s=>by
    have:=hf y (List.mem_cons_of_mem _ hy) u s;rw [List.set_set] at this ⊢;rw [List.set_set];exact this) fun y hy u s=>by
    have:=ht y (List.mem_cons_of_mem _ hy) u s;rw [List.set_set] at this ⊢;rw [List.set_set];exact this
  rw [aN,bS,if_pos rfl,hg];simp only [Option.bind_some,e];cases hp:p x s
  ·simp [more,jL,hp]
  ·simp [e2,more,jL,hp]
theorem kK (p:PyData->S3->Bool) (n:PyData->S3->S3):∀ (m a:Nat) (s:S3),∃ ps:List (Nat×Int),(jL p n (fun x s=>.tuple [x,.int (vF s).1]) (fun _ s=>(vF s).2) (rng (a:Int) m) s).1=ps.map prP/\(ps.map (·.1)).Pairwise (· < ·)/\(∀ q∈ps,(a<=q.1/\q.1 < a+m)/\vb q.2)/\ps.length<=m
 | 0,a,s=>⟨[],rfl,.nil,(fun _ z=>nomatch z),Nat.le_refl 0⟩
 | m+1,a,s=>by
  have er:rng (a:Int) (m+1)=.int a::rng ((a+1:Nat):Int) m:=by
   unfold rng;rw [List.range_succ_eq_map];simp [Function.comp_def];intro b hb;omega
  rw [er,jL];split
  ·obtain ⟨ps,e,hp,hb,hl⟩:=kK p n m (a+1) ((vF (n (.int a) s)).2);refine ⟨(a,(vF (n (.int a) s)).1)::ps,by simp only [e];rfl,?_,fun q hq=>?_,by simp only [List.length_cons];omega⟩
   ·rw [List.map_cons];refine .cons (fun k hk=>?_) hp;obtain ⟨q,hq,rfl⟩:=List.mem_map.mp hk;have:=hb q hq;show a < q.1;omega
   ·rcases List.mem_cons.mp hq with rfl | hq
    ·exact ⟨⟨Nat.le_refl _,by show a < a+(m+1);omega⟩,v_b _⟩
    ·have:=hb q hq;exact ⟨by omega,this.2⟩
  ·obtain ⟨ps,e,hp,hb,hl⟩:=kK p n m (a+1) (n (.int a) s);exact ⟨ps,e,hp,fun q hq=>(by have:=hb q hq;exact ⟨by omega,this.2⟩),by omega⟩
def Sok:Stp->Prop
 | .call c=>c.ok
 | .look c=>c.ok
 | .lay ps=>ps≠[]/\ps.length<=9/\(∀ p∈ps,p.1 < 8)/\(ps.map (·.1)).Pairwise (· < ·)
def aQ6 (xs:List PyData) (x:PyData):atI (xs++[x]) (-1)=some x:=by
 simp [atI,L2.ixN];rw [if_pos (by omega),show (-1+((xs.length:Int)+1)).toNat=xs.length by omega];simp
def aF0 (s:S3) (hk:aK s 9 < 5) (d:Nat) (h:aA) {i:Nat} {c:Cell} (hc:Stf c s) (hi:i < h.length):aD T (d+4) "_law_step" [.c i] (h.set i c)=some ((pF (digS s 9)).1.dat,h.set i (stL (pF (digS s 9)).2)):=by
 have e9:aT 9=true:=by decide
 have g:=bT (d+2) h hc 9 hi (by decide) e9;simp [bO,hi,hk,e9,g]
def bA9 (s:S3) (hk:aK s 9=5):∃ (r:SJ.Call×S3),(r.1.ok/\bA8 r.1)/\∀ (d:Nat) (h:aA) (i:Nat) (c:Cell),Stf c s->i < h.length->aD T (d+4) "_law_step" [.c i] (h.set i c)=some (r.1.dat,h.set i (stL r.2)):=by
 have e9:aT 9=true:=by decide
 have e8:aT 8=true:=by decide
 obtain ⟨k,ek,hk'⟩:=aV (digS s 9) (b:=8) (by decide);obtain ⟨m,em,hm⟩:=aV (digS (digS s 9) 8) (b:=8 - k) (by omega);refine ⟨(.span k (k+1+m),digS (digS (digS s 9) 8) (8 - k)),⟨⟨by omega,by omega⟩,True.intro⟩,fun d h i c hc hi=>?_⟩;have h1:(k:Int) < 8:=hk';have h2:aT (8 - (k:Int))=true:=cI (by omega) (by omega);have g:=bT (d+2) h hc 9 hi (by decide) e9;simp [bO,hi,hk,g,ek,em,h1,h2,e9,e8,Call.dat,szl,aM]
def bB0 (s:S3) (hk:aK s 9=6):∃ (r:SJ.Call×S3),(r.1.ok/\bA8 r.1)/\∀ (d:Nat) (h:aA) (i:Nat) (c:Cell),Stf c s->i < h.length->aD T (d+4) "_law_step" [.c i] (h.set i c)=some (r.1.dat,h.set i (stL r.2)):=by
 have e9:aT 9=true:=by decide
 have e4:aT 4=true:=by decide
 obtain ⟨m,em,hm⟩:=aV (digS s 9) (b:=4) (by decide);obtain ⟨cs,ec,hl,hc⟩:=uP (rng 0 (m+1)) (digS (digS s 9) 4);have hl':cs.length=m+1:=by rw [hl];simp [rng]
 refine ⟨(.deal cs,(thr (fun _ s=>(pF s).1.dat) (fun _ s=>(pF s).2) (rng 0 (m+1)) (digS (digS s 9) 4)).2),⟨⟨by omega,by omega,fun c hm=>(hc c hm).1⟩,fun c hm=>(hc c hm).2⟩,fun d h i c hc hi=>?_⟩;have er:fB 0 (1+(m:Int))=true:=bJ (by omega) (by omega);have et:(1+(m:Int)).toNat=m+1:=by omega
 have g:=bT (d+2) h hc 9 hi (by decide) e9;simp [bO,hi,hk,g,em,Call.dat,szl,er,et,e9,e4,aM];rw [qI (fun _ s=>(pF s).1.dat) (fun _ s=>(pF s).2) 0 (fun _ _ _=>rfl)]
 ·simp [ec]
 ·intro x _ u s;simp [hi]
def bB1 (s:S3) (hk:aK s 9=7):∃ (r:SJ.Call×S3),(r.1.ok/\bA8 r.1)/\∀ (d:Nat) (h:aA) (i:Nat) (c:Cell),Stf c s->i < h.length->aD T (d+4) "_law_step" [.c i] (h.set i c)=some ((Stp.look r.1).dat,h.set i (stL r.2)):=by
 have e9:aT 9=true:=by decide
 have e8:aT 8=true:=by decide
 have e3:aT 3=true:=by decide
 obtain ⟨k,ek,hk'⟩:=aV (digS s 9) (b:=8) (by decide);have h3:aK (pF (pF (pF (digS (digS s 9) 8)).2).2).2 3=0\/aK (pF (pF (pF (digS (digS s 9) 8)).2).2).2 3=1\/aK (pF (pF (pF (digS (digS s 9) 8)).2).2).2 3=2:=by
  have:=dA (pF (pF (pF (digS (digS s 9) 8)).2).2).2 (b:=3) (by decide);have:=dB (pF (pF (pF (digS (digS s 9) 8)).2).2).2 (b:=3) (by decide);omega
 rcases h3 with e | e | e
 ·refine ⟨(.one (pF (digS (digS s 9) 8)).1,digS (pF (pF (pF (digS (digS s 9) 8)).2).2).2 3),⟨aQ5 _,p_v _⟩,fun d h i c hc hi=>?_⟩;have g:=bT (d+2) h hc 9 hi (by decide) e9;simp [bO,hi,hk,g,ek,e,e9,e8,e3,Stp.dat,Call.dat,szl,aM]
 ·refine ⟨(.span k 8,digS (pF (pF (pF (digS (digS s 9) 8)).2).2).2 3),⟨⟨by omega,by omega⟩,True.intro⟩,fun d h i c hc hi=>?_⟩;have g:=bT (d+2) h hc 9 hi (by decide) e9;simp [bO,hi,hk,g,ek,e,e9,e8,e3,Stp.dat,Call.dat,szl,aM]
 ·refine ⟨(.deal [(pF (pF (digS (digS s 9) 8)).2).1,(pF (pF (pF (digS (digS s 9) 8)).2).2).1],digS (pF (pF (pF (digS (digS s 9) 8)).2).2).2 3),⟨⟨by simp,by simp,fun c hm=>?_⟩,fun c hm=>?_⟩,fun d h i c hc hi=>?_⟩
  ·simp at hm;rcases hm with rfl | rfl
   ·exact aQ5 _
   ·exact aQ5 _
  ·simp at hm;rcases hm with rfl | rfl
   ·exact p_v _
   ·exact p_v _
  have g:=bT (d+2) h hc 9 hi (by decide) e9;simp [bO,hi,hk,g,ek,e,e9,e8,e3,Stp.dat,Call.dat,szl,aM]
end K26

namespace K26
open PySem PySem.Spec PyProof.Rows L2 DL CI SJ
theorem plP:∀ (ps:List (Nat×Int)) (m:Nat),plainsB (m+1) (ps.map prP)=true
 | [],m=>by simp
 | a::r,m=>by simp [prP,plP r]
def bR3 (h:aA):xEq (.d (.list [])) (.d (.list [])) h=some true:=by simp [xEq,ref,PyData.eqv,PyData.eqvAll]
def bB2 (ps:List (Nat×Int)) (hn:ps≠[]) (h:aA):xEq (.d (.list (ps.map prP))) (.d (.list [])) h=some false:=by
 cases ps with
 | nil=>exact absurd rfl hn
 | cons a r =>
  have:=plP (a::r);simp [xEq,ref,PyData.eqv,PyData.eqvAll,prP,plP]
@[simp] theorem cU7 (b:Bool) (h:aA):aH0 [.d (.bool b)] h=some (.d (.int (if b then 1 else 0)),h):=rfl
@[simp] theorem cU8 (x:PyData):cut [x] (some 0) none=[x]:=rfl
@[simp] theorem cU9 (x:PyData):cut [x] (some 1) none=[]:=bQ5 x []
def bB3 (s:S3) (hk:aK s 9=8):∃ (ps:List (Nat×Int)) (s':S3),(Sok (.lay ps)/\cE1 (.lay ps))/\∀ (d:Nat) (h:aA) (i:Nat) (c:Cell),Stf c s->i < h.length->aD T (d+4) "_law_step" [.c i] (h.set i c)=some ((Stp.lay ps).dat,h.set i (stL s')):=by
 have e9:aT 9=true:=by decide
 have e3:aT 3=true:=by decide
 have er:fB 0 8=true:=bJ (by omega) (by omega);obtain ⟨ps,ep,hp,hb,hl⟩:=kK (fun _ s=>decide (aK s 3=0)) (fun _ s=>digS s 3) 8 0 (digS s 9);obtain ⟨s1,es⟩:∃ s1,s1=(jL (fun _ s=>decide (aK s 3=0)) (fun _ s=>digS s 3) (fun x s=>.tuple [x,.int (vF s).1]) (fun _ s=>(vF s).2) (rng 0 8) (digS s 9)).2:=⟨_,rfl⟩;have ec:∀ (d:Nat) (h:aA) (i:Nat),i < h.length->∀ (g:XG) (tt:XR Bool) (te:XR W) (all:List PyData) (δ:DSt),(∀ w δ h,g w δ h=some (δ.set 0 (some w),h)) ->
   (∀ x∈rng 0 8,∀ u s,tt ((δ.set 0 u).set 0 (some (.d x))) (h.set i (stL s))=some (decide (aK s 3=0),h.set i (stL (digS s 3)))) ->
   (∀ x∈rng 0 8,∀ u s,te ((δ.set 0 u).set 0 (some (.d x))) (h.set i (stL s))=some (.d (.tuple [x,.int (vF s).1]),h.set i (stL (vF s).2))) ->
   aN g tt te none all (rng 0 8) δ (h.set i (stL (digS s 9))) []=some (ps.map prP,h.set i (stL s1)):=fun d h i hi g tt te all δ hg h1 h2=>by
  rw [nY (fun _ s=>decide (aK s 3=0)) (fun _ s=>digS s 3) (fun x s=>.tuple [x,.int (vF s).1]) (fun _ s=>(vF s).2) 0 hg _ _ _ _ h1 h2,es];have ep':(jL (fun _ s=>decide (aK s 3=0)) (fun _ s=>digS s 3) (fun x s=>.tuple [x,.int (vF s).1]) (fun _ s=>(vF s).2) (rng 0 8) (digS s 9)).1=ps.map prP:=ep;rw [ep'];rfl
 rcases List.eq_nil_or_concat ps with rfl | ⟨qs,q,eq⟩
 ·refine ⟨[(7,(vF s1).1)],(vF s1).2,⟨⟨by simp,by simp,by simp,by simp⟩,fun p hp=>by rw [List.mem_singleton.mp hp];exact v_b s1⟩,fun d h i c hc hi=>?_⟩;have g:=bT (d+2) h hc 9 hi (by decide) e9;simp [bO,hi,hk,g,er,e9,e3,Stp.dat,szl,aM];rw [ec d h i hi]
  ·simp [prP,hi,aM,szl,bR3]
  ·exact fun _ _ _=>rfl
  ·intro x _ u s;simp [hi,e3]
  ·intro x _ u s;simp [hi,szl]
 ·rw [List.concat_eq_append] at eq;subst eq;have hz:qs.length+1<=16777216:=by simp at hl;omega
  have hz2:qs.length+1+1<=16777216:=by simp at hl;omega
  have hpr:prP=fun p=>PyData.tuple [.int p.1,.int p.2]:=rfl;have hne:=bB2 (qs++[q]) (by simp);have hat:atI ((qs++[q]).map prP) (-1)=some (prP q):=by rw [List.map_append];exact aQ6 _ _
  by_cases h7:q.1=7
  ·refine ⟨qs++[q],(vF s1).2,⟨⟨by simp,by omega,(fun p hp=>by have:=hb p hp;omega),hp⟩,fun p hp=>(hb p hp).2⟩,fun d h i c hc hi=>?_⟩;have h7':(q.1:Int)=7:=by omega
   have g:=bT (d+2) h hc 9 hi (by decide) e9;simp [bO,hi,hk,g,er,e9,e3,Stp.dat,szl,aM];rw [ec d h i hi]
   ·simp [-List.map_append,hne,hat,prP,hi,aM,szl,h7',hz];simp [hpr,h7']
   ·exact fun _ _ _=>rfl
   ·intro x _ u s;simp [hi,e3]
   ·intro x _ u s;simp [hi,szl]
  ·refine ⟨qs++[q]++[(7,(vF s1).1)],(vF s1).2,⟨⟨by simp,by simp at hl ⊢;omega,fun p hp=>?_,?_⟩,fun p hp=>(List.mem_append.mp hp).elim (fun z=>(hb p z).2) fun z=>by rw [List.mem_singleton.mp z];exact v_b s1⟩,fun d h i c hc hi=>?_⟩
   ·rcases List.mem_append.mp hp with hp | hp
    ·have:=hb p hp;omega
    ·simp at hp;rw [hp];show 7 < 8;omega
   ·rw [List.map_append];refine List.pairwise_append.mpr ⟨hp,by simp,fun a ha b hb'=>?_⟩;simp at hb';subst hb';rw [List.map_append] at hp ha;have hlt:=(List.pairwise_append.mp hp).2.2;have hq:=hb q (by simp);rcases List.mem_append.mp ha with ha | ha
    ·have:=hlt a ha q.1 (by simp);omega
    ·simp at ha;omega
   have h7':¬ (q.1:Int)=7:=by omega
   have g:=bT (d+2) h hc 9 hi (by decide) e9;simp [bO,hi,hk,g,er,e9,e3,Stp.dat,szl,aM];rw [ec d h i hi]
   ·simp [-List.map_append,hne,hat,prP,hi,aM,szl,h7',hz2];simp [hpr]
   ·exact fun _ _ _=>rfl
   ·intro x _ u s;simp [hi,e3]
   ·intro x _ u s;simp [hi,szl]
def sM (s:S3):∃ r:Stp×S3,(Sok r.1/\cE1 r.1)/\∀ (d:Nat) (h:aA) (i:Nat) (c:Cell),Stf c s->i < h.length->aD T (d+4) "_law_step" [.c i] (h.set i c)=some (r.1.dat,h.set i (stL r.2)):=by
 have h0:=dA s (b:=9) (by decide);have h9:=dB s (b:=9) (by decide)
 by_cases k5:aK s 9 < 5
 ·exact ⟨(.call (.one (pF (digS s 9)).1),(pF (digS s 9)).2),⟨aQ5 _,p_v _⟩,fun d h i c hc hi=>aF0 s k5 d h hc hi⟩
 have:aK s 9=5\/aK s 9=6\/aK s 9=7\/aK s 9=8:=by omega
 rcases this with k | k | k | k
 ·obtain ⟨r,hr,e⟩:=bA9 s k;exact ⟨(.call r.1,r.2),hr,e⟩
 ·obtain ⟨r,hr,e⟩:=bB0 s k;exact ⟨(.call r.1,r.2),hr,e⟩
 ·obtain ⟨r,hr,e⟩:=bB1 s k;exact ⟨(.look r.1,r.2),⟨hr.1,True.intro⟩,e⟩
 ·obtain ⟨ps,s',hr,e⟩:=bB3 s k;exact ⟨(.lay ps,s'),hr,e⟩
def sF (s:S3):Stp×S3:=(sM s).choose
def bB4 (s:S3):Sok (sF s).1:=(sM s).choose_spec.1.1
def bB5 (d:Nat) (h:aA) {i:Nat} {c:Cell} {s:S3} (hc:Stf c s) (hi:i < h.length):aD T (d+4) "_law_step" [.c i] (h.set i c)=some ((sF s).1.dat,h.set i (stL (sF s).2)):=(sM s).choose_spec.2 d h i c hc hi
@[simp] theorem bR4 (d:Nat) (h:aA) {i:Nat} (s:S3) (hi:i < h.length):aD T (d+4) "_law_step" [.c i] (h.set i (stL s))=some ((sF s).1.dat,h.set i (stL (sF s).2)):=bB5 d h (stf s) hi
end K26

namespace K26
open PySem PySem.Spec PyProof.Rows L2 DL CI SJ
theorem uQ {n:Nat}:∀ (l:List Nat) (a:Nat),l.Pairwise (· < ·)->(∀ x∈l,a<=x/\x < n)->a<=n->l.length+a<=n
 | [],a,_,_,h=>by simpa using h
 | x::r,a,hp,hb,h=>by
  have hp':=List.pairwise_cons.mp hp;have hx:=hb x List.mem_cons_self;have:=uQ r (x+1) hp'.2 (fun y hy=>⟨hp'.1 y hy,(hb y (List.mem_cons_of_mem _ hy)).2⟩) hx.2;rw [List.length_cons];omega
def zL {ps:List (Nat×Int)} (h:Sok (.lay ps)):ps.length<=8:=by
 have:=uQ (n:=8) (ps.map (·.1)) 0 h.2.2.2 (fun x hx=>by
  obtain ⟨p,hp,rfl⟩:=List.mem_map.mp hx;exact ⟨Nat.zero_le _,h.2.2.1 p hp⟩) (by decide)
 simpa using this
variable (d:Nat) (h:aA)
def dnC (st:List Int):SJ.Call->SJ.Ans×List Int
 | .one o=>(.one (sd st o).1,(sd st o).2)
 | .span lo hi=>(.all ((st.drop lo).take (hi - lo)),st)
 | .deal cs=>(.each (dr st cs).1,(dr st cs).2)
def bB6 {c:SJ.Call} (hc:c.ok) {st:List Int} (hl:st.length=8):(dnC st c).2.length=8:=by
 cases c with
 | one o=>rw [<- hl];exact xG (by rw [hl];exact hc)
 | span lo hi=>exact hl
 | deal cs=>rw [<- hl];exact xH cs st fun o ho=>by rw [hl];exact hc.2.2 o ho
def jM {c:SJ.Call} (hc:c.ok) {st:List Int} (hl:st.length=8):Ans.fits c (dnC st c).1:=by
 cases c with
 | one o=>exact zI st o
 | span lo hi =>
  have h1:=hc.1;have h2:=hc.2;show ((st.drop lo).take (hi - lo)).length=hi - lo;simp;omega
 | deal cs=>exact aP8 cs st
def qQ {c:SJ.Call} (hc:c.ok) (st:List Int) (hl:st.length=8):aD T (d+4) "done" [.d (.tuple (st.map .int)),.d c.dat] h=some (.tuple [(dnC st c).1.dat,.tuple ((dnC st c).2.map .int)],h):=by
 cases c with
 | one o=>exact aQ0 (d+1) h o st hc hl
 | span lo hi=>exact aE9 (d+3) h lo hi (Nat.le_of_lt hc.1) hc.2 st hl
 | deal cs=>exact aE7 d h cs hc.2.2 (by have:=hc.1;omega) st hl
def dnS (st:List Int):Stp->PyData×List Int
 | .call c=>((dnC st c).1.dat,(dnC st c).2)
 | .look c=>((dnC st c).1.dat,st)
 | .lay ps=>(.tuple [.str "done"],ly st ps)
def sN {p:Stp} (hp:Sok p) {st:List Int} (hl:st.length=8):(dnS st p).2.length=8:=by
 cases p with
 | call c=>exact bB6 hp hl
 | look c=>exact hl
 | lay ps=>rw [<- hl];exact aP9 ps st fun p hp'=>by rw [hl];exact hp.2.2.1 p hp'
def xI {p:Stp} (hp:Sok p) {st:List Int} (hl:st.length=8):aD T (d+5) "done" [.d (.tuple (st.map .int)),.d p.dat] h=some (.tuple [(dnS st p).1,.tuple ((dnS st p).2.map .int)],h):=by
 cases p with
 | call c=>exact qQ (d+1) h hp st hl
 | look c=>exact aE8 d h fun h=>qQ d h hp st hl
 | lay ps=>exact aQ1 (d+2) h ps hp.2.2.1 st hl
def lR:Stp->PyData->Bool
 | .call c,t=>aJ t "refused" 1||bD c t
 | .look c,t=>!aJ t "refused" 1&&bD c t
 | .lay _,t=>!aJ t "refused" 1&&aJ t "done" 1
def bR5 (a:SJ.Ans):aJ a.dat "refused" 1=false:=by
 cases a with
 | one a=>cases a<;>simp [Ans.dat,An1.dat,aJ]
 | all ns=>simp [Ans.dat,aJ]
 | each as=>simp [Ans.dat,aJ]
def jN {c:SJ.Call} (hc:c.ok) {a:SJ.Ans} (hf:Ans.fits c a):lR (.call c) a.dat=true/\lR (.look c) a.dat=true:=by
 simp [lR,aD5 hf hc,bR5]
end K26

namespace K26
open PySem PySem.Spec PyProof.Rows L2 DL CI SJ
variable (d:Nat) (h:aA) (t:PyData)
def aQ7 (c:SJ.Call):aD T (d+5) "is_own_answer" [.d (.tuple [.str "look",c.dat]),.d t] h=some (.bool (bD c t),h):=by
 rw [show d+5=(d+4)+1 from rfl,aY];simp [PyData.eqv,szl,nV]
def bB7 (ps:PyData):aD T (d+5) "is_own_answer" [.d (.tuple [.str "lay",ps]),.d t] h=some (.bool (aJ t "done" 1),h):=by
 simp [aY,PyData.eqv,szl]
def aQ8 {c:SJ.Call} (hc:c.ok):aD T (d+9) "is_answer" [.d (.tuple [.str "look",c.dat]),.d t] h=some (.bool (!aJ t "refused" 1&&bD c t),h):=by
 have hs:dI (.tuple [.str "look",c.dat])=true:=by
  cases c with
  | one o=>cases o<;>simp [Call.dat,One.dat,dI]
  | span lo hi=>simp [Call.dat,dI]
  | deal cs=>simp [Call.dat,dI]
 simp [gJ,dX (d) _ h hs,(gT hc).2.1,(gT hc).1];cases e:aJ t (Str.ofString "refused") 1
 ·simp [aQ7 (d+3)]
 ·simp [(gT hc).1]
def bB8 {ps:List (Nat×Int)} (hp:Sok (.lay ps)):aD T (d+9) "is_answer" [.d (.tuple [.str "lay",.tuple (ps.map prP)]),.d t] h=some (.bool (!aJ t "refused" 1&&aJ t "done" 1),h):=by
 have hl:=zL hp;have hs:dI (.tuple [.str "lay",.tuple (ps.map prP)])=true:=by simp [dI];omega
 have hg:=aO9 hp.1 hp.2.2.2 hp.2.2.1 hl;simp [gJ,dX (d) _ h hs,hg];cases e:aJ t (Str.ofString "refused") 1
 ·simp [bB7 (d+3)]
 ·simp [hg]
def aQ9 {p:Stp} (hp:Sok p):aD T (d+9) "is_answer" [.d p.dat,.d t] h=some (.bool (lR p t),h):=by
 cases p with
 | call c=>exact xE d t h hp
 | look c=>exact aQ8 d h t hp
 | lay ps=>exact bB8 d h t hp
def aR0 {p:Stp} (hp:Sok p):aD T (d+8) "is_step" [.d p.dat] h=some (.bool true,h):=by
 cases p with
 | call c =>
  rw [show (Stp.call c).dat=c.dat from rfl,dX _ _ _ (nW hp),(fI hp).2.1]
 | look c =>
  have hs:dI (.tuple [.str "look",c.dat])=true:=by
   cases c with
   | one o=>cases o<;>simp [Call.dat,One.dat,dI]
   | span lo hi=>simp [Call.dat,dI]
   | deal cs=>simp [Call.dat,dI]
  rw [show (Stp.look c).dat=.tuple [.str "look",c.dat] from rfl,dX _ _ _ hs,(gT hp).2.1]
 | lay ps=>exact xF d h hp.1 (by have:=zL hp;omega) hp.2.2.1 hp.2.2.2
def pA:An1->An1
 | .got v=>.got (v+1)
 | .yes=>.no
 | .no=>.yes
 | .dn=>.dn
def aF1:SJ.Ans->SJ.Ans
 | .one a=>.one (pA a)
 | .all ns=>.all ((ns.headD 0 - 1)::ns.tail)
 | .each as=>.each (as.map pA)
def qR {o:One} {a:An1} (hf:An1.fits o a):An1.fits o (pA a):=by
 cases o<;>cases a<;>simp [An1.fits] at hf<;>simp [An1.fits,pA]
theorem qS:∀ {os:List One} {as:List An1},Fit2 os as->Fit2 os (as.map pA)
 | _,_,.nil=>.nil
 | _,_,.cons h t=>.cons (qR h) (qS t)
def uR {c:SJ.Call} (hc:c.ok) {a:SJ.Ans} (hf:Ans.fits c a):Ans.fits c (aF1 a):=by
 cases c<;>cases a<;>simp only [Ans.fits] at hf<;>first | exact hf.elim | skip
 ·exact qR hf
 ·rename_i lo hi ns;have:=hc.1;show ((ns.headD 0 - 1)::ns.tail).length=hi - lo;simp;omega
 ·exact qS hf
def xJ (a:An1):aD T (d+1) "_law_altered" [.d a.dat] h=some ((pA a).dat,h):=by
 cases a<;>simp [eJ,An1.dat,pA,szl]
def aR1 (a:SJ.Ans) (ha:∀ ns,a=.all ns->ns≠[]/\ns.length<=8):aD T (d+2) "_law_altered" [.d a.dat] h=some ((aF1 a).dat,h):=by
 cases a with
 | one a=>exact xJ (d+1) h a
 | all ns =>
  cases ns with
  | nil=>exact absurd rfl (ha [] rfl).1
  | cons n r =>
   have:=bQ5 (.int n) (r.map .int);have hr:1+r.length<=16777216:=by have:=(ha _ rfl).2;simp at this;omega
   simp [eJ,Ans.dat,aF1,szl,this,hr]
 | each as =>
  rw [show d+2=(d+1)+1 from rfl,eJ];simp [Ans.dat,aF1,szl];have e1:as.map An1.dat=(as.map fun a=>(a.dat,(pA a).dat)).map (·.1):=by simp
  have e2:as.map (fun a=>(pA a).dat)=(as.map fun a=>(a.dat,(pA a).dat)).map (·.2):=by simp
  rw [e1,iH (fun δ=>∃ x,δ=[x])]
  ·simp [Function.comp_def]
  ·exact ⟨_,rfl⟩
  ·rintro q hq δ ⟨x,rfl⟩;obtain ⟨a,ha,rfl⟩:=List.mem_map.mp hq;exact ⟨_,rfl,⟨_,rfl⟩,by simp [xJ d]⟩
end K26

namespace K26
open PySem PySem.Spec PyProof.Rows L2 DL CI SJ
structure It where
 p:Stp
 t:PyData
 w:String
def It.dat (x:It):PyData:=.tuple [x.p.dat,x.t,.str (Str.ofString x.w)]
noncomputable def aF2:PyData:=.tuple [.str "refused"]
def tOk (t:PyData):Prop:=t=.none\/t=aF2\/∃ a:SJ.Ans,t=a.dat
structure It.ok (x:It):Prop where
 s:Sok x.p
 a:x.t=.none\/lR x.p x.t=true
 t:tOk x.t
 w:x.w="must"\/x.w="may"\/x.w="out"
variable (d:Nat) (h:aA)
theorem t_cases {t:PyData} (ht:tOk t):t=.none\/∃ xs,t=.tuple xs:=by
 rcases ht with rfl | rfl | ⟨a,rfl⟩
 ·exact .inl rfl
 ·exact .inr ⟨_,rfl⟩
 ·right;cases a with
  | one a=>cases a<;>exact ⟨_,rfl⟩
  | all ns=>exact ⟨_,rfl⟩
  | each as=>exact ⟨_,rfl⟩
def uS {w:String} (hw:w="must"\/w="may"\/w="out"):xIn (.d (.str (Str.ofString w))) (.d (.tuple [.str (Str.ofString "must"),.str (Str.ofString "may"),.str (Str.ofString "out")])) h=some true:=by
 rcases hw with rfl | rfl | rfl<;>simp [xIn,ref,PyData.eqv]
theorem gV {α:Type} (f:α->PyData):∀ xs:List α,eR (xs.map ((fun _=>PyData.bool true) ∘ f))=some (xs.map fun _=>true)
 | []=>rfl
 | x::r=>by
  show eR (.bool true::r.map ((fun _=>PyData.bool true) ∘ f))=_;rw [eR,gV f r];rfl
def aF3 {x:It} (hx:x.ok):aD T (d+10) "is_item" [.d x.dat] h=some (.bool true,h):=by
 obtain ⟨p,t,w⟩:=x;obtain ⟨hs,ha,ht,hw⟩:=hx;dsimp only at hs ha ht hw;have e1:=aR0 (d+1) h hs;have e2:=aQ9 d h t hs;rcases t_cases ht with rfl | ⟨xs,rfl⟩
 ·simp [qM,It.dat,fZ,e1,isi,fE,uS h hw]
 ·have ha':lR p (.tuple xs)=true:=by
   rcases ha with ha | ha
   ·cases ha
   ·exact ha
  rw [ha'] at e2;simp [qM,It.dat,fZ,e1,e2,isi,fE,uS h hw]
def uT {xs:List It} (hx:∀ x∈xs,x.ok) (hl:xs.length<=120):aD T (d+11) "are_items" [.d (.tuple (xs.map It.dat))] h=some (.bool true,h):=by
 have hl':(xs.length:Int)<=120:=by omega
 simp [uH,isi,fE,hl',aM];rw [bH (fun x=>.bool true) 0 (fun _ _ _=>rfl)]
 ·simp [gV]
 ·intro y hy u;obtain ⟨x,hx',rfl⟩:=List.mem_map.mp hy;simp [aF3 d h (hx x hx')]
def qT {ns:List Int} {n:Int} (hb:∀ x∈ns,0<=x/\x < n):aD T (d+3) "are_numbers" [.d (.tuple (ns.map .int)),.d (.int n)] h=some (.bool true,h):=by
 simp [oW,aM];rw [bH (fun x=>.bool true) 0 (fun _ _ _=>rfl)]
 ·simp [gV]
 ·intro y hy u;obtain ⟨x,hx',rfl⟩:=List.mem_map.mp hy;have:=hb x hx';simp [gR,fH];omega
theorem kM:∀ ns:List Int,dF (ns.map .int)=some ns
 | []=>rfl
 | a::r=>by simp [dF,kM r]
def uU {ns:List Int} (h:ns.Nodup):ST.dd ns=ns:=by
 unfold ST.dd
 suffices H:∀ (l ac:List Int),(ac++l).Nodup->l.foldl step_dedup ac=ac++l by simpa using H ns [] (by simpa using h)
 intro l;induction l with
 | nil=>simp
 | cons a r ih =>
  intro ac hn;rw [List.foldl_cons];have hna:a∉ac:=fun hm=>by
   have:=(List.nodup_append.mp hn).2.2 a hm a List.mem_cons_self;exact this rfl
  have e:step_dedup ac a=ac++[a]:=by
   unfold step_dedup;simp [hna]
  rw [e,ih (ac++[a]) (by simpa using hn)];simp
def lsT (xs:List PyData) (h:aA):xLS [.d (.tuple xs)] h=(match dF xs with | some ns=>if ns.length<=62 then some (.d (.int (ST.dd ns).length),h) else none | none=>none):=rfl
def uV {ns:List Int} {n:Int} (hb:∀ x∈ns,0<=x/\x < n) (hd:ns.Nodup) (hl:ns.length<=62):aD T (d+4) "are_unlike" [.d (.tuple (ns.map .int)),.d (.int ns.length),.d (.int n)] h=some (.bool true,h):=by
 have e:=qT d h hb;simp [sB,fZ,e,lsT,kM,uU hd,hl]
end K26

namespace K26
open PySem PySem.Spec PyProof.Rows L2 DL CI SJ
variable (d:Nat) (h:aA)
noncomputable def p2 (p:Nat×Nat):PyData:=.tuple [.int p.1,.int p.2]
noncomputable def p3 (p:Nat×Nat×Nat):PyData:=.tuple [.int p.1,.int p.2.1,.int p.2.2]
structure Pb where
 st:List Int
 its:List It
 ps:List (Nat×Nat)
 ts:List (Nat×Nat×Nat)
def Pb.dat (b:Pb):PyData:=.tuple [.tuple (b.st.map .int),.tuple (b.its.map It.dat),.tuple (b.ps.map p2),.tuple (b.ts.map p3)]
def must (its:List It) (x:Nat):Prop:=∃ y,its[x]?=some y/\y.w="must"
structure Pb.ok (b:Pb):Prop where
 st:b.st.length=8
 il:b.its.length<=120
 its:∀ x∈b.its,x.ok
 pl:b.ps.length<=100
 ps:∀ p∈b.ps,p.1 < b.its.length/\p.2 < b.its.length/\p.1≠p.2
 tl:b.ts.length<=100
 ts:∀ p∈b.ts,p.1 < b.its.length/\p.2.1 < b.its.length/\p.2.2 < b.its.length/\p.1≠p.2.1/\p.1≠p.2.2/\p.2.1≠p.2.2/\must b.its p.1/\must b.its p.2.1
def uW {ps:List (Nat×Nat)} {n:Nat} (hl:ps.length<=100) (hp:∀ p∈ps,p.1 < n/\p.2 < n/\p.1≠p.2):aD T (d+5) "are_pairs" [.d (.tuple (ps.map p2)),.d (.int n)] h=some (.bool true,h):=by
 have hl':¬ (4000:Int) < ps.length:=by omega
 simp [uI,isi,fE,hl',aM];rw [bH (fun x=>.bool true) 0 (fun _ _ _=>rfl)]
 ·simp [gV]
 ·intro y hy u;obtain ⟨p,hm,rfl⟩:=List.mem_map.mp hy;obtain ⟨h1,h2,h3⟩:=hp p hm;have e:=uV d h (ns:=[(p.1:Int),(p.2:Int)]) (n:=n) (by simp;omega) (by simp;omega) (by simp);have e':aD T (d+4) "are_unlike" [.d (p2 p),.d (.int 2),.d (.int n)] h=some (.bool true,h):=e;simp [e']
def qU {its:List It} {x:Nat} {y:It} (e:its[x]?=some y):atI (its.map It.dat) (x:Int)=some y.dat:=by
 have hx:x < its.length:=(List.getElem?_eq_some_iff.mp e).1;exact eW (by simp [e])
def pB {its:List It} {ts:List (Nat×Nat×Nat)} (hl:ts.length<=100) (hp:∀ p∈ts,p.1 < its.length/\p.2.1 < its.length/\p.2.2 < its.length/\p.1≠p.2.1/\p.1≠p.2.2/\p.2.1≠p.2.2/\must its p.1/\must its p.2.1):aD T (d+5) "are_triples" [.d (.tuple (ts.map p3)),.d (.tuple (its.map It.dat))] h=some (.bool true,h):=by
 have hl':¬ (4000:Int) < ts.length:=by omega
 simp [oX,isi,fE,hl',aM];rw [bH (fun x=>.bool true) 0 (fun _ _ _=>rfl)]
 ·simp [gV];rw [qJ (fun _=>.bool true) (fun δ=>∃ a b c,δ=[a,b,c,some (.d (.tuple (its.map It.dat)))])]
  ·simp [gV]
  ·exact ⟨_,_,_,rfl⟩
  ·rintro y hy δ ⟨a,b,c,rfl⟩;obtain ⟨p,hm,rfl⟩:=List.mem_map.mp hy;obtain ⟨h1,h2,h3,h4,h5,h6,⟨x1,e1,w1⟩,⟨x2,e2,w2⟩⟩:=hp p hm;refine ⟨[some (.d (.int p.1)),some (.d (.int p.2.1)),some (.d (.int p.2.2)),_],by simp [p3],⟨_,_,_,rfl⟩,?_⟩;simp [qU e1,qU e2,It.dat,w1,w2,PyData.eqv]
 ·intro y hy u;obtain ⟨p,hm,rfl⟩:=List.mem_map.mp hy;obtain ⟨h1,h2,h3,h4,h5,h6,_⟩:=hp p hm;have e:=uV d h (ns:=[(p.1:Int),(p.2.1:Int),(p.2.2:Int)]) (n:=its.length) (by simp;omega) (by simp;omega) (by simp);have e':aD T (d+4) "are_unlike" [.d (p3 p),.d (.int 3),.d (.int its.length)] h=some (.bool true,h):=e;simp [e']
def nZ {st:List Int} (hl:st.length=8):aD T (d+3) "is_stand" [.d (.tuple (st.map .int))] h=some (.bool true,h):=by
 have:=dH d h (st.map .int);simp [wV,fZ,hl];simp [fH]
def sO {b:Pb} (hb:b.ok):aD T (d+12) "is_problem" [.d b.dat] h=some (.bool true,h):=by
 have e1:=nZ (d+8) h hb.st;have e2:=uT d h hb.its (by have:=hb.il;omega);have e3:=uW (d+6) h hb.pl hb.ps;have e4:=pB (d+6) h hb.tl hb.ts;simp [sC,Pb.dat,fZ,e1,e2,e3,e4]
def bB9 {b:Pb} (hb:b.ok):aD T (d+13) "check_problem" [.d b.dat] h=some (.none,h):=by
 simp [lO,sO d h hb]
end K26

namespace K26
open PySem PySem.Spec PyProof.Rows L2 DL CI SJ
variable (d:Nat) (h:aA)
def aR2 (a:An1) (n:Nat):aI (n+1) a.dat=true:=by cases a<;>simp [An1.dat]
theorem jO:∀ (ns:List Int) (n:Nat),plainsB n (ns.map .int)=true
 | [],n=>by simp
 | a::r,n=>by simp [jO r]
theorem zM:∀ (as:List An1) (n:Nat),plainsB (n+1) (as.map An1.dat)=true
 | [],n=>by simp
 | a::r,n=>by simp [aR2,zM r]
def bR6 (a:SJ.Ans):aI 64 a.dat=true:=by
 cases a with
 | one a=>exact aR2 a 63
 | all ns=>simp [Ans.dat,jO]
 | each as=>simp [Ans.dat,zM]
def cE2 {t:PyData} (ht:tOk t):aI 64 t=true:=by
 rcases ht with rfl | rfl | ⟨a,rfl⟩
 ·simp
 ·simp [aF2]
 ·exact bR6 a
def bC0 (st:List Int) (p:Stp):tOk (dnS st p).1/\(dnS st p).1≠.none:=by
 have na:∀ a:SJ.Ans,a.dat≠.none:=fun a=>by
  cases a with
  | one a=>cases a<;>simp [Ans.dat,An1.dat]
  | all ns=>simp [Ans.dat]
  | each as=>simp [Ans.dat]
 cases p with
 | call c=>exact ⟨.inr (.inr ⟨_,rfl⟩),na _⟩
 | look c=>exact ⟨.inr (.inr ⟨_,rfl⟩),na _⟩
 | lay ps=>exact ⟨.inr (.inr ⟨.one .dn,rfl⟩),by simp [dnS]⟩
open Classical in
def bh (st:List Int) (y:It):PyData:=if y.t=.none\/PyData.eqv y.t (dnS st y.p).1=true then .tuple ((dnS st y.p).2.map .int) else .none
def cE3 {a b:PyData} (ha:tOk a) (hb:tOk b):xEq (.d a) (.d b) h=some (PyData.eqv a b):=by
 simp [xEq,ref,cE2 ha,cE2 hb]
def cE4 {its:List It} {st:List Int} {j x:Nat} {y:It} {fs:List (Str×W)} (ey:its[x]?=some y) (hy:y.ok) (hl:st.length=8) (ho:h[j]?=some (.o 280 fs)) (hf:fs.lookup (Str.ofString "listed")=some (.d (.tuple (its.map It.dat)))) :
  callM T (d+6) "stand_behind" [.c j,.d (.tuple (st.map .int)),.d (.int x)] h=some (.d (bh st y),h):=by
 have e1:=xI d h hy.s hl;have e2:=qU ey;have e3:T.fo 280 (Str.ofString "listed")=true:=by decide +kernel
 have e4:=cE3 h hy.t (bC0 st y.p).1;obtain ⟨p,t,w⟩:=y;dsimp only at e1 e4;rcases t_cases hy.t with rfl | ⟨xs,rfl⟩
 ·simp [gA,ho,hf,e3,e1,e2,It.dat,bh]
 ·cases hq:PyData.eqv (.tuple xs) (dnS st p).1<;>simp [gA,ho,hf,e3,e1,e2,e4,It.dat,bh,hq]
end K26

namespace K26
open PySem PySem.Spec PyProof.Rows L2 DL CI SJ
noncomputable def nI (k:Nat):PyData:=.int k
noncomputable def dT (its:List It) (k:Nat):Bool:=match its[k]? with
 | some y=>decide (y.w="must")
 | none=>false
def mus (its:List It):List Nat:=(List.range its.length).filter (dT its)
def ahL (its:List It) (ps:List (Nat×Nat)) (x:Nat):List Nat:=(ps.filter fun p=>decide (p.2=x)&&dT its p.1).map (·.1)
noncomputable def laL (ps:List (Nat×Nat)) (x:Nat):List Nat:=(ps.filter fun p=>decide (p.1=x)).map (·.2)
noncomputable def gaL (ts:List (Nat×Nat×Nat)) (x:Nat):List (Nat×Nat):=(ts.filter fun t=>decide (t.2.2=x)).map fun t=>(t.1,t.2.1)
def Gf (its:List It) (ps:List (Nat×Nat)) (ts:List (Nat×Nat×Nat)) (k x:Nat):List PyData:=if k=0 then (ahL its ps x).map nI else if k=1 then (laL ps x).map nI else (gaL ts x).map p2
def xK (its:List It) (ps:List (Nat×Nat)) (ts:List (Nat×Nat×Nat)) (k x:Nat):(Gf its ps ts k x).length<=ps.length+ts.length:=by
 unfold Gf ahL laL gaL;have h1:=List.length_filter_le (fun p=>decide (p.2=x)&&dT its p.1) ps;have h2:=List.length_filter_le (fun p=>decide (p.1=x)) ps;have h3:=List.length_filter_le (fun t=>decide (t.2.2=x)) ts;split
 ·simp;omega
 split
 ·simp;omega
 ·simp;omega
theorem bG5 {n k k' y y':Nat} (hy:y<=n) (h:k < k'):k*(n+1)+y < k'*(n+1)+y':=by
 have:(k+1)*(n+1)<=k'*(n+1):=Nat.mul_le_mul_right _ h;rw [Nat.succ_mul] at this;omega
def aR3 {n k k' y y':Nat} (hy:y<=n) (hy':y'<=n) (e:k*(n+1)+y=k'*(n+1)+y'):k=k'/\y=y':=by
 rcases Nat.lt_trichotomy k k' with h | h | h
 ·have:=bG5 (y':=y') hy h;omega
 ·subst h;omega
 ·have:=bG5 (y':=y) hy' h;omega
structure Wz (h0:aA) (n:Nat) (fs:List (Str×W)) (t:Nat) (G:Nat->Nat->List PyData) (H:aA):Prop where
 ln:H.length=h0.length+1+t*(n+1)
 sm:∀ i,i < h0.length->H[i]?=h0[i]?
 ob:H[h0.length]?=some (.o 280 fs)
 el:∀ k,k < t->∀ y,y < n->H[h0.length+1+(k*(n+1)+y)]?=some (.l (G k y))
 rl:∀ k,k < t->H[h0.length+1+(k*(n+1)+n)]?=some (.r (List.range' (h0.length+1+k*(n+1)) n))
variable {h0 H:aA} {n t:Nat} {fs:List (Str×W)} {G:Nat->Nat->List PyData}
theorem Wz.put (w:Wz h0 n fs t G H) (fs':List (Str×W)):Wz h0 n fs' t G (H.set h0.length (.o 280 fs')) where
 ln:=by rw [List.length_set];exact w.ln
 sm i hi:=by rw [List.getElem?_set_ne (by omega)];exact w.sm i hi
 ob:=by rw [List.getElem?_set_self (List.getElem?_eq_some_iff.mp w.ob).1]
 el k hk y hy:=by rw [List.getElem?_set_ne (by omega)];exact w.el k hk y hy
 rl k hk:=by rw [List.getElem?_set_ne (by omega)];exact w.rl k hk
def Wz.app (w:Wz h0 n fs t G H) {k y:Nat} (hk:k < t) (hy:y < n) {G':Nat->Nat->List PyData} {x:PyData} (h1:G' k y=G k y++[x]) (h2:∀ k' y',¬ (k'=k/\y'=y)->G' k' y'=G k' y'):Wz h0 n fs t G' (H.set (h0.length+1+(k*(n+1)+y)) (.l (G k y++[x]))) where
 ln:=by rw [List.length_set];exact w.ln
 sm i hi:=by rw [List.getElem?_set_ne (by omega)];exact w.sm i hi
 ob:=by rw [List.getElem?_set_ne (by omega)];exact w.ob
 el k' hk' y' hy':=by
  by_cases q:k'=k/\y'=y
  ·obtain ⟨rfl,rfl⟩:=q;rw [List.getElem?_set_self (List.getElem?_eq_some_iff.mp (w.el k' hk' y' hy')).1,h1]
  ·rw [List.getElem?_set_ne (fun z=>q ?_),w.el k' hk' y' hy',h2 k' y' q];have:=aR3 (n:=n) (k:=k) (k':=k') (y:=y) (y':=y') (by omega) (by omega) (by omega);omega
 rl k' hk':=by
  rw [List.getElem?_set_ne (fun z=>?_)]
  ·exact w.rl k' hk'
  ·have:=aR3 (n:=n) (k:=k) (k':=k') (y:=y) (y':=n) (by omega) (by omega) (by omega);omega
theorem cE5 {all:List PyData} {tt:XR W} (ht:∀ δ h,tt δ h=some (.c h.length,h++[.l []])) {g:XG} (hg:∀ w δ h,∃ δ1,g w δ h=some (δ1,h)):∀ (rest:List PyData) (δ:DSt) (H:aA) (ac:List Nat),
  cM g (aC true) tt none all rest δ H ac=some (ac++List.range' H.length rest.length,H++List.replicate rest.length (.l []))
 | [],δ,H,ac=>by simp [cM]
 | x::r,δ,H,ac=>by
  obtain ⟨δ1,e1⟩:=hg (.d x) δ H;have e:=cE5 (all:=all) ht hg r δ1 (H++[.l []]) (ac++[H.length]);rw [cM,bS,if_pos rfl,e1];simp [ht,e,List.range'_succ,List.replicate_succ]
theorem Wz.new (w:Wz h0 n fs t G H) (hG:∀ y,G t y=[]):Wz h0 n fs (t+1) G (H++List.replicate n (.l [])++[.r (List.range' H.length n)]) where
 ln:=by have:=w.ln;simp [Nat.succ_mul];omega
 sm i hi:=by
  have:=w.ln;rw [List.append_assoc,List.getElem?_append_left (by omega)];exact w.sm i hi
 ob:=by
  have:=w.ln;rw [List.append_assoc,List.getElem?_append_left (by omega)];exact w.ob
 el k hk y hy:=by
  have hl:=w.ln
  by_cases q:k=t
  ·subst q;rw [List.append_assoc,List.getElem?_append_right (by omega),List.getElem?_append_left (by simp;omega),hG,List.getElem?_replicate,if_pos (by omega)]
  ·have:=w.el k (by omega) y hy;rw [List.append_assoc,List.getElem?_append_left (List.getElem?_eq_some_iff.mp this).1];exact this
 rl k hk:=by
  have hl:=w.ln
  by_cases q:k=t
  ·subst q;rw [List.getElem?_append_right (by simp;omega)];have:h0.length+1+(k*(n+1)+n) - (H++List.replicate n (Cell.l [])).length=0:=by simp;omega
   rw [this,hl];rfl
  ·have:=w.rl k (by omega);rw [List.append_assoc,List.getElem?_append_left (List.getElem?_eq_some_iff.mp this).1];exact this
end K26

namespace K26
open PySem PySem.Spec PyProof.Rows L2 DL CI SJ
section
variable {x:Option (Fl×aA)} {k:DSt->Fl×aA->Option (Fl×aA)} (δ:DSt) (h:aA) (e:x=some (.nx δ,h))
include e
def sy {R:Option (Fl×aA)} (kk:k δ (.nx δ,h)=R):YP x (YQ k)=R:=by
 rw [e];exact kk
def sys {P:DSt->aA->Prop} (kk:∃ δ2 h2,k δ (.nx δ,h)=some (.nx δ2,h2)/\P δ2 h2):∃ δ2 h2,YP x (YQ k)=some (.nx δ2,h2)/\P δ2 h2:=by
 rw [e];exact kk
end
def fin {x:Option (Fl×aA)} {P:DSt->aA->Prop} {Q:aA->Prop} (hq:∀ δ H,P δ H->Q H) (e:∃ δ H,x=some (.nx δ,H)/\P δ H):∃ H,x.bind dG=some (.d .none,H)/\Q H:=by
 obtain ⟨δ,H,rfl,p⟩:=e;exact ⟨H,rfl,hq δ H p⟩
def uX:T.fo 280 (Str.ofString "first")=true/\T.fo 280 (Str.ofString "listed")=true/\T.fo 280 (Str.ofString "musts")=true/\T.fo 280 (Str.ofString "ahead")=true/\T.fo 280 (Str.ofString "later")=true/\T.fo 280 (Str.ofString "gaps")=true:=by decide +kernel
def F6 (b:Pb) (x y z:Nat):List (Str×W):=[("first",.d (.tuple (b.st.map .int))),("listed",.d (.tuple (b.its.map It.dat))),("musts",.d (.list ((mus b.its).map nI))),("ahead",.c x),("later",.c y),("gaps",.c z)]
noncomputable def isM:PyData->Bool
 | .tuple [_,.tuple [_,_,.str w]]=>w==Str.ofString "must"
 | _=>false
def aR4 (a b c:PyData) (w:Str):isM (.tuple [a,.tuple [b,c,.str w]])=(w==Str.ofString "must"):=rfl
noncomputable def aR5:PyData->PyData
 | .tuple [k,_]=>k
 | _=>.none
def cE6 (a b:PyData):aR5 (.tuple [a,b])=a:=rfl
theorem mE:∀ (xs:List PyData) (k:Nat),gZ k xs=(List.range xs.length).map fun i=>.tuple [.int (k+i:Nat),xs.getD i .none]
 | [],k=>rfl
 | x::r,k=>by
  rw [gZ,mE r (k+1),List.length_cons,List.range_succ_eq_map,List.map_cons,List.map_map]
  congr 1
  refine List.map_congr_left fun i _=>?_;simp;omega
def aR6 (its:List It):((eT (its.map It.dat)).filter isM).map aR5=(mus its).map nI:=by
 unfold eT;rw [mE,List.filter_map,List.map_map,List.length_map];unfold mus;rw [List.filter_congr (q:=dT its) fun k hk=>?_]
 ·refine List.map_congr_left fun k _=>?_;simp [cE6,nI]
 ·have hk:=List.mem_range.mp hk;rw [Bool.eq_iff_iff];simp [aR4,dT,hk,It.dat]
def bR7 {h0 H:aA} {n t:Nat} {fs:List (Str×W)} {G:Nat->Nat->List PyData} (w:Wz h0 n fs t G H) {k y:Nat} (hk:k < t) (hy:y < n):xIx (.c (h0.length+1+(k*(n+1)+n))) (.d (.int y)) H=some (.c (h0.length+1+(k*(n+1)+y)),H):=by
 have e:=w.rl k hk;have:atI (List.range' (h0.length+1+k*(n+1)) n) (y:Int)=some (h0.length+1+(k*(n+1)+y)):=by
  apply eW;rw [List.getElem?_range' (by omega)];simp;omega
 unfold xIx ref xIr;simp [e,this]
def JZ (h0:aA) (n:Nat) (δ0:DSt) (fs:List (Str×W)) (t:Nat) (δ:DSt) (H:aA):Prop:=δ=δ0/\Wz h0 n fs t (fun _ _=>[]) H
def kN {its:List It} {x:Nat} (hx:x < its.length):atI (its.map It.dat) (x:Int)=some its[x].dat:=qU (List.getElem?_eq_getElem hx)
def RL (h0:aA) (b:Pb) (fs:List (Str×W)) (ps:List (Nat×Nat)) (ts:List (Nat×Nat×Nat)) (δ:DSt) (H:aA):Prop:=(∃ u v w,δ=[some (.c h0.length),some (.d b.dat),u,v,w])/\Wz h0 b.its.length fs 3 (Gf b.its ps ts) H
def bR8 (its:List It) (ps:List (Nat×Nat)) (p:Nat×Nat) (k y:Nat):Gf its (ps++[p]) [] k y=if k=0/\y=p.2/\dT its p.1=true then Gf its ps [] k y++[nI p.1] else if k=1/\y=p.1 then Gf its ps [] k y++[nI p.2] else Gf its ps [] k y:=by
 unfold Gf ahL laL gaL
 by_cases k0:k=0
 ·subst k0
  by_cases hy:p.2=y
  ·cases hm:dT its p.1<;>simp [hy,hm,List.filter_append]
  ·have:¬ y=p.2:=fun z=>hy z.symm;simp [hy,this,List.filter_append]
 by_cases k1:k=1
 ·subst k1
  by_cases hy:p.1=y
  ·simp [hy,List.filter_append]
  ·have:¬ y=p.1:=fun z=>hy z.symm;simp [hy,this,List.filter_append]
 ·simp [k0,k1]
def cS0 (its:List It) (ps:List (Nat×Nat)) (ts:List (Nat×Nat×Nat)) (q:Nat×Nat×Nat) {k:Nat} (hk:k < 3) (y:Nat):Gf its ps (ts++[q]) k y=if k=2/\y=q.2.2 then Gf its ps ts k y++[p2 (q.1,q.2.1)] else Gf its ps ts k y:=by
 unfold Gf gaL
 by_cases k0:k=0
 ·subst k0;simp
 by_cases k1:k=1
 ·subst k1;simp
 have:k=2:=by omega
 subst this
 by_cases hy:q.2.2=y
 ·simp [hy,List.filter_append]
 ·have:¬ y=q.2.2:=fun z=>hy z.symm;simp [hy,this,List.filter_append]
def bR9 (d:Nat) {b:Pb} (hb:b.ok) (h0:aA):∃ H,callI T (d+2) "Ways" [.c h0.length,.d b.dat] (h0++[.o 280 []])=some (.d .none,H)/\Wz h0 b.its.length (F6 b (h0.length+1+(0*(b.its.length+1)+b.its.length)) (h0.length+1+(1*(b.its.length+1)+b.its.length)) (h0.length+1+(2*(b.its.length+1)+b.its.length))) 3 (Gf b.its b.ps b.ts) H:=by
 obtain ⟨f1,f2,f3,f4,f5,f6⟩:=uX;rw [bA1];obtain ⟨n,en⟩:∃ n,n=b.its.length:=⟨_,rfl⟩;obtain ⟨x0,e0⟩:∃ x0,x0=h0.length+1+(0*(n+1)+n):=⟨_,rfl⟩;obtain ⟨x1,e1⟩:∃ x1,x1=h0.length+1+(1*(n+1)+n):=⟨_,rfl⟩;obtain ⟨x2,e2⟩:∃ x2,x2=h0.length+1+(2*(n+1)+n):=⟨_,rfl⟩;rw [<- en,<- e0,<- e1,<- e2];have w0:Wz h0 n [] 0 (fun _ _=>[]) (h0++[.o 280 []]):=⟨by simp,fun i hi=>by rw [List.getElem?_append_left hi],by simp,fun k hk=>absurd hk (by omega),fun k hk=>absurd hk (by omega)⟩;generalize h0++[Cell.o 280 []]=H0 at w0;refine fin (P:=RL h0 b (F6 b x0 x1 x2) b.ps b.ts) (fun _ _ p=>by rw [en];exact p.2) ?_;have w1:=w0.put [(Str.ofString "first",.d (.tuple (b.st.map .int)))];refine sys [some (.c h0.length),some (.d b.dat),none,none,none] (H0.set h0.length (.o 280 [(Str.ofString "first",.d (.tuple (b.st.map .int)))])) (by simp [w0.ob,f1,Pb.dat,dY]) ?_;generalize H0.set h0.length (.o 280 [(Str.ofString "first",.d (.tuple (b.st.map .int)))])=H1 at w1;have w2:=w1.put [(Str.ofString "first",.d (.tuple (b.st.map .int))),(Str.ofString "listed",.d (.tuple (b.its.map It.dat)))];refine sys [some (.c h0.length),some (.d b.dat),none,none,none] (H1.set h0.length (.o 280 [(Str.ofString "first",.d (.tuple (b.st.map .int))),(Str.ofString "listed",.d (.tuple (b.its.map It.dat)))])) (by simp [w1.ob,f2,Pb.dat,dY]) ?_;generalize H1.set h0.length (.o 280 [(Str.ofString "first",.d (.tuple (b.st.map .int))),(Str.ofString "listed",.d (.tuple (b.its.map It.dat)))])=H2 at w2;refine dW (JZ h0 n [some (.c h0.length),some (.d b.dat),none,none,none] [(Str.ofString "first",.d (.tuple (b.st.map .int))),(Str.ofString "listed",.d (.tuple (b.its.map It.dat))),(Str.ofString "musts",.d (.list ((mus b.its).map nI)))] 0) ?_ ?_
 ·simp [w2.ob,f2,f3,gC,aM,List.lookup];rw [dE isM aR5 (fun δ=>∃ a b,δ=[a,b])]
  ·rw [List.nil_append,aR6];simp [w2.ob,f3,dY];exact ⟨_,_,⟨rfl,rfl⟩,rfl,w2.put _⟩
  ·exact ⟨_,_,rfl⟩
  ·rintro z hz δ ⟨a,b',rfl⟩;unfold eT at hz;rw [mE] at hz;obtain ⟨k,hk,rfl⟩:=List.mem_map.mp hz;have hk:k < b.its.length:=by simpa using hk
   exact ⟨[some (.d (.int (0+k:Nat))),some (.d b.its[k].dat)],by simp [hk],⟨_,_,rfl⟩,by simp [It.dat,aR4,PyData.eqv,hk],by simp [cE6]⟩
 rintro δ H3 ⟨rfl,w3⟩;have ht:∀ (δ:DSt) (h:aA),aS (xPl (aC [])) δ h=some (.c h.length,h++[.l []]):=fun δ h=>by simp [aS,szl]
 have nw:∀ (H:aA),cM (YG 0) (aC true) (aS (xPl (aC []))) none (b.its.map It.dat) (b.its.map It.dat) [none] H []=some (List.range' H.length n,H++List.replicate n (.l [])):=fun H=>by
  have:=cE5 (all:=b.its.map It.dat) ht (g:=YG 0) (fun w δ h=>⟨_,rfl⟩) (b.its.map It.dat) [none] H []
  simpa [en] using this
 simp only [cR8] at nw;have lk:∀ {t:Nat} {H:aA} {fs:List (Str×W)},Wz h0 n fs t (fun _ _=>[]) H->H.length+n=h0.length+1+(t*(n+1)+n):=fun w=>by
  rw [w.ln];omega
 refine dW (JZ h0 n [some (.c h0.length),some (.d b.dat),none,none,none] [(Str.ofString "first",.d (.tuple (b.st.map .int))),(Str.ofString "listed",.d (.tuple (b.its.map It.dat))),(Str.ofString "musts",.d (.list ((mus b.its).map nI))),(Str.ofString "ahead",.c x0)] 1) ?_ ?_
 ·have w4:=w3.new (fun _=>rfl);have l4:=lk w3;rw [<- e0] at l4;simp [w3.ob,f2,f4,List.lookup,nw,-List.append_assoc];rw [l4,w4.ob];simp [f4,dY,-List.append_assoc];exact ⟨_,_,⟨rfl,rfl⟩,rfl,w4.put _⟩
 rintro δ H4 ⟨rfl,w4⟩;refine dW (JZ h0 n [some (.c h0.length),some (.d b.dat),none,none,none] [(Str.ofString "first",.d (.tuple (b.st.map .int))),(Str.ofString "listed",.d (.tuple (b.its.map It.dat))),(Str.ofString "musts",.d (.list ((mus b.its).map nI))),(Str.ofString "ahead",.c x0),(Str.ofString "later",.c x1)] 2) ?_ ?_
 ·have w5:=w4.new (fun _=>rfl);have l5:=lk w4;rw [<- e1] at l5;simp [w4.ob,f2,f5,List.lookup,nw,-List.append_assoc];rw [l5,w5.ob];simp [f5,dY,-List.append_assoc];exact ⟨_,_,⟨rfl,rfl⟩,rfl,w5.put _⟩
 rintro δ H5 ⟨rfl,w5⟩;refine dW (JZ h0 n [some (.c h0.length),some (.d b.dat),none,none,none] (F6 b x0 x1 x2) 3) ?_ ?_
 ·have w6:=w5.new (fun _=>rfl);have l6:=lk w5;rw [<- e2] at l6;simp [w5.ob,f2,f6,List.lookup,nw,-List.append_assoc];rw [l6,w6.ob];simp [f6,dY,-List.append_assoc];exact ⟨_,_,⟨rfl,rfl⟩,rfl,w6.put _⟩
 rintro δ H6 ⟨rfl,w6⟩;obtain ⟨F,eF⟩:∃ F,F=F6 b x0 x1 x2:=⟨_,rfl⟩;have lA:F.lookup (Str.ofString "ahead")=some (.c x0):=by rw [eF];simp [F6,List.lookup]
 have lL:F.lookup (Str.ofString "later")=some (.c x1):=by rw [eF];simp [F6,List.lookup]
 have lG:F.lookup (Str.ofString "gaps")=some (.c x2):=by rw [eF];simp [F6,List.lookup]
 have lI:F.lookup (Str.ofString "listed")=some (.d (.tuple (b.its.map It.dat))):=by rw [eF];simp [F6,List.lookup]
 rw [<- eF] at w6 ⊢;have w6':Wz h0 b.its.length F 3 (Gf b.its [] []) H6:=by
  rw [<- en];have:Gf b.its [] []=fun _ _=>[]:=by funext k y;simp [Gf,ahL,laL,gaL]
  rw [this];exact w6
 subst en;refine dW (RL h0 b F b.ps []) ?_ ?_
 ·simp [Pb.dat];refine bX (fun k=>RL h0 b F (b.ps.take k) []) ⟨⟨_,_,_,rfl⟩,by rw [List.take_zero];exact w6'⟩ (fun δ H r=>by rw [List.length_map,List.take_length] at r;exact r) fun k hk δ H r=>?_;obtain ⟨⟨u,v,w,rfl⟩,wz⟩:=r;have hk':k < b.ps.length:=by simpa using hk
  have h100:=hb.pl;obtain ⟨q1,q2,q3⟩:=hb.ps b.ps[k] (List.getElem_mem hk');have et:b.ps.take (k+1)=b.ps.take k++[b.ps[k]]:=by rw [List.take_add_one,List.getElem?_eq_getElem hk'];rfl
  have egp:(b.ps.map p2)[k]=p2 b.ps[k]:=by simp
  rw [egp,et];have lt:(b.ps.take k).length<=100:=by rw [List.length_take];omega
  generalize b.ps.take k=ps at wz lt;generalize b.ps[k]=p at q1 q2 q3;obtain ⟨pa,pb⟩:=p;dsimp only at q1 q2 q3;refine ⟨[some (.c h0.length),some (.d b.dat),some (.d (.int pa)),some (.d (.int pb)),w],H,by simp [p2],?_⟩;have s1:(Gf b.its ps [] 1 pa).length < 16777216:=by have:=xK b.its ps [] 1 pa;simp at this;omega
  have s2:(Gf b.its ps [] 0 pb).length < 16777216:=by have:=xK b.its ps [] 0 pb;simp at this;omega
  have i1:=bR7 wz (k:=1) (by omega) q1;rw [<- e1] at i1;have g1:=wz.el 1 (by omega) pa q1;have w7:=wz.app (k:=1) (y:=pa) (by omega) q1 (x:=nI pb) (G':=fun k y=>if k=1/\y=pa then Gf b.its ps [] k y++[nI pb] else Gf b.its ps [] k y) (by simp) (fun k' y' z=>by simp [z]);generalize h0.length+1+(1*(b.its.length+1)+pa)=z1 at i1 g1 w7;have p1:eP (Str.ofString "append") (.c z1) H=true:=by simp [eP,g1]
  refine sys [some (.c h0.length),some (.d b.dat),some (.d (.int pa)),some (.d (.int pb)),w] (H.set z1 (.l (Gf b.its ps [] 1 pa++[nI pb]))) (by simp [wz.ob,f5,lL,i1,g1,p1,s1,szl,nI]) ?_;generalize H.set z1 (.l (Gf b.its ps [] 1 pa++[nI pb]))=H8 at w7;have e6:=kN q1;have mu:dT b.its pa=decide (b.its[pa].w="must"):=by simp [dT,q1]
  by_cases hw:b.its[pa].w="must"
  ·have i2:=bR7 w7 (k:=0) (by omega) q2;rw [<- e0] at i2;have g2:=w7.el 0 (by omega) pb q2;simp only [show ¬ (0=1/\pb=pa) by omega,if_false] at g2;have w8:=w7.app (k:=0) (y:=pb) (by omega) q2 (x:=nI pa) (G':=Gf b.its (ps++[(pa,pb)]) []) (by rw [bR8];simp [mu,hw]) (fun k' y' z=>by
    rw [bR8];have z':¬ (k'=0/\y'=pb/\dT b.its pa=true):=fun q=>z ⟨q.1,q.2.1⟩;rw [if_neg z'])
   simp only [show ¬ (0=1/\pb=pa) by omega,if_false] at w8;generalize h0.length+1+(0*(b.its.length+1)+pb)=z2 at i2 g2 w8;have p2':eP (Str.ofString "append") (.c z2) H8=true:=by simp [eP,g2]
   refine ⟨[some (.c h0.length),some (.d b.dat),some (.d (.int pa)),some (.d (.int pb)),w],_,?_,⟨_,_,_,rfl⟩,w8⟩;simp [w7.ob,f2,lI,e6,It.dat,hw,PyData.eqv,f4,lA,i2,g2,p2',s2,szl,nI]
  ·refine ⟨[some (.c h0.length),some (.d b.dat),some (.d (.int pa)),some (.d (.int pb)),w],H8,?_,⟨_,_,_,rfl⟩,?_⟩
   ·simp [w7.ob,f2,lI,e6,It.dat,hw,PyData.eqv,szl]
   ·have eg:Gf b.its (ps++[(pa,pb)]) []=fun k y=>if k=1/\y=pa then Gf b.its ps [] k y++[nI pb] else Gf b.its ps [] k y:=by
     funext k y
     rw [bR8];simp [mu,hw]
    rw [eg];exact w7
 rintro δ H7 ⟨⟨u,v,w,rfl⟩,w7⟩;refine dW (RL h0 b F b.ps b.ts) ?_ (fun δ H r=>⟨δ,H,rfl,r⟩);simp [Pb.dat];refine bX (fun k=>RL h0 b F b.ps (b.ts.take k)) ⟨⟨_,_,_,rfl⟩,by rw [List.take_zero];exact w7⟩ (fun δ H r=>by rw [List.length_map,List.take_length] at r;exact r) fun k hk δ H r=>?_;obtain ⟨⟨u,v,w,rfl⟩,wz⟩:=r;have hk':k < b.ts.length:=by simpa using hk
 have h100:=hb.tl;have h101:=hb.pl;obtain ⟨q1,q2,q3,_⟩:=hb.ts b.ts[k] (List.getElem_mem hk');have et:b.ts.take (k+1)=b.ts.take k++[b.ts[k]]:=by rw [List.take_add_one,List.getElem?_eq_getElem hk'];rfl
 have egp:(b.ts.map p3)[k]=p3 b.ts[k]:=by simp
 rw [egp,et];have lt:(b.ts.take k).length<=100:=by rw [List.length_take];omega
 generalize b.ts.take k=ts at wz lt;generalize b.ts[k]=p at q1 q2 q3;obtain ⟨pa,pb,pc⟩:=p;dsimp only at q1 q2 q3;refine ⟨[some (.c h0.length),some (.d b.dat),some (.d (.int pa)),some (.d (.int pb)),some (.d (.int pc))],H,by simp [p3],?_⟩;have s1:(Gf b.its b.ps ts 2 pc).length < 16777216:=by have:=xK b.its b.ps ts 2 pc;omega
 have i1:=bR7 wz (k:=2) (by omega) q3;rw [<- e2] at i1;have g1:=wz.el 2 (by omega) pc q3;have w8:Wz h0 b.its.length F 3 (Gf b.its b.ps (ts++[(pa,pb,pc)])) (H.set (h0.length+1+(2*(b.its.length+1)+pc)) (.l (Gf b.its b.ps ts 2 pc++[p2 (pa,pb)]))):=by
  have:=wz.app (k:=2) (y:=pc) (by omega) q3 (x:=p2 (pa,pb)) (G':=fun k y=>if k=2/\y=pc then Gf b.its b.ps ts k y++[p2 (pa,pb)] else Gf b.its b.ps ts k y) (by simp) (fun k' y' z=>by simp [z]);exact ⟨this.ln,this.sm,this.ob,fun k hk y hy=>by rw [this.el k hk y hy,cS0 _ _ _ _ hk],this.rl⟩
 generalize h0.length+1+(2*(b.its.length+1)+pc)=z1 at i1 g1 w8;have p1:eP (Str.ofString "append") (.c z1) H=true:=by simp [eP,g1]
 refine ⟨[some (.c h0.length),some (.d b.dat),some (.d (.int pa)),some (.d (.int pb)),some (.d (.int pc))],_,?_,⟨_,_,_,rfl⟩,w8⟩;simp [wz.ob,f6,lG,i1,g1,p1,s1,szl,p2]
end K26

namespace K26
open PySem PySem.Spec PyProof.Rows L2 DL CI SJ
theorem sq {α β:Type} {x:Option α} {f:α->Option β} {R:Option β} (a:α) (e:x=some a) (k:f a=R):x.bind f=R:=by
 rw [e];exact k
def lpB {x:Option (Fl×aA)} {f:DSt->Fl×aA->Option (Fl×aA)} {R:Option (Fl×aA)} (bd:Bool) (w:W) (h:aA) (I:DSt->Prop) (e:∃ δ',x=some (if bd=true then .rt w else .nx δ',h)/\I δ') (k1:bd=true->some (.rt w,h)=R) (k2:bd=false->∀ δ',I δ'->f δ' (.nx δ',h)=R):YP x (YQ f)=R:=by
 obtain ⟨δ',e,i⟩:=e;rw [e];cases bd with
 | true=>exact k1 rfl
 | false=>exact k2 rfl δ' i
def bI {α:Type} {x:Option α} {f:α->Option (Fl×aA)} {bd:Bool} {w:W} {h:aA} {I:DSt->Prop} (a:α) (e:x=some a) (k:∃ δ',f a=some (if bd=true then .rt w else .nx δ',h)/\I δ'):∃ δ',x.bind f=some (if bd=true then .rt w else .nx δ',h)/\I δ':=by
 rw [e];exact k
theorem fJ {α:Type} {g:XG} {tb:XS} {c:Option Nat} {all:List PyData} {h:aA} (hc:CI.condB c all h=true) (F:α->PyData) (bad:α->Bool) (w:W) (I:DSt->Prop):∀ (qs:List α) {δ:DSt},I δ ->
  (∀ q∈qs,∀ δ,I δ->∃ δ1,g (.d (F q)) δ h=some (δ1,h)/\∃ δ2,tb δ1 h=some (if bad q=true then .rt w else .nx δ2,h)/\I δ2)->∃ δ',aX g tb c all (qs.map F) δ h=some (if qs.any bad=true then .rt w else .nx δ',h)/\I δ'
 | [],δ,hi,_=>⟨δ,by simp [aX,hc],hi⟩
 | q::r,δ,hi,ht=>by
  obtain ⟨δ1,e1,δ2,e2,i2⟩:=ht q List.mem_cons_self δ hi;obtain ⟨δ3,e3,i3⟩:=fJ hc F bad w I r i2 fun y hy=>ht y (List.mem_cons_of_mem _ hy);refine ⟨δ3,?_,i3⟩;rw [List.map_cons,aX,if_pos hc,e1];simp only [bs,e2];cases hb:bad q with
  | true=>simp [hb]
  | false=>simp [hb,e3]
def Inn (H:aA) (w:W) (pl:List Nat):Prop:=∀ y:Nat,xIn (.d (.int y)) w H=some (decide (y∈pl))
def bS0 (pl:List Nat) (y:Nat):((pl.map nI).any fun z=>PyData.eqv z (.int y))=decide (y∈pl):=by
 rw [Bool.eq_iff_iff];simp [nI,PyData.eqv];constructor
 ·rintro ⟨x,hx,e⟩;rw [<- show x=y by omega];exact hx
 ·exact fun h=>⟨y,h,rfl⟩
theorem qV:∀ (pl:List Nat) (m:Nat),plainsB m (pl.map nI)=true
 | [],m=>by simp
 | a::r,m=>by simp [nI,qV r]
def bS1 {H:aA} {w:W} {pl:List Nat} (e:ref H w=some (.list (pl.map nI))):Inn H w pl:=fun y=>by
 unfold xIn;rw [e];have:=bS0 pl y;rw [List.any_map] at this;simp [ref,qV,this]
def aR7 (H:aA) (pl:List Nat):Inn H (.d (.list (pl.map nI))) pl:=bS1 rfl
noncomputable def wdI (its:List It) (x:Nat):String:=(its[x]?.map It.w).getD ""
def eK (b:Pb) (pl:List Nat) (x:Nat):Bool:=!(decide (x∈pl)||decide (wdI b.its x="out"))&&(!((ahL b.its b.ps x).any fun y=>!decide (y∈pl))&&(!((laL b.ps x).any fun y=>decide (y∈pl))&&!((gaL b.ts x).any fun q=>decide (q.1∈pl)&&!decide (q.2∈pl))))
def pqI (i:Int):peq (.int i) (.int i)=true:=by show (i==i)=true;simp
theorem sP:∀ l:List Nat,peqs (l.map nI) (l.map nI)=true
 | []=>rfl
 | a::r=>by show (peq (.int a) (.int a)&&peqs (r.map nI) (r.map nI))=true;rw [pqI,sP r];rfl
theorem aR8:∀ l:List (Nat×Nat),peqs (l.map p2) (l.map p2)=true
 | []=>rfl
 | a::r=>by show ((peq (.int a.1) (.int a.1)&&(peq (.int a.2) (.int a.2)&&true))&&peqs (r.map p2) (r.map p2))=true;rw [pqI,pqI,aR8 r];rfl
def xL {H:aA} {k:Nat} {xs:List PyData} (e:H[k]?=some (.l xs)) (hp:peqs xs xs=true):CI.condB (some k) xs H=true:=by
 unfold CI.condB;dsimp only;rw [e];exact hp
structure Wd (b:Pb) (j:Nat) (H:aA):Prop where
 ob:H[j]?=some (.o 280 (F6 b (j+1+(0*(b.its.length+1)+b.its.length)) (j+1+(1*(b.its.length+1)+b.its.length)) (j+1+(2*(b.its.length+1)+b.its.length))))
 el:∀ k,k < 3->∀ y,y < b.its.length->H[j+1+(k*(b.its.length+1)+y)]?=some (.l (Gf b.its b.ps b.ts k y))
 rl:∀ k,k < 3->H[j+1+(k*(b.its.length+1)+b.its.length)]?=some (.r (List.range' (j+1+k*(b.its.length+1)) b.its.length))
def cE7 {h0 H:aA} {b:Pb} (w:Wz h0 b.its.length (F6 b (h0.length+1+(0*(b.its.length+1)+b.its.length)) (h0.length+1+(1*(b.its.length+1)+b.its.length)) (h0.length+1+(2*(b.its.length+1)+b.its.length))) 3 (Gf b.its b.ps b.ts) H):Wd b h0.length H:=⟨w.ob,w.el,w.rl⟩
def bS2 {b:Pb} {j:Nat} {H:aA} (w:Wd b j H) {k y:Nat} (hk:k < 3) (hy:y < b.its.length):xIx (.c (j+1+(k*(b.its.length+1)+b.its.length))) (.d (.int y)) H=some (.c (j+1+(k*(b.its.length+1)+y)),H):=by
 have e:=w.rl k hk;have:atI (List.range' (j+1+k*(b.its.length+1)) b.its.length) (y:Int)=some (j+1+(k*(b.its.length+1)+y)):=by
  apply eW;rw [List.getElem?_range' (by omega)];simp;omega
 unfold xIx ref xIr;simp [e,this]
def Wd.ex {b:Pb} {j:Nat} {H:aA} (w:Wd b j H):∃ a0 a1 a2,H[j]?=some (.o 280 (F6 b a0 a1 a2))/\(∀ x,x < b.its.length->∃ k,xIx (.c a0) (.d (.int x)) H=some (.c k,H)/\H[k]?=some (.l ((ahL b.its b.ps x).map nI))) /\
  (∀ x,x < b.its.length->∃ k,xIx (.c a1) (.d (.int x)) H=some (.c k,H)/\H[k]?=some (.l ((laL b.ps x).map nI)))/\(∀ x,x < b.its.length->∃ k,xIx (.c a2) (.d (.int x)) H=some (.c k,H)/\H[k]?=some (.l ((gaL b.ts x).map p2))) :=
 ⟨_,_,_,w.ob,fun x hx=>⟨_,bS2 w (by omega) hx,w.el 0 (by omega) x hx⟩,fun x hx=>⟨_,bS2 w (by omega) hx,w.el 1 (by omega) x hx⟩,fun x hx=>⟨_,bS2 w (by omega) hx,w.el 2 (by omega) x hx⟩⟩
noncomputable def wdZ (b:Pb):Nat:=1+3*(b.its.length+1)
def Wd.grow {b:Pb} {j:Nat} {H H':aA} (w:Wd b j H) (hs:∀ (i:Nat) (c:Cell),j<=i->i < j+wdZ b->H[i]?=some c->H'[i]?=some c):Wd b j H':=by
 have z:∀ k,k < 3->∀ y,y<=b.its.length->j+1+(k*(b.its.length+1)+y) < j+wdZ b:=fun k hk y hy=>by
  unfold wdZ;have:k*(b.its.length+1)<=2*(b.its.length+1):=Nat.mul_le_mul_right _ (by omega);omega
 exact ⟨hs _ _ (Nat.le_refl _) (by unfold wdZ;omega) w.ob,fun k hk y hy=>hs _ _ (by omega) (z k hk y (by omega)) (w.el k hk y hy),fun k hk=>hs _ _ (by omega) (z k hk _ (Nat.le_refl _)) (w.rl k hk)⟩
def cS1 (d:Nat) {b:Pb} {j x:Nat} {H:aA} {w1:W} {pl:List Nat} (w:Wd b j H) (hx:x < b.its.length) (hin:Inn H w1 pl):callM T (d+1) "may_follow" [.c j,w1,.d (.int x)] H=some (.d (.bool (eK b pl x)),H):=by
 obtain ⟨f1,f2,f3,f4,f5,f6⟩:=uX;obtain ⟨a0,a1,a2,ho,h2,h3,h4⟩:=w.ex;obtain ⟨F,eF⟩:∃ F,F=F6 b a0 a1 a2:=⟨_,rfl⟩;have lA:F.lookup (Str.ofString "ahead")=some (.c a0):=by rw [eF];simp [F6,List.lookup]
 have lL:F.lookup (Str.ofString "later")=some (.c a1):=by rw [eF];simp [F6,List.lookup]
 have lG:F.lookup (Str.ofString "gaps")=some (.c a2):=by rw [eF];simp [F6,List.lookup]
 have lI:F.lookup (Str.ofString "listed")=some (.d (.tuple (b.its.map It.dat))):=by rw [eF];simp [F6,List.lookup]
 rw [<- eF] at ho;have e6:=kN hx;have ew:wdI b.its x=b.its[x].w:=by simp [wdI,hx]
 rw [oZ];refine sq (.rt (.d (.bool (eK b pl x))),H) ?_ (by simp)
 by_cases c1:x∈pl\/b.its[x].w="out"
 ·have em:eK b pl x=false:=by
   unfold eK;rw [ew];rcases c1 with c1 | c1<;>simp [c1]
  rw [em];refine sq (.rt (.d (.bool false)),H) ?_ rfl
  by_cases c2:x∈pl
  ·simp [hin x,c2]
  ·have c3:b.its[x].w="out":=c1.resolve_left c2;simp [hin x,c2,ho,f2,lI,e6,It.dat,c3,PyData.eqv]
 have c2:¬ x∈pl:=fun z=>c1 (.inl z);have c3:¬ b.its[x].w="out":=fun z=>c1 (.inr z);refine sy [some (.c j),some w1,some (.d (.int x)),none,none,none,none] H (by simp [hin x,c2,ho,f2,lI,e6,It.dat,c3,PyData.eqv]) ?_;obtain ⟨k0,i0,g0⟩:=h2 x hx;obtain ⟨k1,i1,g1⟩:=h3 x hx;obtain ⟨k2,i2,g2⟩:=h4 x hx;refine lpB ((ahL b.its b.ps x).any fun y=>!decide (y∈pl)) (.d (.bool false)) H (fun δ=>∃ u,δ=[some (.c j),some w1,some (.d (.int x)),u,none,none,none]) ?_ (fun z=>?_) (fun z1 δ i=>?_)
 ·refine bI (((ahL b.its b.ps x).map nI,some k0),H) (by simp [ho,f4,lA,i0,g0]) ?_;refine fJ (xL g0 (sP _)) nI _ _ _ _ ⟨_,rfl⟩ fun q _ δ i=>?_;obtain ⟨u,rfl⟩:=i;refine ⟨[some (.c j),some w1,some (.d (.int x)),some (.d (nI q)),none,none,none],rfl,[some (.c j),some w1,some (.d (.int x)),some (.d (nI q)),none,none,none],?_,_,rfl⟩
  by_cases c:q∈pl<;>simp [nI,hin q,c]
 ·simp [eK,z]
 obtain ⟨u,rfl⟩:=i;refine lpB ((laL b.ps x).any fun y=>decide (y∈pl)) (.d (.bool false)) H (fun δ=>∃ u v,δ=[some (.c j),some w1,some (.d (.int x)),u,v,none,none]) ?_ (fun z=>?_) (fun z2 δ i=>?_)
 ·refine bI (((laL b.ps x).map nI,some k1),H) (by simp [ho,f5,lL,i1,g1]) ?_;refine fJ (xL g1 (sP _)) nI _ _ _ _ ⟨_,_,rfl⟩ fun q _ δ i=>?_;obtain ⟨u,v,rfl⟩:=i;refine ⟨[some (.c j),some w1,some (.d (.int x)),u,some (.d (nI q)),none,none],rfl,[some (.c j),some w1,some (.d (.int x)),u,some (.d (nI q)),none,none],?_,_,_,rfl⟩
  by_cases c:q∈pl<;>simp [nI,hin q,c]
 ·simp [eK,z]
 obtain ⟨u,v,rfl⟩:=i;refine lpB ((gaL b.ts x).any fun q=>decide (q.1∈pl)&&!decide (q.2∈pl)) (.d (.bool false)) H (fun δ=>∃ u v s t,δ=[some (.c j),some w1,some (.d (.int x)),u,v,s,t]) ?_ (fun z=>?_) (fun z3 δ i=>?_)
 ·refine bI (((gaL b.ts x).map p2,some k2),H) (by simp [ho,f6,lG,i2,g2]) ?_;refine fJ (xL g2 (aR8 _)) p2 _ _ _ _ ⟨_,_,_,_,rfl⟩ fun q _ δ i=>?_;obtain ⟨u,v,s,t,rfl⟩:=i;refine ⟨[some (.c j),some w1,some (.d (.int x)),u,v,some (.d (.int q.1)),some (.d (.int q.2))],by simp [p2],[some (.c j),some w1,some (.d (.int x)),u,v,some (.d (.int q.1)),some (.d (.int q.2))],?_,_,_,_,_,rfl⟩
  by_cases c:q.1∈pl
  ·by_cases c':q.2∈pl<;>simp [hin q.1,hin q.2,c,c']
  ·simp [hin q.1,c]
 ·simp [eK,z]
 ·have em:eK b pl x=true:=by
   unfold eK;rw [ew,z1,z2,z3];simp [c2,c3]
  rw [em];rfl
end K26

namespace K26
open PySem PySem.Spec PyProof.Rows L2 DL CI SJ
def pst (n:Nat) (a:List (Nat×Nat)×S3):List (Nat×Nat)×S3 :=
 if 1 < n then (a.1++[((aK a.2 n).toNat,((aK a.2 n).toNat+1+(aK (digS a.2 n) (n - 1)).toNat)%n)],digS (digS a.2 n) (n - 1)) else a
def itP (n:Nat) (s:S3):Nat->List (Nat×Nat)×S3
 | 0=>([],s)
 | k+1=>pst n (itP n s k)
theorem sQ (n:Nat) (s:S3):∀ k,(itP n s k).1.length<=k
 | 0=>Nat.le_refl 0
 | k+1=>by
  have:=sQ n s k;unfold itP pst;split
  ·simp;omega
  ·omega
theorem aR9 {n x y:Nat} (hx:x < n) (hy:y+1 < n):x≠(x+1+y)%n:=by
 by_cases h:x+1+y < n
 ·rw [Nat.mod_eq_of_lt h];omega
 ·rw [Nat.mod_eq_sub_mod (by omega),Nat.mod_eq_of_lt (by omega)];omega
theorem xM (n:Nat) (s:S3):∀ k,∀ p∈(itP n s k).1,p.1 < n/\p.2 < n/\p.1≠p.2
 | 0,p,hp=>nomatch hp
 | k+1,p,hp=>by
  unfold itP pst at hp;split at hp
  ·rename_i hn;rcases List.mem_append.mp hp with hp | hp
   ·exact xM n s k p hp
   ·simp at hp;subst hp;obtain ⟨x,ex,hx⟩:=aV (itP n s k).2 (b:=n) (by omega);obtain ⟨y,ey,hy⟩:=aV (digS (itP n s k).2 n) (b:=n - 1) (by omega);rw [ex,ey];simp only [Int.toNat_natCast];exact ⟨by omega,Nat.mod_lt _ (by omega),aR9 (by omega) (by omega)⟩
  ·exact xM n s k p hp
section
variable {h:aA} {i:Nat} (hi:i < h.length)
include hi
def gl (xs:List PyData) (s:S3):((h++[Cell.l xs]).set i (stL s))[h.length]?=some (Cell.l xs):=by
 rw [List.getElem?_set_ne (by omega)];simp
def gl2 (xs:List PyData) (s:S3) (pf:h.length < ((h++[Cell.l xs]).set i (stL s)).length):((h++[Cell.l xs]).set i (stL s))[h.length]'pf=.l xs:=by
 have:=gl hi xs s;rw [List.getElem?_eq_getElem pf] at this;exact Option.some.inj this
def gm (xs:List PyData) (s:S3):eP (Str.ofString "append") (.c h.length) ((h++[Cell.l xs]).set i (stL s))=true:=by
 unfold eP;rw [if_pos rfl];dsimp only;rw [gl hi]
def gs (xs ys:List PyData) (s:S3):((h++[Cell.l xs]).set i (stL s)).set h.length (Cell.l ys)=(h++[Cell.l ys]).set i (stL s):=by
 rw [List.set_comm _ _ (by omega)];simp
def g_t (xs:List PyData) (s:S3):bG [.c h.length] ((h++[Cell.l xs]).set i (stL s))=some (.d (.tuple xs),(h++[Cell.l xs]).set i (stL s)):=by
 unfold bG ref;dsimp only;rw [gl hi]
theorem gi (c:Cell):i < (h++[c]).length:=by simp;omega
end
def bC1 (d:Nat) (h:aA) {i n:Nat} (s:S3) (hi:i < h.length) (hn:n<=120):aD T (d+2) "_law_pairs" [.c i,.d (.int n)] (h.set i (stL s))=some (.tuple ((itP n (digS s 5) (aK s 5).toNat).1.map p2),h.set i (stL (itP n (digS s 5) (aK s 5).toNat).2)):=by
 have e5:aT 5=true:=by decide
 obtain ⟨k,ek,hk⟩:=aV s (b:=5) (by decide);have er:fB 0 (k:Int)=true:=bJ (by omega) (by omega);have sa:∀ (s:S3) (L:aA),h.set i (stL s)++L=(h++L).set i (stL s):=fun s L=>cL hi;have g1:=gi hi (Cell.l []);have dg:=cD d (h++[Cell.l []]) s 5 g1 (by decide) e5;rw [show d+2=(d+1)+1 from rfl,sG];simp [aS,szl,sa,dg,ek,er];generalize hr:aX _ _ _ _ _ _ _=r;have kk:∃ δ' h',r=some (.nx δ',h')/\∃ (x3 x4:Option W),δ'=[some (.c i),some (.d (.int n)),some (.c h.length),x3,x4]/\h'=(h++[Cell.l ((itP n (digS s 5) k).1.map p2)]).set i (stL (itP n (digS s 5) k).2):=by
  rw [<- hr];clear hr;refine bX (fun m δ' h'=>∃ (x3 x4:Option W),δ'=[some (.c i),some (.d (.int n)),some (.c h.length),x3,x4]/\h'=(h++[Cell.l ((itP n (digS s 5) m).1.map p2)]).set i (stL (itP n (digS s 5) m).2)) ⟨_,_,rfl,rfl⟩ (fun δ h'=>?_) ?_
  ·rw [CI.rng_len];exact id
  ·rintro m hm δ h' ⟨x3,x4,rfl,rfl⟩;have ll:=sQ n (digS s 5) m;have hm':m < k:=by simpa [rng] using hm
   refine ⟨[some (.c i),some (.d (.int n)),some (.c h.length),some (.d (rng 0 k)[m]),x4],_,rfl,?_⟩;rw [itP];generalize itP n (digS s 5) m=q at *;obtain ⟨L,t⟩:=q;dsimp only at *;have l1:L.length < 16777216:=by omega
   by_cases h1:1 < n
   ·have h1':(1:Int) < n:=by omega
    obtain ⟨x,ex,hx⟩:=aV t (b:=n) (by omega);obtain ⟨y,ey,hy⟩:=aV (digS t n) (b:=n - 1) (by omega);have d1:=cD d (h++[Cell.l (L.map p2)]) t n (gi hi _) (by omega) (cI (by omega) (by omega));have d2:=cD d (h++[Cell.l (L.map p2)]) (digS t n) (n - 1) (gi hi _) (by omega) (cI (by omega) (by omega));have h0n:0 < n:=by omega
    have dn:aT (n:Int)=true:=cI (by omega) (by omega);refine ⟨[some (.c i),some (.d (.int n)),some (.c h.length),some (.d (rng 0 k)[m]),some (.d (.int x))],(h++[Cell.l ((L++[(x,(x+1+y)%n)]).map p2)]).set i (stL (digS (digS t n) (n - 1))),?_,_,_,rfl,?_⟩
    ·have em:((x:Int)+1+y)%n=(((x+1+y)%n:Nat):Int):=by simp
     simp [h1',d1,d2,ex,ey,gl hi,gl2 hi,gm hi,gs hi,l1,szl,dn,p2,h0n]
    ·simp [pst,h1,ex,ey]
   ·have h1':¬ (1:Int) < n:=by omega
    refine ⟨[some (.c i),some (.d (.int n)),some (.c h.length),some (.d (rng 0 k)[m]),x4],(h++[Cell.l (L.map p2)]).set i (stL t),by simp [h1'],_,_,rfl,?_⟩;simp [pst,h1]
 obtain ⟨δ',h',rfl,x3,x4,rfl,rfl⟩:=kk;have o1:∀ L s',okP (h.set i (stL s)) ((h++L).set i (stL s'))=True:=fun L s'=>aO4 s' hi;have o2:∀ (L:aA) (s':S3),((h++L).set i (stL s')).take h.length=h.set i (stL s'):=fun L s'=>aO5 hi;simp [g_t hi,szl,o1,o2]
end K26

namespace K26
open PySem PySem.Spec PyProof.Rows L2 DL CI SJ
noncomputable def rst (n a b:Nat):List Nat:=(List.range n).filter fun z=>decide (z≠a)&&decide (z≠b)
def gL (n:Nat):rng 0 n=(List.range n).map nI:=bQ7 n
def sR (p:PyData->Bool) (q:Nat->Bool) (n:Nat) (h:∀ k,k < n->p (nI k)=q k):((rng 0 n).filter p).map id=((List.range n).filter q).map nI:=by
 rw [gL,List.map_id,List.filter_map]
 congr 1
 exact List.filter_congr fun k hk=>h k (List.mem_range.mp hk)
def mF {its:List It} {x:Nat} (h:x∈mus its):x < its.length/\must its x:=by
 obtain ⟨h1,h2⟩:=List.mem_filter.mp h;have hx:=List.mem_range.mp h1;refine ⟨hx,its[x],by simp [hx],?_⟩
 simpa [dT,hx] using h2
def aF4 (its:List It):(mus its).Nodup:=List.Pairwise.filter _ List.nodup_range
def zN {n a b:Nat} (hn:2 < n):0 < (rst n a b).length:=by
 apply List.length_pos_iff.mpr;intro e;have hz:∀ z,z < 3->z=a\/z=b:=fun z hz=>by
  by_cases h:z≠a/\z≠b
  ·have:z∈rst n a b:=List.mem_filter.mpr ⟨List.mem_range.mpr (by omega),by simp [h.1,h.2]⟩;rw [e] at this;cases this
  ·omega
 have h0:=hz 0 (by omega);have h1:=hz 1 (by omega);have h2:=hz 2 (by omega);omega
def tst (its:List It) (a:List (Nat×Nat×Nat)×S3):List (Nat×Nat×Nat)×S3 :=
 if 1 < (mus its).length/\2 < its.length then
  let l:=(mus its).length
  let x:=(aK a.2 l).toNat
  let s1:=digS a.2 l
  let y:=(x+1+(aK s1 (l - 1)).toNat)%l
  let s2:=digS s1 (l - 1)
  let r:=rst its.length ((mus its).getD x 0) ((mus its).getD y 0)
  (a.1++[((mus its).getD x 0,(mus its).getD y 0,r.getD (aK s2 r.length).toNat 0)],digS s2 r.length)
 else a
def itT (its:List It) (s:S3):Nat->List (Nat×Nat×Nat)×S3
 | 0=>([],s)
 | k+1=>tst its (itT its s k)
theorem sS (its:List It) (s:S3):∀ k,(itT its s k).1.length<=k
 | 0=>Nat.le_refl 0
 | k+1=>by
  have:=sS its s k;unfold itT tst;split
  ·simp;omega
  ·omega
theorem oA {l:List Nat} {x:Nat} (h:x < l.length):l.getD x 0∈l:=by
 rw [List.getD_eq_getElem?_getD,List.getElem?_eq_getElem h];exact List.getElem_mem h
theorem xN (its:List It) (s:S3):∀ k,∀ p∈(itT its s k).1,p.1 < its.length/\p.2.1 < its.length/\p.2.2 < its.length/\p.1≠p.2.1/\p.1≠p.2.2/\p.2.1≠p.2.2/\must its p.1/\must its p.2.1
 | 0,p,hp=>nomatch hp
 | k+1,p,hp=>by
  unfold itT tst at hp;split at hp
  ·rename_i hn;rcases List.mem_append.mp hp with hp | hp
   ·exact xN its s k p hp
   ·simp only [List.mem_singleton] at hp;obtain ⟨x,ex,hx⟩:=aV (itT its s k).2 (b:=(mus its).length) (by omega);obtain ⟨y,ey,hy⟩:=aV (digS (itT its s k).2 (mus its).length) (b:=(mus its).length - 1) (by omega);rw [ex,ey] at hp;simp only [Int.toNat_natCast] at hp;have hm:(x+1+y)%(mus its).length < (mus its).length:=Nat.mod_lt _ (by omega);have hne:=aR9 (n:=(mus its).length) (x:=x) (y:=y) (by omega) (by omega);generalize (x+1+y)%(mus its).length=y2 at *;have m1:=oA (l:=mus its) (x:=x) (by omega);have m2:=oA (l:=mus its) hm;have hab:(mus its).getD x 0≠(mus its).getD y2 0:=fun e=>hne ((List.getD_inj (by omega) hm (aF4 its)).mp e);generalize hA:(mus its).getD x 0=A at *;generalize hB:(mus its).getD y2 0=B at *;have hr:=zN (n:=its.length) (a:=A) (b:=B) hn.2;obtain ⟨z,ez,hz⟩:=aV (digS (digS (itT its s k).2 (mus its).length) ((mus its).length - 1)) (b:=(rst its.length A B).length) (by omega);rw [ez] at hp;simp only [Int.toNat_natCast] at hp;have m3:=oA (l:=rst its.length A B) (x:=z) (by omega);obtain ⟨r1,r2⟩:=List.mem_filter.mp m3;have r3:=List.mem_range.mp r1;simp at r2;subst hp;exact ⟨(mF m1).1,(mF m2).1,r3,hab,fun e=>r2.1 e.symm,fun e=>r2.2 e.symm,(mF m1).2,(mF m2).2⟩
  ·exact xN its s k p hp
end K26

namespace K26
open PySem PySem.Spec PyProof.Rows L2 DL CI SJ
def pM (its:List It):PyData->Bool
 | .int k=>dT its k.toNat
 | _=>false
noncomputable def pR (a b:Nat):PyData->Bool
 | .int k=>decide (k≠a)&&decide (k≠b)
 | _=>false
def aS0 {l:List Nat} {x:Nat} (h:x < l.length):atI (l.map nI) (x:Int)=some (.int (l.getD x 0)):=by
 apply eW;rw [List.getElem?_map,List.getElem?_eq_getElem h,List.getD_eq_getElem?_getD,List.getElem?_eq_getElem h];rfl
def aF5 (d:Nat) (h:aA) {i:Nat} (s:S3) (hi:i < h.length) {its:List It} (hn:its.length<=120):aD T (d+2) "_law_triples" [.c i,.d (.tuple (its.map It.dat))] (h.set i (stL s))=some (.tuple ((itT its (digS s 4) (aK s 4).toNat).1.map p3),h.set i (stL (itT its (digS s 4) (aK s 4).toNat).2)):=by
 have e4:aT 4=true:=by decide
 obtain ⟨k,ek,hk⟩:=aV s (b:=4) (by decide);have er:fB 0 (k:Int)=true:=bJ (by omega) (by omega);have en:fB 0 (its.length:Int)=true:=bJ (by omega) (by omega);have sa:∀ (s:S3) (L:aA),h.set i (stL s)++L=(h++L).set i (stL s):=fun s L=>cL hi;have dg:=cD d (h++[Cell.l []]) s 4 (gi hi (.l [])) (by decide) e4;rw [show d+2=(d+1)+1 from rfl,nR];simp [szl,en,aM];rw [dE (pM its) id (fun δ=>∃ a,δ=[a,some (.d (.tuple (its.map It.dat)))]) _ _ _ ⟨_,rfl⟩ (fun z hz δ ⟨a,e⟩=>by
  subst e;rw [gL] at hz;obtain ⟨q,hq,rfl⟩:=List.mem_map.mp hz;have hq:=List.mem_range.mp hq;have e6:=qU (List.getElem?_eq_getElem hq);refine ⟨[some (.d (nI q)),_],rfl,⟨_,rfl⟩,?_,fun _=>by simp⟩;simp [nI,e6,It.dat,PyData.eqv,pM,dT,hq];try rfl)]
 rw [List.nil_append,sR (pM its) (dT its) its.length (fun k _=>by simp [pM,nI])];rw [show (List.range its.length).filter (dT its)=mus its from rfl];simp [aS,szl,sa,dg,ek,er];generalize hr:aX _ _ _ _ _ _ _=r;have kk:∃ δ' h',r=some (.nx δ',h')/\∃ (x2 x5 x6 x7:Option W),δ'=[some (.c i),some (.d (.tuple (its.map It.dat))),x2,some (.d (.list ((mus its).map nI))),some (.c h.length),x5,x6,x7]/\h'=(h++[Cell.l ((itT its (digS s 4) k).1.map p3)]).set i (stL (itT its (digS s 4) k).2):=by
  rw [<- hr];clear hr;refine bX (fun m δ' h'=>∃ (x2 x5 x6 x7:Option W),δ'=[some (.c i),some (.d (.tuple (its.map It.dat))),x2,some (.d (.list ((mus its).map nI))),some (.c h.length),x5,x6,x7]/\h'=(h++[Cell.l ((itT its (digS s 4) m).1.map p3)]).set i (stL (itT its (digS s 4) m).2)) ⟨_,_,_,_,rfl,rfl⟩ (fun δ h'=>?_) ?_
  ·rw [CI.rng_len];exact id
  ·rintro m hm δ h' ⟨x2,x5,x6,x7,rfl,rfl⟩;have ll:=sS its (digS s 4) m;have hm':m < k:=by simpa [rng] using hm
   refine ⟨[some (.c i),some (.d (.tuple (its.map It.dat))),x2,some (.d (.list ((mus its).map nI))),some (.c h.length),some (.d (rng 0 k)[m]),x6,x7],_,rfl,?_⟩;rw [itT];generalize itT its (digS s 4) m=q at *;obtain ⟨L,t⟩:=q;dsimp only at *;have l1:L.length < 16777216:=by omega
   by_cases h1:1 < (mus its).length/\2 < its.length
   ·have ml:(mus its).length<=its.length:=by
     have:=List.length_filter_le (dT its) (List.range its.length)
     simpa [mus] using this
    obtain ⟨l,el⟩:∃ l,l=(mus its).length:=⟨_,rfl⟩;have h1a:(1:Int) < (mus its).length:=by omega
    have h1b:(2:Int) < its.length:=by omega
    obtain ⟨x,ex,hx⟩:=aV t (b:=(mus its).length) (by omega);obtain ⟨y,ey,hy⟩:=aV (digS t (mus its).length) (b:=(mus its).length - 1) (by omega);have d1:=cD d (h++[Cell.l (L.map p3)]) t (mus its).length (gi hi _) (by omega) (cI (by omega) (by omega));have d2:=cD d (h++[Cell.l (L.map p3)]) (digS t (mus its).length) ((mus its).length - 1) (gi hi _) (by omega) (cI (by omega) (by omega));have dn:aT ((mus its).length:Int)=true:=cI (by omega) (by omega);have h0n:0 < (mus its).length:=by omega
    have hmod:(x+1+y)%(mus its).length < (mus its).length:=Nat.mod_lt _ (by omega);have em:((x:Int)+1+y)%((mus its).length:Int)=(((x+1+y)%(mus its).length:Nat):Int):=by simp
    obtain ⟨y2,ey2⟩:∃ y2,y2=(x+1+y)%(mus its).length:=⟨_,rfl⟩;rw [<- ey2] at em hmod;have a1:=aS0 (l:=mus its) (x:=x) (by omega);have a2:=aS0 (l:=mus its) hmod;obtain ⟨A,eA⟩:∃ A,A=(mus its).getD x 0:=⟨_,rfl⟩;obtain ⟨B,eB⟩:∃ B,B=(mus its).getD y2 0:=⟨_,rfl⟩;rw [<- eA] at a1;rw [<- eB] at a2;have hrp:=zN (n:=its.length) (a:=A) (b:=B) h1.2;have rl:(rst its.length A B).length<=its.length:=by
     have:=List.length_filter_le (fun z=>decide (z≠A)&&decide (z≠B)) (List.range its.length)
     simpa [rst] using this
    obtain ⟨z,ez,hz⟩:=aV (digS (digS t (mus its).length) ((mus its).length - 1)) (b:=(rst its.length A B).length) (by omega);have d3:=cD d (h++[Cell.l (L.map p3)]) (digS (digS t (mus its).length) ((mus its).length - 1)) (rst its.length A B).length (gi hi _) (by omega) (cI (by omega) (by omega));have a3:=aS0 (l:=rst its.length A B) (x:=z) (by omega);obtain ⟨Z,eZ⟩:∃ Z,Z=(rst its.length A B).getD z 0:=⟨_,rfl⟩;rw [<- eZ] at a3;refine ⟨[some (.c i),some (.d (.tuple (its.map It.dat))),some (.d (.int x)),some (.d (.list ((mus its).map nI))),some (.c h.length),some (.d (rng 0 k)[m]),some (.d (.int y2)),some (.d (.list ((rst its.length A B).map nI)))],(h++[Cell.l ((L++[(A,B,Z)]).map p3)]).set i (stL (digS (digS (digS t (mus its).length) ((mus its).length - 1)) (rst its.length A B).length)),?_,_,_,_,_,rfl,?_⟩
    ·simp [h1a,h1b,h1.1,h1.2,d1,d2,ex,ey,em,dn,h0n,szl,aM,en];rw [dE (pR A B) id (fun δ=>∃ a,δ=[a,some (.d (.list ((mus its).map nI))),some (.d (.int x)),some (.d (.int y2))]) _ _ _ ⟨_,rfl⟩ (fun w hw δ ⟨a,e⟩=>by
      subst e;rw [gL] at hw;obtain ⟨q,hq,rfl⟩:=List.mem_map.mp hw;refine ⟨[some (.d (nI q)),_,_,_],rfl,⟨_,rfl⟩,?_,fun _=>by simp⟩
      by_cases hqA:(q:Int)=A<;>simp [nI,a1,a2,PyData.eqv,pR,hqA])]
     rw [List.nil_append,sR (pR A B) (fun z=>decide (z≠A)&&decide (z≠B)) its.length (fun k _=>by
      have e1:((k:Int)=A)=(k=A):=propext (by omega);have e2:((k:Int)=B)=(k=B):=propext (by omega);simp [pR,nI,e1,e2])]
     rw [show (List.range its.length).filter (fun z=>decide (z≠A)&&decide (z≠B))=rst its.length A B from rfl];simp [a1,a2,d3,ez,a3,gl hi,gl2 hi,gm hi,gs hi,l1,szl,p3]
    ·rw [tst,if_pos h1];simp only [ex,ey,Int.toNat_natCast,<- ey2,<- eA,<- eB,ez,<- eZ]
   ·refine ⟨[some (.c i),some (.d (.tuple (its.map It.dat))),x2,some (.d (.list ((mus its).map nI))),some (.c h.length),some (.d (rng 0 k)[m]),x6,x7],(h++[Cell.l (L.map p3)]).set i (stL t),?_,_,_,_,_,rfl,?_⟩
    ·by_cases h2:1 < (mus its).length
     ·have h3:¬ 2 < its.length:=fun z=>h1 ⟨h2,z⟩;have h2':(1:Int) < (mus its).length:=by omega
      have h3':¬ (2:Int) < its.length:=by omega
      simp [h2',h3']
     ·have h2':¬ (1:Int) < (mus its).length:=by omega
      simp [h2']
    ·simp [tst,h1]
 obtain ⟨δ',h',rfl,x2,x5,x6,x7,rfl,rfl⟩:=kk;have o1:∀ L s',okP (h.set i (stL s)) ((h++L).set i (stL s'))=True:=fun L s'=>aO4 s' hi;have o2:∀ (L:aA) (s':S3),((h++L).set i (stL s')).take h.length=h.set i (stL s'):=fun L s'=>aO5 hi;simp [g_t hi,szl,o1,o2]
end K26

namespace K26
open PySem PySem.Spec PyProof.Rows L2 DL CI SJ
def aF6 (st:List Int):Stp->PyData
 | .call c=>(aF1 (dnC st c).1).dat
 | .look c=>(aF1 (dnC st c).1).dat
 | .lay _=>.tuple [.str "done"]
def zO {c:SJ.Call} (hc:c.ok) {st:List Int} (hl:st.length=8):∀ ns,(dnC st c).1=.all ns->ns≠[]/\ns.length<=8:=by
 intro ns e;cases c with
 | one o=>cases e
 | deal cs=>cases e
 | span lo hi =>
  have h1:=hc.1;have h2:=hc.2;have e':(st.drop lo).take (hi - lo)=ns:=by cases e;rfl
  have l:ns.length=hi - lo:=by rw [<- e'];simp;omega
  exact ⟨fun z=>by rw [z] at l;simp at l;omega,by omega⟩
def cE8 (d:Nat) (h:aA) {p:Stp} (hp:Sok p) {st:List Int} (hl:st.length=8):aD T (d+2) "_law_altered" [.d (dnS st p).1] h=some (aF6 st p,h):=by
 cases p with
 | call c=>exact aR1 d h _ (zO hp hl)
 | look c=>exact aR1 d h _ (zO hp hl)
 | lay ps=>exact xJ (d+1) h .dn
noncomputable def sT:Stp->Bool
 | .call _=>true
 | _=>false
def anF (st:List Int) (p:Stp) (s:S3):PyData×S3 :=
 if aK s 7=0 then (.none,digS s 7) else if aK s 7=1 then (aF6 st p,digS s 7)
 else if aK s 7=2/\sT p=true then (if aK (digS s 7) 4=0 then (aF2,digS (digS s 7) 4) else ((dnS st p).1,digS (digS s 7) 4))
 else ((dnS st p).1,digS s 7)
def zP {p:Stp} (hp:Sok p) {st:List Int} (hl:st.length=8):lR p (dnS st p).1=true:=by
 cases p with
 | call c=>exact (jN hp (jM hp hl)).1
 | look c=>exact (jN hp (jM hp hl)).2
 | lay ps=>simp [lR,dnS,aJ]
def aS1 {p:Stp} (hp:Sok p) {st:List Int} (hl:st.length=8):lR p (aF6 st p)=true/\tOk (aF6 st p):=by
 cases p with
 | call c=>exact ⟨(jN hp (uR hp (jM hp hl))).1,.inr (.inr ⟨_,rfl⟩)⟩
 | look c=>exact ⟨(jN hp (uR hp (jM hp hl))).2,.inr (.inr ⟨_,rfl⟩)⟩
 | lay ps=>exact ⟨by simp [lR,aF6,aJ],.inr (.inr ⟨.one .dn,rfl⟩)⟩
def bS3 {p:Stp} (hp:Sok p) {st:List Int} (hl:st.length=8) (s:S3):((anF st p s).1=.none\/lR p (anF st p s).1=true)/\tOk (anF st p s).1:=by
 unfold anF;split
 ·exact ⟨.inl rfl,.inl rfl⟩
 split
 ·exact ⟨.inr (aS1 hp hl).1,(aS1 hp hl).2⟩
 split
 ·rename_i hc;split
  ·refine ⟨.inr ?_,.inr (.inl rfl)⟩;cases p with
   | call c=>simp [lR,aF2,aJ]
   | look c=>cases hc.2
   | lay ps=>cases hc.2
  ·exact ⟨.inr (zP hp hl),(bC0 st p).1⟩
 ·exact ⟨.inr (zP hp hl),(bC0 st p).1⟩
noncomputable def wdF (n:Int):String:=if n < 4 then "must" else if n < 6 then "may" else "out"
def itF (st:List Int) (s:S3):It×List Int×S3 :=
 let p:=(sF s).1
 let a:=anF st p (sF s).2
 (⟨p,a.1,wdF (aK a.2 7)⟩,(dnS st p).2,digS a.2 7)
def bS4 {st:List Int} (hl:st.length=8) (s:S3):(itF st s).1.ok/\(itF st s).2.1.length=8:=by
 have h:=bS3 (bB4 s) hl (sF s).2;refine ⟨⟨bB4 s,h.1,h.2,?_⟩,sN (bB4 s) hl⟩;show wdF _=_\/wdF _=_\/wdF _=_;unfold wdF;split
 ·exact .inl rfl
 split
 ·exact .inr (.inl rfl)
 ·exact .inr (.inr rfl)
def cE9 (s:S3):atI [PyData.str (Str.ofString "must"),.str (Str.ofString "must"),.str (Str.ofString "must"),.str (Str.ofString "must"),.str (Str.ofString "may"),.str (Str.ofString "may"),.str (Str.ofString "out")] (aK s 7)=some (.str (Str.ofString (wdF (aK s 7)))):=by
 have h1:=dA s (b:=7) (by decide);have h2:=dB s (b:=7) (by decide);have:aK s 7=0\/aK s 7=1\/aK s 7=2\/aK s 7=3\/aK s 7=4\/aK s 7=5\/aK s 7=6:=by omega
 rcases this with e | e | e | e | e | e | e<;>rw [e]<;>first | (simp [wdF];done) | exact eW (j:=6) rfl
end K26

namespace K26
open PySem PySem.Spec PyProof.Rows L2 DL CI SJ
variable (d:Nat) (h:aA)
section
variable {α:Type} (F:α->PyData)
noncomputable def cV (p:Nat×α):PyData×PyData:=(.int p.1,F p.2)
noncomputable def putN (g:List (Nat×α)) (k:Nat) (v:α):List (Nat×α):=if (g.any fun p=>decide (p.1=k))=true then g.map (fun p=>if p.1=k then (p.1,v) else p) else g++[(k,v)]
noncomputable def eQ (g:List (Nat×α)) (k:Nat):Option α:=(g.find? fun p=>decide (p.1=k)).map (·.2)
def eO (i:Int):bU (.int i)=some (.inl i):=rfl
def oB (p:Nat×α) (k:Nat):(bU (cV F p).1=bU (.int (k:Int)))=(p.1=k):=by simp [cV,eO];omega
def aS2 (g:List (Nat×α)) (k:Nat) (v:α):lH (g.map (cV F)) (.int (k:Int)) (F v)=(putN g k v).map (cV F):=by
 have e1:((g.map (cV F)).any fun p=>decide (bU p.1=bU (.int (k:Int))))=g.any fun p=>decide (p.1=k):=by
  rw [List.any_map]
  congr 1
  funext p
  simp only [Function.comp,oB]
 unfold lH putN;rw [e1];split
 ·rw [List.map_map,List.map_map];refine List.map_congr_left fun p _=>?_;simp only [Function.comp,oB];split<;>rfl
 ·rw [List.map_append];rfl
def bC2 (g:List (Nat×α)) (k:Nat):((g.map (cV F)).find? fun p=>decide (bU p.1=bU (.int (k:Int)))).map (·.2)=(eQ g k).map F:=by
 unfold eQ;induction g with
 | nil=>rfl
 | cons p r ih =>
  rw [List.map_cons,List.find?_cons,List.find?_cons];have e:=oB F p k
  by_cases h:p.1=k
  ·have h':bU (cV F p).1=bU (.int (k:Int)):=by rw [e];exact h
   simp only [h',h,decide_true];rfl
  ·have h':¬ bU (cV F p).1=bU (.int (k:Int)):=by rw [e];exact h
   simp only [h',h,decide_false];exact ih
def bC3 (g:List (Nat×α)) (k:Nat) (v:α):(putN g k v).length<=g.length+1:=by
 unfold putN;split<;>simp
def zQ (g:List (Nat×α)) (k:Nat) (v:α) (j:Nat):eQ (putN g k v) j=if j=k then some v else eQ g j:=by
 have hm:∀ g:List (Nat×α),eQ (g.map fun p=>if p.1=k then (p.1,v) else p) j=if j=k then (eQ g j).map fun _=>v else eQ g j:=fun g=>by
  unfold eQ;induction g with
  | nil=>simp
  | cons p r ih =>
   rw [List.map_cons,List.find?_cons,List.find?_cons]
   by_cases e1:p.1=k
   ·rw [if_pos e1]
    by_cases e2:p.1=j
    ·simp [e2,e1.symm.trans e2]
    ·have:¬ j=k:=fun z=>e2 (e1.trans z.symm);simp only [this,if_false] at ih ⊢;simp only [decide_eq_false e2];exact ih
   ·rw [if_neg e1]
    by_cases e2:p.1=j
    ·have:¬ j=k:=fun z=>e1 (e2.trans z);simp [e2,this]
    ·simp only [decide_eq_false e2];exact ih
 have ha:∀ g:List (Nat×α),(g.any fun p=>decide (p.1=k))=(eQ g k).isSome:=fun g=>by
  unfold eQ;induction g with
  | nil=>rfl
  | cons p r ih =>
   rw [List.any_cons,List.find?_cons,ih]
   by_cases e:p.1=k<;>simp [e]
 unfold putN;rw [ha];split
 ·rename_i z;rw [hm];split
  ·rename_i e;rw [e];obtain ⟨w,ew⟩:=Option.isSome_iff_exists.mp z;rw [ew];rfl
  ·rfl
 ·rename_i z;have z:eQ g k=none:=by simpa using z
  unfold eQ at z ⊢;rw [List.find?_append];split
  ·rename_i e;rw [e];have z:g.find? (fun p=>decide (p.1=k))=none:=by simpa using z
   rw [z];simp
  ·rename_i e;have:¬ k=j:=fun q=>e q.symm;cases q:g.find? (fun p=>decide (p.1=j))<;>simp [this]
end
end K26

namespace K26
open PySem PySem.Spec PyProof.Rows L2 DL CI SJ
structure Rn where
 ops:List Nat
 kv:List (Nat×It)
 st:List Int
 s:S3
def rnd (q:Rn):Rn :=
 ⟨q.ops.eraseIdx (aK (itF q.st q.s).2.2 q.ops.length).toNat,putN q.kv (q.ops.getD (aK (itF q.st q.s).2.2 q.ops.length).toNat 0) (itF q.st q.s).1,(itF q.st q.s).2.1,digS (itF q.st q.s).2.2 q.ops.length⟩
def itI (n:Nat) (st:List Int) (s:S3):Nat->Rn
 | 0=>⟨List.range n,[],st,s⟩
 | k+1=>rnd (itI n st s k)
structure Rn.ok (n k:Nat) (q:Rn):Prop where
 ol:q.ops.length+k=n
 ob:∀ x∈q.ops,x < n
 kl:q.kv.length<=k
 st:q.st.length=8
 al:∀ x,x < n->x∈q.ops\/∃ y,eQ q.kv x=some y
 kv:∀ x y,eQ q.kv x=some y->y.ok
def bS5 {n k:Nat} {q:Rn} (hq:q.ok n k) (hk:k < n):(rnd q).ok n (k+1):=by
 have hl:=hq.ol;obtain ⟨j,ej,hj⟩:=aV (itF q.st q.s).2.2 (b:=q.ops.length) (by omega);have hj':j < q.ops.length:=by omega
 have hi:=bS4 hq.st q.s;have er:rnd q=⟨q.ops.eraseIdx j,putN q.kv (q.ops.getD j 0) (itF q.st q.s).1,(itF q.st q.s).2.1,digS (itF q.st q.s).2.2 q.ops.length⟩:=by
  unfold rnd;rw [ej,Int.toNat_natCast]
 rw [er];refine ⟨?_,fun x hx=>hq.ob x (List.mem_of_mem_eraseIdx hx),?_,hi.2,fun x hx=>?_,fun x y e=>?_⟩
 ·show (q.ops.eraseIdx j).length+(k+1)=n;rw [List.length_eraseIdx_of_lt hj'];omega
 ·have:=bC3 q.kv (q.ops.getD j 0) (itF q.st q.s).1;have:=hq.kl;show (putN _ _ _).length<=k+1;omega
 ·show x∈q.ops.eraseIdx j\/∃ y,eQ (putN q.kv (q.ops.getD j 0) (itF q.st q.s).1) x=some y;rw [zQ]
  by_cases h1:x=q.ops.getD j 0
  ·right;rw [if_pos h1];exact ⟨_,rfl⟩
  ·rw [if_neg h1];rcases hq.al x hx with h2 | h2
   ·left;obtain ⟨m,hm,e⟩:=List.mem_iff_getElem.mp h2;refine List.mem_eraseIdx_iff_getElem.mpr ⟨m,hm,fun z=>h1 ?_,e⟩;subst z;rw [List.getD_eq_getElem?_getD,List.getElem?_eq_getElem hm,<- e];rfl
   ·exact .inr h2
 ·have e':eQ (putN q.kv (q.ops.getD j 0) (itF q.st q.s).1) x=some y:=e;rw [zQ] at e';split at e'
  ·cases e';exact hi.1
  ·exact hq.kv x y e'
theorem oE {n:Nat} {st:List Int} (hl:st.length=8) (s:S3):∀ k,k<=n->(itI n st s k).ok n k
 | 0,_=>⟨by simp [itI],fun x hx=>by simpa [itI] using hx,Nat.le_refl 0,hl,fun x hx=>.inl (by simpa [itI] using hx),fun x y e=>by simp [itI,eQ] at e⟩
 | k+1,hk=>bS5 (oE hl s k (by omega)) (by omega)
end K26

namespace K26
open PySem PySem.Spec PyProof.Rows L2 DL CI SJ
theorem aS3 (f:Nat->PyData):∀ (l:List Nat) (j:Nat),(l.map f).eraseIdx j=(l.eraseIdx j).map f
 | [],j=>by simp
 | a::r,0=>by simp
 | a::r,j+1=>by simp [aS3 f r j]
def Gc (h:aA) (i:Nat) (xs:List PyData) (kvs:List (PyData×PyData)) (s:S3):aA:=(h++[Cell.l xs,Cell.k kvs]).set i (stL s)
section
variable {h:aA} {i:Nat} (hi:i < h.length)
include hi
def G_l (xs:List PyData) (kvs:List (PyData×PyData)) (s:S3):(Gc h i xs kvs s)[h.length]?=some (.l xs):=by
 unfold Gc;rw [List.getElem?_set_ne (by omega)];simp
def G_k (xs:List PyData) (kvs:List (PyData×PyData)) (s:S3):(Gc h i xs kvs s)[h.length+1]?=some (.k kvs):=by
 unfold Gc;rw [List.getElem?_set_ne (by omega)];simp
def cS2 (xs ys:List PyData) (kvs:List (PyData×PyData)) (s:S3):(Gc h i xs kvs s).set h.length (.l ys)=Gc h i ys kvs s:=by
 unfold Gc;rw [List.set_comm _ _ (by omega)];simp
def cS3 (xs:List PyData) (kvs kvs':List (PyData×PyData)) (s:S3):(Gc h i xs kvs s).set (h.length+1) (.k kvs')=Gc h i xs kvs' s:=by
 unfold Gc;rw [List.set_comm _ _ (by omega)]
 congr 1
 rw [List.set_append_right _ _ (by omega)];simp
def cF0 (xs:List PyData) (kvs:List (PyData×PyData)) (s:S3):aZ [.c h.length] (Gc h i xs kvs s)=some (.d (.int xs.length),Gc h i xs kvs s):=by
 unfold aZ ref;dsimp only;rw [G_l hi]
def mG (d:Nat) (xs:List PyData) (kvs:List (PyData×PyData)) (s:S3) (b:Int) (hb:0 < b) (hb2:aT b=true):aD T (d+1) "_law_digit" [.c i,.d (.int b)] (Gc h i xs kvs s)=some (.int (aK s b),Gc h i xs kvs (digS s b)):=cD d _ s b (by simp;omega) hb hb2
def bS6 (d:Nat) (xs:List PyData) (kvs:List (PyData×PyData)) (s:S3):aD T (d+4) "_law_step" [.c i] (Gc h i xs kvs s)=some ((sF s).1.dat,Gc h i xs kvs (sF s).2):=bR4 d _ s (by simp;omega)
def cF1 {ops:List Nat} {j:Nat} (hj:j < ops.length) (hl:ops.length<=120) (kvs:List (PyData×PyData)) (s:S3):aA6 h.length [.d (.int j)] (Gc h i (ops.map nI) kvs s)=some (.d (.int (ops.getD j 0)),Gc h i ((ops.eraseIdx j).map nI) kvs s):=by
 unfold aA6;rw [G_l hi];have e:ixN (ops.map nI).length (j:Int)=some j:=by
  unfold ixN;rw [if_pos (by omega),List.length_map,if_pos (by omega)];simp
 have e2:(ops.map nI)[j]?=some (.int (ops.getD j 0)):=by
  rw [List.getElem?_map,List.getElem?_eq_getElem hj,List.getD_eq_getElem?_getD,List.getElem?_eq_getElem hj];rfl
 simp only [e,e2,bs];rw [if_pos ⟨by omega,by omega⟩,aS3,cS2 hi]
end
end K26

namespace K26
open PySem PySem.Spec PyProof.Rows L2 DL CI SJ
theorem bG6 {α:Type} {x:Option α} {f:α->Option (Fl×aA)} {P:DSt->aA->Prop} (a:α) (e:x=some a) (k:∃ δ2 h2,f a=some (.nx δ2,h2)/\P δ2 h2):∃ δ2 h2,x.bind f=some (.nx δ2,h2)/\P δ2 h2:=by
 rw [e];exact k
noncomputable def dfI:It:=⟨.lay [],.none,""⟩
def itsF (n:Nat) (st:List Int) (s:S3):List It:=(List.range n).map fun k=>(eQ (itI n st s n).kv k).getD dfI
def bC4 {n:Nat} {st:List Int} (hl:st.length=8) (s:S3):∀ x∈itsF n st s,x.ok:=by
 intro x hx;obtain ⟨k,hk,rfl⟩:=List.mem_map.mp hx;have hk:=List.mem_range.mp hk;have hq:=oE hl s n (Nat.le_refl n);have ho:(itI n st s n).ops=[]:=List.eq_nil_of_length_eq_zero (by have:=hq.ol;omega);rcases hq.al k hk with z | ⟨y,e⟩
 ·rw [ho] at z;cases z
 ·rw [e];exact hq.kv k y e
def aS4 {n:Nat} {st:List Int} (hl:st.length=8) (s:S3) {k:Nat} (hk:k < n):∃ y,eQ (itI n st s n).kv k=some y/\(eQ (itI n st s n).kv k).getD dfI=y:=by
 have hq:=oE hl s n (Nat.le_refl n);have ho:(itI n st s n).ops=[]:=List.eq_nil_of_length_eq_zero (by have:=hq.ol;omega);rcases hq.al k hk with z | ⟨y,e⟩
 ·rw [ho] at z;cases z
 ·exact ⟨y,e,by rw [e];rfl⟩
def an2 (st:List Int) (p:Stp) (w:Int):PyData:=if w=1 then aF6 st p else if w=0 then .none else (dnS st p).1
def cF2 (st:List Int) (p:Stp) (s:S3):anF st p s=if aK s 7=2/\sT p=true then (if aK (digS s 7) 4=0 then (aF2,digS (digS s 7) 4) else (an2 st p (aK s 7),digS (digS s 7) 4)) else (an2 st p (aK s 7),digS s 7):=by
 unfold anF an2
 by_cases h0:aK s 7=0
 ·simp [h0]
 by_cases h1:aK s 7=1
 ·simp [h1]
 by_cases h2:aK s 7=2
 ·simp [h2]
 ·simp [h0,h1,h2]
def cS4 {p:Stp}:∃ (w:String) (xs:List PyData),p.dat=.tuple (.str (Str.ofString w)::xs)/\(sT p=true ↔ ¬ w="look"/\¬ w="lay")/\w.length < 10:=by
 cases p with
 | call c =>
  cases c with
  | one o=>cases o<;>exact ⟨_,_,rfl,by simp [sT],by decide⟩
  | span lo hi=>exact ⟨_,_,rfl,by simp [sT],by decide⟩
  | deal cs=>exact ⟨_,_,rfl,by simp [sT],by decide⟩
 | look c=>exact ⟨"look",_,rfl,by simp [sT],by decide⟩
 | lay ps=>exact ⟨"lay",_,rfl,by simp [sT],by decide⟩
def IQ (h:aA) (i n:Nat) (st:List Int) (q:Rn) (δ:DSt) (H:aA):Prop:=∃ x6 x7 x8 x9 x10:Option W,δ=[some (.c i),some (.d (.tuple (st.map .int))),some (.d (.int n)),some (.d (.tuple (q.st.map .int))),some (.c h.length),some (.c (h.length+1)),x6,x7,x8,x9,x10]/\H=Gc h i (q.ops.map nI) (q.kv.map (cV It.dat)) q.s
def sqE {x:Option (Fl×aA)} {f:DSt->Fl×aA->Option (Fl×aA)} {R:Option (Fl×aA)} (J:DSt->aA->Prop) (e:∃ δ' h',x=some (.nx δ',h')/\J δ' h') (k:∀ δ' h',J δ' h'->f δ' (.nx δ',h')=R):YP x (YQ f)=R:=by
 obtain ⟨δ',h',e,j⟩:=e;rw [e];exact k δ' h' j
def cS5 {h:aA} {i:Nat} (hi:i < h.length) (xs:List PyData) (kvs:List (PyData×PyData)) (s s':S3):okP (h.set i (stL s)) (Gc h i xs kvs s')/\(Gc h i xs kvs s').take h.length=h.set i (stL s'):=by
 unfold Gc;exact ⟨by rw [aO4 s' hi];trivial,aO5 hi⟩
def fkV (kv:List (Nat×It)):PyData->PyData
 | .int k=>((eQ kv k.toNat).getD dfI).dat
 | _=>.none
def cS6 {h:aA} {i:Nat} (hi:i < h.length) (xs:List PyData) {kv:List (Nat×It)} {s:S3} {k:Nat} {y:It} (e:eQ kv k=some y):xIx (.c (h.length+1)) (.d (.int k)) (Gc h i xs (kv.map (cV It.dat)) s)=some (.d y.dat,Gc h i xs (kv.map (cV It.dat)) s):=by
 have f:=bC2 It.dat kv k;rw [e,eO] at f;unfold xIx ref;dsimp only;rw [G_k hi];dsimp only [eO];cases q:(kv.map (cV It.dat)).find? (fun p=>decide (bU p.1=some (Sum.inl (k:Int)))) with
 | none=>rw [q] at f;cases f
 | some z =>
  rw [q] at f;have:z.2=y.dat:=Option.some.inj f;rw [Option.map_some,this]
def bC5 (d:Nat) (h:aA) {i n:Nat} (s:S3) (hi:i < h.length) (hn:n<=120) {st:List Int} (hl:st.length=8):aD T (d+6) "_law_items" [.c i,.d (.tuple (st.map .int)),.d (.int n)] (h.set i (stL s))=some (.tuple ((itsF n st s).map It.dat),h.set i (stL (itI n st s n).s)):=by
 have e7:aT 7=true:=by decide
 have e4:aT 4=true:=by decide
 have er:fB 0 (n:Int)=true:=bJ (by omega) (by omega);have sa:∀ (s:S3) (L:aA),h.set i (stL s)++L=(h++L).set i (stL s):=fun s L=>cL hi;rw [show d+6=(d+5)+1 from rfl,sE];refine sq (.rt (.d (.tuple ((itsF n st s).map It.dat))),Gc h i [] ((itI n st s n).kv.map (cV It.dat)) (itI n st s n).s) ?_ ?_
 ·refine sy [some (.c i),some (.d (.tuple (st.map .int))),some (.d (.int n)),some (.d (.tuple (st.map .int))),none,none,none,none,none,none,none] (h.set i (stL s)) (by simp) ?_;refine sy [some (.c i),some (.d (.tuple (st.map .int))),some (.d (.int n)),some (.d (.tuple (st.map .int))),some (.c h.length),none,none,none,none,none,none] ((h++[Cell.l ((List.range n).map nI)]).set i (stL s)) ?_ ?_
  ·have b1:(-4611686018427387904:Int)<=n:=by omega
   have b2:(n:Int) < 4611686018427387904:=by omega
   have b3:(n:Int)<=16000000:=by omega
   simp [aS,sa,b1,b2,b3,gL]
  refine sy [some (.c i),some (.d (.tuple (st.map .int))),some (.d (.int n)),some (.d (.tuple (st.map .int))),some (.c h.length),some (.c (h.length+1)),none,none,none,none,none] (Gc h i ((List.range n).map nI) [] s) ?_ ?_
  ·have:∀ c,i < (h++[c]).length:=fun c=>by simp;omega
   simp [yF,Gc];rw [cL (this _),List.append_assoc];rfl
  refine sqE (IQ h i n st (itI n st s n)) ?_ ?_
  ·refine bG6 ((rng 0 n,none),Gc h i ((List.range n).map nI) [] s) (by simp [er]) ?_;refine bX (fun m=>IQ h i n st (itI n st s m)) ⟨_,_,_,_,_,rfl,rfl⟩ (fun δ h'=>by rw [CI.rng_len];exact id) fun m hm δ H r=>?_;obtain ⟨x6,x7,x8,x9,x10,rfl,rfl⟩:=r;have hm':m < n:=by simpa [rng] using hm
   have hq:=oE (n:=n) hl s m (Nat.le_of_lt hm');rw [itI];generalize (rng 0 n)[m]=v6;generalize itI n st s m=q at hq ⊢;obtain ⟨ops,kv,st',s'⟩:=q;have hst:st'.length=8:=hq.st;have hol:ops.length+m=n:=hq.ol;have hkl:kv.length<=m:=hq.kl;clear hq;obtain ⟨os,eos⟩:∃ os,os=ops.map nI:=⟨_,rfl⟩;obtain ⟨ks,eks⟩:∃ ks,ks=kv.map (cV It.dat):=⟨_,rfl⟩;refine ⟨[some (.c i),some (.d (.tuple (st.map .int))),some (.d (.int n)),some (.d (.tuple (st'.map .int))),some (.c h.length),some (.c (h.length+1)),some (.d v6),x7,x8,x9,x10],Gc h i os ks s',by rw [eos,eks];rfl,?_⟩;have g1:=bS6 hi (d+1) os ks s';obtain ⟨p,s1,ep⟩:∃ p s1,sF s'=(p,s1):=⟨_,_,rfl⟩;have hp:Sok p:=by have:=bB4 s';rw [ep] at this;exact this
   rw [ep] at g1;dsimp only at g1;refine sys [some (.c i),some (.d (.tuple (st.map .int))),some (.d (.int n)),some (.d (.tuple (st'.map .int))),some (.c h.length),some (.c (h.length+1)),some (.d v6),some (.d p.dat),x8,x9,x10] (Gc h i os ks s1) (by simp [g1]) ?_;have g2:=xI d (Gc h i os ks s1) hp hst;refine sys [some (.c i),some (.d (.tuple (st.map .int))),some (.d (.int n)),some (.d (.tuple ((dnS st' p).2.map .int))),some (.c h.length),some (.c (h.length+1)),some (.d v6),some (.d p.dat),some (.d (dnS st' p).1),x9,x10] (Gc h i os ks s1) (by simp [g2]) ?_;have g3:=mG hi (d+4) os ks s1 7 (by decide) e7;obtain ⟨w,ew⟩:∃ w,w=aK s1 7:=⟨_,rfl⟩;rw [<- ew] at g3;refine sys [some (.c i),some (.d (.tuple (st.map .int))),some (.d (.int n)),some (.d (.tuple ((dnS st' p).2.map .int))),some (.c h.length),some (.c (h.length+1)),some (.d v6),some (.d p.dat),some (.d (dnS st' p).1),some (.d (.int w)),x10] (Gc h i os ks (digS s1 7)) (by simp [g3]) ?_;refine sys [some (.c i),some (.d (.tuple (st.map .int))),some (.d (.int n)),some (.d (.tuple ((dnS st' p).2.map .int))),some (.c h.length),some (.c (h.length+1)),some (.d v6),some (.d p.dat),some (.d (if w=0 then .none else (dnS st' p).1)),some (.d (.int w)),x10] (Gc h i os ks (digS s1 7)) (by by_cases z:w=0<;>simp [z]) ?_;refine sys [some (.c i),some (.d (.tuple (st.map .int))),some (.d (.int n)),some (.d (.tuple ((dnS st' p).2.map .int))),some (.c h.length),some (.c (h.length+1)),some (.d v6),some (.d p.dat),some (.d (an2 st' p w)),some (.d (.int w)),x10] (Gc h i os ks (digS s1 7)) (by
    by_cases z:w=1
    ·have g4:=cE8 (d+3) (Gc h i os ks (digS s1 7)) hp hst;simp [z,an2,g4]
    ·simp [z,an2]) ?_
   obtain ⟨A,s2,eA⟩:∃ A s2,anF st' p s1=(A,s2):=⟨_,_,rfl⟩;refine sys [some (.c i),some (.d (.tuple (st.map .int))),some (.d (.int n)),some (.d (.tuple ((dnS st' p).2.map .int))),some (.c h.length),some (.c (h.length+1)),some (.d v6),some (.d p.dat),some (.d A),some (.d (.int w)),x10] (Gc h i os ks s2) (by
    rw [cF2,<- ew] at eA;obtain ⟨wd,xs,ed,hw,_⟩:=cS4 (p:=p)
    by_cases h2:w=2
    ·by_cases hc:sT p=true
     ·obtain ⟨n1,n2⟩:=hw.mp hc;have g5:=mG hi (d+4) os ks (digS s1 7) 4 (by decide) e4;rw [if_pos ⟨h2,hc⟩] at eA
      by_cases h4:aK (digS s1 7) 4=0
      ·rw [if_pos h4] at eA;cases eA;simp [h2,ed,PyData.eqv,n1,n2,g5,h4,aF2,szl]
      ·rw [if_neg h4] at eA;cases eA;simp [h2,ed,PyData.eqv,n1,n2,g5,h4]
     ·rw [if_neg (fun z=>hc z.2)] at eA;cases eA
      by_cases n1:wd="look"
      ·simp [h2,ed,PyData.eqv,n1]
      ·have n2:wd="lay":=Classical.byContradiction fun n2=>hc (hw.mpr ⟨n1,n2⟩);simp [h2,ed,PyData.eqv,n2]
    ·rw [if_neg (fun z=>h2 z.1)] at eA;cases eA;simp [h2]) ?_
   have g6:=mG hi (d+4) os ks s2 7 (by decide) e7;have g7:=cE9 s2;refine sys [some (.c i),some (.d (.tuple (st.map .int))),some (.d (.int n)),some (.d (.tuple ((dnS st' p).2.map .int))),some (.c h.length),some (.c (h.length+1)),some (.d v6),some (.d p.dat),some (.d A),some (.d (.int w)),some (.d (.str (Str.ofString (wdF (aK s2 7)))))] (Gc h i os ks (digS s2 7)) (by simp [g6,g7,szl,aM]) ?_;have lo:(0:Int) < ops.length:=by omega
   obtain ⟨j,ej,hj⟩:=aV (digS s2 7) (b:=ops.length) lo;have hj':j < ops.length:=by omega
   have g8:=mG hi (d+4) os ks (digS s2 7) ops.length lo (cI lo (by omega));have g9:=cF0 hi os ks (digS s2 7);have g10:=cF1 hi hj' (by omega) ks (digS (digS s2 7) ops.length);have g11:=G_l hi os ks (digS s2 7);have ol:os.length=ops.length:=by rw [eos];simp
   rw [<- eos] at g10;rw [ej] at g8;rw [ol] at g9;have hk2:ks.length < 16777216:=by rw [eks];simp;omega
   have g12:=G_k hi ((ops.eraseIdx j).map nI) ks (digS (digS s2 7) ops.length);have g13:=aS2 It.dat kv (ops.getD j 0) ⟨p,A,wdF (aK s2 7)⟩;have ei:itF st' s'=(⟨p,A,wdF (aK s2 7)⟩,(dnS st' p).2,digS s2 7):=by simp [itF,ep,eA]
   have er':rnd ⟨ops,kv,st',s'⟩=⟨ops.eraseIdx j,putN kv (ops.getD j 0) ⟨p,A,wdF (aK s2 7)⟩,(dnS st' p).2,digS (digS s2 7) ops.length⟩:=by
    unfold rnd;simp only [ei,ej,Int.toNat_natCast]
   rw [er'];refine ⟨[some (.c i),some (.d (.tuple (st.map .int))),some (.d (.int n)),some (.d (.tuple ((dnS st' p).2.map .int))),some (.c h.length),some (.c (h.length+1)),some (.d v6),some (.d p.dat),some (.d A),some (.d (.int w)),some (.d (.str (Str.ofString (wdF (aK s2 7)))))],Gc h i ((ops.eraseIdx j).map nI) ((putN kv (ops.getD j 0) ⟨p,A,wdF (aK s2 7)⟩).map (cV It.dat)) (digS (digS s2 7) ops.length),?_,_,_,_,_,_,rfl,rfl⟩;rw [<- g13,<- eks];simp [g8,g9,g10,g11,g12,szl,hk2,eO,It.dat,cS3 hi]
  ·rintro δ' H ⟨x6,x7,x8,x9,x10,rfl,rfl⟩;have hq:=oE hl s n (Nat.le_refl n);have ho:(itI n st s n).ops=[]:=List.eq_nil_of_length_eq_zero (by have:=hq.ol;omega);rw [ho];simp [er,aM,szl];rw [bP8 (fkV (itI n st s n).kv) (fun δ=>∃ a,δ=[a,some (.c (h.length+1))]) _ _ ⟨_,rfl⟩ (fun z hz δ ⟨a,e⟩=>by
    subst e;rw [gL] at hz;obtain ⟨k,hk,rfl⟩:=List.mem_map.mp hz;obtain ⟨y,ey,ey2⟩:=aS4 hl s (List.mem_range.mp hk);have g:=cS6 hi [] (s:=(itI n st s n).s) ey;refine ⟨[some (.d (nI k)),_],rfl,⟨_,rfl⟩,?_⟩;simp [nI,fkV,g,ey])]
   rw [gL];simp [itsF,Function.comp_def,nI,fkV]
 ·have:=cS5 hi [] ((itI n st s n).kv.map (cV It.dat)) s (itI n st s n).s;simp [this.1,this.2]
end K26

namespace K26
open PySem PySem.Spec PyProof.Rows L2 DL CI SJ
def vs:Nat->S3->List Int×S3
 | 0,s=>([],s)
 | k+1,s=>((vF s).1::(vs k (vF s).2).1,(vs k (vF s).2).2)
theorem aS5:∀ (k:Nat) (s:S3),(vs k s).1.length=k
 | 0,s=>rfl
 | k+1,s=>by simp [vs,aS5 k]
theorem zR {g:XG} {te:XR W} {all:List PyData} {h:aA} {i:Nat} (k:Nat) (hg:∀ w δ h,g w δ h=some (δ.set k (some w),h)) :
  ∀ (rest:List PyData) (δ:DSt) (ac:List PyData) (c:Cell) (s:S3),Stf c s->(rest=[]->c=stL s)->(∀ x∈rest,∀ u c s,Stf c s->te ((δ.set k u).set k (some (.d x))) (h.set i c)=some (.d (.int (vF s).1),h.set i (stL (vF s).2))) ->
   aN g (aC true) te none all rest δ (h.set i c) ac=some (ac++(vs rest.length s).1.map .int,h.set i (stL (vs rest.length s).2))
 | [],δ,ac,c,s,_,hn,_=>by rw [hn rfl];simp [aN,vs]
 | x::r,δ,ac,c,s,hc,_,hf=>by
  have e:=hf x List.mem_cons_self none c s hc;rw [List.set_set] at e;rw [aN,bS,if_pos rfl,hg];simp only [Option.bind_some,nH,if_true,e];rw [zR k hg r _ _ _ _ (stf _) (fun _=>rfl) fun y hy u c s hc=>by
   have:=hf y (List.mem_cons_of_mem _ hy) u c s hc;rw [List.set_set] at this ⊢;rw [List.set_set];exact this]
  simp [vs]
def stF (s:S3):List Int×S3:=if aK s 3=0 then vs 8 (digS s 3) else ([0,0,0,0,0,0,0,0],digS s 3)
def sU (s:S3):(stF s).1.length=8:=by
 unfold stF;split
 ·exact aS5 8 _
 ·rfl
def pN (c:Int) (m:Nat):Nat:=(aK (st0 c) (m+1)).toNat
def pS (c:Int) (m:Nat):List Int×S3:=stF (digS (st0 c) (m+1))
def pI (c:Int) (m:Nat):List It:=itsF (pN c m) (pS c m).1 (pS c m).2
def pT (c:Int) (m:Nat):S3:=(itI (pN c m) (pS c m).1 (pS c m).2 (pN c m)).s
def pP (c:Int) (m:Nat):List (Nat×Nat)×S3:=itP (pN c m) (digS (pT c m) 5) (aK (pT c m) 5).toNat
def pbF (c:Int) (m:Nat):Pb:=⟨(pS c m).1,pI c m,(pP c m).1,(itT (pI c m) (digS (pP c m).2 4) (aK (pP c m).2 4).toNat).1⟩
def aS6 (c:Int) (m:Nat):pN c m<=m:=by
 have h1:=dA (st0 c) (b:=(m:Int)+1) (by omega);have h2:=dB (st0 c) (b:=(m:Int)+1) (by omega);unfold pN;omega
def xO (c:Int) (m:Nat):(pI c m).length=pN c m:=by simp [pI,itsF]
def bS7 (c:Int) {m:Nat} (hm:m<=120):(pbF c m).ok:=by
 have hl:=aS6 c m;have e:=xO c m;refine ⟨sU _,?_,bC4 (sU _) _,?_,?_,?_,xN _ _ _⟩
 ·show (pI c m).length<=120;omega
 ·have:=sQ (pN c m) (digS (pT c m) 5) (aK (pT c m) 5).toNat;have:=dB (pT c m) (b:=5) (by decide);show (itP (pN c m) (digS (pT c m) 5) (aK (pT c m) 5).toNat).1.length<=100;omega
 ·intro p hp;show p.1 < (pI c m).length/\p.2 < (pI c m).length/\p.1≠p.2;rw [e];exact xM _ _ _ p hp
 ·have:=sS (pI c m) (digS (pP c m).2 4) (aK (pP c m).2 4).toNat;have:=dB (pP c m).2 (b:=4) (by decide);show (itT (pI c m) (digS (pP c m).2 4) (aK (pP c m).2 4).toNat).1.length<=100;omega
theorem bC6 (h:aA) (c c':Cell):h++[c]=(h++[c']).set h.length c:=by simp
def aF7 (d:Nat) (h:aA) (c:Int) {m:Nat} (hm:m<=120):aD T (d+7) "_law_problem" [.d (.int c),.d (.int m)] h=some ((pbF c m).dat,h):=by
 have e3:aT 3=true:=by decide
 have er:fB 0 8=true:=bJ (by omega) (by omega);have hi:h.length < (h++[Cell.l []]).length:=by simp
 have as:∀ c,h++[c]=(h++[Cell.l []]).set h.length c:=fun c=>bC6 h c _;obtain ⟨H,eH⟩:∃ H,H=h++[Cell.l []]:=⟨_,rfl⟩;rw [<- eH] at hi as;have hm1:(0:Int) < m+1:=by omega
 have g1:=uN (d+5) H c (m+1) hi hm1 (cI hm1 (by omega));obtain ⟨n,en⟩:∃ n,n=pN c m:=⟨_,rfl⟩;have hn:aK (st0 c) (m+1)=n:=by
  have h1:=dA (st0 c) (b:=(m:Int)+1) (by omega);rw [en];unfold pN;omega
 have hn2:n<=120:=by have:=aS6 c m;omega
 rw [hn] at g1;rw [show d+7=(d+6)+1 from rfl,nS];refine sq (.rt (.d (pbF c m).dat),H.set h.length (stL (itT (pI c m) (digS (pP c m).2 4) (aK (pP c m).2 4).toNat).2)) ?_ ?_
 ·refine sy [some (.d (.int c)),some (.d (.int m)),some (.c h.length),none,none,none] (H.set h.length (.l [.int c])) (by simp [aS,szl,<- as]) ?_;refine sy [some (.d (.int c)),some (.d (.int m)),some (.c h.length),some (.d (.int n)),none,none] (H.set h.length (stL (digS (st0 c) (m+1)))) (by simp [g1]) ?_;refine sy [some (.d (.int c)),some (.d (.int m)),some (.c h.length),some (.d (.int n)),some (.d (.tuple ([0,0,0,0,0,0,0,0].map .int))),none] (H.set h.length (stL (digS (st0 c) (m+1)))) (by simp) ?_;refine sy [some (.d (.int c)),some (.d (.int m)),some (.c h.length),some (.d (.int n)),some (.d (.tuple ((pS c m).1.map .int))),none] (H.set h.length (stL (pS c m).2)) ?_ ?_
  ·have g2:=cD (d+5) H (digS (st0 c) (m+1)) 3 hi (by decide) e3;unfold pS stF
   by_cases z:aK (digS (st0 c) (m+1)) 3=0
   ·rw [if_pos z];rw [z] at g2;simp [g2,er,aM,szl];rw [zR 0 (fun _ _ _=>rfl) _ _ _ _ _ (stf _) (fun _=>rfl) (fun x hx u c s hc=>by
     have:=uO (d+4) H hc hi;simp [this])]
    simp [rng]
   ·rw [if_neg z];simp [g2,z]
  have g3:=bC5 d H (pS c m).2 hi hn2 (sU (digS (st0 c) (m+1)));have g4:=bC1 (d+4) H (n:=n) (pT c m) hi hn2;have g5:=aF5 (d+4) H (pP c m).2 hi (its:=pI c m) (by rw [xO];omega);refine sy [some (.d (.int c)),some (.d (.int m)),some (.c h.length),some (.d (.int n)),some (.d (.tuple ((pS c m).1.map .int))),some (.d (.tuple ((pI c m).map It.dat)))] (H.set h.length (stL (pT c m))) ?_ ?_
  ·have g3':aD T (d+6) "_law_items" [.c h.length,.d (.tuple ((pS c m).1.map .int)),.d (.int n)] (H.set h.length (stL (pS c m).2))=some (.tuple ((pI c m).map It.dat),H.set h.length (stL (pT c m))):=by
    rw [en];rw [en] at g3;exact g3
   simp [g3']
  have g4':aD T (d+6) "_law_pairs" [.c h.length,.d (.int n)] (H.set h.length (stL (pT c m)))=some (.tuple ((pP c m).1.map p2),H.set h.length (stL (pP c m).2)):=by
   rw [en];rw [en] at g4;exact g4
  simp [g4',g5,szl,pbF,Pb.dat]
 ·have ek:∀ c,H.set h.length c=h++[c]:=fun c=>(as c).symm;rw [ek];simp
end K26

namespace K26
open PySem PySem.Spec PyProof.Rows L2 DL CI SJ
open Classical in
def bhO (st:List Int) (y:It):Option (List Int):=if y.t=.none\/PyData.eqv y.t (dnS st y.p).1=true then some (dnS st y.p).2 else none
def cF3 {st:List Int} {y:It} {s:List Int} (e:bhO st y=some s):bh st y=.tuple (s.map .int):=by
 unfold bhO at e;unfold bh;split at e
 ·rename_i c;rw [if_pos c];cases e;rfl
 ·cases e
def cF4 {st:List Int} {y:It} (e:bhO st y=none):bh st y=.none:=by
 unfold bhO at e;unfold bh;split at e
 ·cases e
 ·rename_i c;rw [if_neg c]
def aS7 {st:List Int} {y:It} (hy:y.ok) (hl:st.length=8) {s:List Int} (e:bhO st y=some s):s.length=8:=by
 unfold bhO at e;split at e
 ·cases e;exact sN hy.s hl
 ·cases e
def gM (b:Pb) (line:List Nat):List Nat:=(mus b.its).filter fun x=>!decide (x∈line)
end K26

namespace K26
open PySem PySem.Spec PyProof.Rows L2 DL CI SJ
def sV (d:Nat) (h:aA) {b:Pb} (hb:b.ok):∃ H,callW T (d+14) "ways_of" [.d b.dat] h=some (.c h.length,H)/\Wd b h.length H/\H.length=h.length+wdZ b/\∀ i,i < h.length->H[i]?=h[i]?:=by
 obtain ⟨H,e,w⟩:=bR9 (d+11) hb h;refine ⟨H,?_,cE7 w,by have:=w.ln;unfold wdZ;omega,w.sm⟩;have e1:=bB9 d h hb;have e2:xMk 280 (callI T (d+13) (Str.ofString "Ways")) [.d b.dat] h=some (.c h.length,H):=by
  unfold xMk;rw [show d+13=d+11+2 from rfl,e];rfl
 simp [wZ,e1,e2]
def aF8 (d:Nat) {b:Pb} {j:Nat} {H:aA} {w1:W} {pl:List Nat} (w:Wd b j H) (hin:Inn H w1 pl):callM T (d+1) "missing" [.c j,w1] H=some (.d (.list ((gM b pl).map nI)),H):=by
 obtain ⟨a0,a1,a2,ho,_⟩:=w.ex;obtain ⟨f1,f2,f3,f4,f5,f6⟩:=uX;have lM:(F6 b a0 a1 a2).lookup (Str.ofString "musts")=some (.d (.list ((mus b.its).map nI))):=by simp [F6,List.lookup]
 rw [xB];simp [ho,f3,lM,aM];rw [dE (fun z=>match z with | .int k=>!decide (k.toNat∈pl) | _=>false) id (fun δ=>∃ u,δ=[u,some w1]) _ _ _ ⟨_,rfl⟩ (fun z hz δ ⟨u,e⟩=>by
  subst e;obtain ⟨k,hk,rfl⟩:=List.mem_map.mp hz;refine ⟨[some (.d (nI k)),some w1],rfl,⟨_,rfl⟩,?_,fun _=>by simp⟩;simp [nI,hin k])]
 simp;rw [List.filter_map];rfl
def dcB (g:List (Nat×Bool)):Cell:=.k (g.map (cV .bool))
def bG7 {H:aA} {i:Nat} {g:List (Nat×Bool)} {pl:List Nat} (e:H[i]?=some (dcB g)) (hk:∀ y,y∈g.map (·.1) ↔ y∈pl):Inn H (.c i) pl:=fun y=>by
 have:((g.map (cV PyData.bool)).any fun p=>decide (bU p.1=some (.inl (y:Int))))=decide (y∈pl):=by
  rw [Bool.eq_iff_iff,List.any_eq_true,decide_eq_true_eq,<- hk];constructor
  ·rintro ⟨p,hp,h⟩;obtain ⟨q,hq,rfl⟩:=List.mem_map.mp hp;have:=of_decide_eq_true h;rw [<- eO,oB] at this;exact List.mem_map.mpr ⟨q,hq,this⟩
  ·intro h;obtain ⟨q,hq,e⟩:=List.mem_map.mp h;refine ⟨_,List.mem_map.mpr ⟨q,hq,rfl⟩,decide_eq_true ?_⟩;rw [<- eO,oB];exact e
 unfold xIn;simp [ref,e,dcB,eO]
 simpa using this
def bC7 (g:List (Nat×Bool)) (k:Nat) (v:Bool) (y:Nat):y∈(putN g k v).map (·.1) ↔ y∈g.map (·.1)\/y=k:=by
 unfold putN;split
 ·rename_i h;have e:(g.map fun p=>if p.1=k then (p.1,v) else p).map (·.1)=g.map (·.1):=by
   rw [List.map_map];refine List.map_congr_left fun p _=>?_;simp only [Function.comp];split<;>rfl
  rw [e];constructor
  ·exact .inl
  ·rintro (h1 | rfl)
   ·exact h1
   ·obtain ⟨p,hp,e⟩:=List.any_eq_true.mp h;exact List.mem_map.mpr ⟨p,hp,by simpa using e⟩
 ·rw [List.map_append,List.mem_append];simp
theorem bools_map {α:Type} (p:α->Bool):∀ xs:List α,eR (xs.map fun z=>PyData.bool (p z))=some (xs.map p)
 | []=>rfl
 | x::r=>by
  rw [List.map_cons,eR,bools_map p r];rfl
end K26

namespace K26
open PySem PySem.Spec PyProof.Rows L2 DL CI SJ
def okL (n:Nat) (l:List Nat):Prop:=∀ x∈l,x < n
def cQ (b:Pb):List Nat->List Int->Option (List Int)
 | [],st=>some st
 | x::r,st=>(bhO st (b.its.getD x dfI)).bind (cQ b r)
theorem jP (b:Pb):∀ (l r:List Nat) (st:List Int),cQ b (l++r) st=(cQ b l st).bind (cQ b r)
 | [],r,st=>rfl
 | x::l,r,st=>by
  rw [List.cons_append,cQ,cQ];cases bhO st (b.its.getD x dfI) with
  | none=>rfl
  | some s=>exact jP b l r s
noncomputable def ix (l:List Nat) (x:Nat):Nat:=l.findIdx fun y=>decide (y=x)
def uY {l:List Nat} {x:Nat} (h:x∈l):ix l x < l.length:=List.findIdx_lt_length_of_exists ⟨x,h,by simp⟩
def kO {l:List Nat} {x:Nat} (h:x∈l):l[ix l x]'(uY h)=x:=by
 have:=List.findIdx_getElem (xs:=l) (p:=fun y=>decide (y=x)) (w:=uY h);unfold ix
 simpa using this
def bG8 {l:List Nat} (hn:l.Nodup) {k:Nat} (hk:k < l.length):ix l l[k]=k:=by
 have h:=kO (List.getElem_mem hk);exact (List.getElem_inj hn).mp h
def eY {l:List Nat} (hn:l.Nodup) {x k:Nat} (hx:x∈l):x∈l.take k ↔ ix l x < k:=by
 constructor
 ·intro h;obtain ⟨i,hi,e⟩:=List.mem_iff_getElem.mp h;rw [List.length_take] at hi;rw [List.getElem_take] at e;have:=bG8 hn (k:=i) (by omega);rw [e] at this;omega
 ·intro h;have h1:=uY hx;have h2:=kO hx;rw [<- h2];exact List.mem_iff_getElem.mpr ⟨ix l x,by rw [List.length_take];omega,by rw [List.getElem_take]⟩
def bG9 {l:List Nat} {x y:Nat} (hx:x∈l) (hy:y∈l) (h:x≠y):ix l x≠ix l y:=fun e=>h (by
 have h1:=kO hx;have h2:=kO hy;rw [<- h1,<- h2]
 congr 1)
def lU (b:Pb) (l:List Nat):Bool:=!(b.ps.any fun p=>decide (p.1∈l)&&(decide (p.2∈l)&&decide (ix l p.2 < ix l p.1)))&&!(b.ts.any fun t=>decide (t.1∈l)&&(decide (t.2.1∈l)&&(decide (t.2.2∈l)&&(decide (ix l t.1 < ix l t.2.2)&&decide (ix l t.2.2 < ix l t.2.1)))))
def lV (b:Pb) (l:List Nat):Bool:=l.any fun x=>decide (wdI b.its x="out")
def zS {b:Pb} (hb:b.ok) {l:List Nat} (hl:okL b.its.length l) (hn:l.Nodup) (hm:gM b l=[]):(∀ k (hk:k < l.length),eK b (l.take k) l[k]=true) ↔ (lV b l=false/\lU b l=true):=by
 have mu:∀ x,must b.its x->x∈l:=fun x ⟨y,ey,ew⟩=>by
  have hx:x < b.its.length:=(List.getElem?_eq_some_iff.mp ey).1;have h1:x∈mus b.its:=List.mem_filter.mpr ⟨List.mem_range.mpr hx,by simp [dT,ey,ew]⟩;refine Classical.byContradiction fun h=>?_;have:x∈gM b l:=List.mem_filter.mpr ⟨h1,by simp [h]⟩;rw [hm] at this;cases this
 have mu2:∀ x,dT b.its x=true->x∈l:=fun x h=>mu x (by
  unfold dT at h;split at h
  ·rename_i y ey;exact ⟨y,ey,by simpa using h⟩
  ·cases h)
 constructor
 ·intro H;have H':∀ k (hk:k < l.length),¬ l[k]∈l.take k/\¬ wdI b.its l[k]="out"/\(∀ y∈ahL b.its b.ps l[k],y∈l.take k)/\(∀ y∈laL b.ps l[k],¬ y∈l.take k)/\∀ q∈gaL b.ts l[k],q.1∈l.take k->q.2∈l.take k:=fun k hk=>by
   have h:=H k hk;unfold eK at h;simp at h;obtain ⟨⟨a1,a2⟩,a3,a4,a5⟩:=h;exact ⟨a1,a2,a3,a4,fun q=>a5 q.1 q.2⟩
  refine ⟨?_,?_⟩
  ·unfold lV;rw [List.any_eq_false];intro x hx;obtain ⟨k,hk,rfl⟩:=List.mem_iff_getElem.mp hx
   simpa using (H' k hk).2.1
  ·unfold lU;rw [Bool.and_eq_true,Bool.not_eq_true',Bool.not_eq_true',List.any_eq_false,List.any_eq_false];refine ⟨fun p hp=>?_,fun t ht=>?_⟩
   ·intro h;simp only [Bool.and_eq_true,decide_eq_true_eq] at h;obtain ⟨h1,h2,h3⟩:=h;have hk:=uY h1;have e:=kO h1;have h4:=(H' _ hk).2.2.2.1 p.2 (by rw [e];exact List.mem_map.mpr ⟨p,List.mem_filter.mpr ⟨hp,by simp⟩,rfl⟩);exact h4 ((eY hn h2).mpr h3)
   ·intro h;simp only [Bool.and_eq_true,decide_eq_true_eq] at h;obtain ⟨h1,h2,h3,h4,h5⟩:=h;have hk:=uY h3;have e:=kO h3;have h6:=(H' _ hk).2.2.2.2 (t.1,t.2.1) (by rw [e];exact List.mem_map.mpr ⟨t,List.mem_filter.mpr ⟨ht,by simp⟩,rfl⟩) ((eY hn h1).mpr h4);have:=(eY hn h2).mp h6;omega
 ·rintro ⟨h1,h2⟩ k hk;have hx:l[k]∈l:=List.getElem_mem hk;unfold lV at h1;rw [List.any_eq_false] at h1;unfold lU at h2;rw [Bool.and_eq_true,Bool.not_eq_true',Bool.not_eq_true',List.any_eq_false,List.any_eq_false] at h2;have ek:=bG8 hn hk;have g1:¬ l[k]∈l.take k:=fun h=>by have:=(eY hn hx).mp h;omega
  have g2:¬ wdI b.its l[k]="out":=by simpa using h1 _ hx
  have g3:∀ y∈ahL b.its b.ps l[k],y∈l.take k:=fun y hy=>by
   obtain ⟨p,hp,rfl⟩:=List.mem_map.mp hy;obtain ⟨hp1,hp2⟩:=List.mem_filter.mp hp;simp only [Bool.and_eq_true,decide_eq_true_eq] at hp2;have h3:=mu2 p.1 hp2.2;have h4:=h2.1 p hp1;simp only [Bool.and_eq_true,decide_eq_true_eq,not_and] at h4;have h5:p.2∈l:=by rw [hp2.1];exact hx
   have h6:=h4 h3 h5;have h7:=bG9 h3 h5 (hb.ps p hp1).2.2;refine (eY hn h3).mpr ?_;rw [hp2.1,ek] at h6 h7;omega
  have g4:∀ y∈laL b.ps l[k],¬ y∈l.take k:=fun y hy hm'=>by
   obtain ⟨p,hp,rfl⟩:=List.mem_map.mp hy;obtain ⟨hp1,hp2⟩:=List.mem_filter.mp hp;simp only [decide_eq_true_eq] at hp2;have h5:p.2∈l:=List.mem_of_mem_take hm';have h3:p.1∈l:=by rw [hp2];exact hx
   have h4:=h2.1 p hp1;simp only [Bool.and_eq_true,decide_eq_true_eq,not_and] at h4;have h6:=h4 h3 h5;have h7:=(eY hn h5).mp hm';rw [hp2,ek] at h6;omega
  have g5:∀ q∈gaL b.ts l[k],q.1∈l.take k->q.2∈l.take k:=fun q hq hq1=>by
   obtain ⟨t,ht,rfl⟩:=List.mem_map.mp hq;obtain ⟨ht1,ht2⟩:=List.mem_filter.mp ht;simp only [decide_eq_true_eq] at ht2;dsimp only at hq1 ⊢;obtain ⟨_,_,_,_,_,t6,t7,t8⟩:=hb.ts t ht1;have m1:=mu t.1 t7;have m2:=mu t.2.1 t8;have m3:t.2.2∈l:=by rw [ht2];exact hx
   have h4:=h2.2 t ht1;simp only [Bool.and_eq_true,decide_eq_true_eq,not_and] at h4;have h6:=(eY hn m1).mp hq1;have h7:=h4 m1 m2 m3 (by rw [ht2,ek];exact h6);have h8:=bG9 m2 m3 t6;rw [ht2,ek] at h7 h8;exact (eY hn m2).mpr (by omega)
  unfold eK;simp [g1,g2];exact ⟨g3,g4,fun a c h=>g5 (a,c) h⟩
end K26

namespace K26
open PySem PySem.Spec PyProof.Rows L2 DL CI SJ
def bE (b:Pb) (l:List Nat):Bool:=!lV b l&&(decide (gM b l=[])&&lU b l)
structure OL (b:Pb) (l:List Nat):Prop where
 ok:okL b.its.length l
 nd:l.Nodup
 an:(cQ b l b.st).isSome=true
theorem iL {n:Nat}:∀ {l:List Nat},l.Nodup->okL n l->l.length<=n:=by
 induction n with
 | zero =>
  intro l _ h;cases l with
  | nil=>exact Nat.le_refl 0
  | cons a r=>exact absurd (h a List.mem_cons_self) (by omega)
 | succ n ih =>
  intro l hn h;have h1:=ih (hn.erase n) (fun x hx=>by
   have h2:=h x (List.mem_of_mem_erase hx);have h3:x≠n:=fun e=>by
    rw [e] at hx;exact (List.Nodup.not_mem_erase hn) hx
   omega)
  have h4:l.length<=(l.erase n).length+1:=by
   rw [List.length_erase];split<;>omega
  omega
end K26

namespace K26
open PySem PySem.Spec PyProof.Rows L2 DL CI SJ
def uZ {l:List Nat} {x:Nat} (hx:x∈l):(l.map nI).findIdx? (fun z=>PyData.eqv z (.int x))=some (ix l x):=by
 rw [List.findIdx?_map];have e:((fun z=>PyData.eqv z (.int x)) ∘ nI)=fun y=>decide (y=x):=by
  funext y
  rw [Bool.eq_iff_iff];simp [nI,PyData.eqv];omega
 rw [e];exact List.findIdx?_eq_some_of_exists ⟨x,hx,by simp⟩
def aF9 (d:Nat) (h:aA) {b:Pb} {l:List Nat}:aD T (d+1) "_law_ordered" [.d b.dat,.d (.list (l.map nI))] h=some (.bool (lU b l),h):=by
 have hin:=aR7 h l;have pl64:=qV l 63;rw [nT];refine sq (.rt (.d (.bool (lU b l))),h) ?_ (by simp);refine lpB (b.ps.any fun p=>decide (p.1∈l)&&(decide (p.2∈l)&&decide (ix l p.2 < ix l p.1))) (.d (.bool false)) h (fun δ=>∃ u v,δ=[some (.d b.dat),some (.d (.list (l.map nI))),u,v,none]) ?_ (fun z=>?_) (fun z1 δ i=>?_)
 ·refine bI ((b.ps.map p2,none),h) (by simp [Pb.dat]) ?_;refine fJ rfl p2 _ _ _ _ ⟨_,_,rfl⟩ fun q hq δ i=>?_;obtain ⟨u,v,rfl⟩:=i;refine ⟨[some (.d b.dat),some (.d (.list (l.map nI))),some (.d (.int q.1)),some (.d (.int q.2)),none],by simp [p2],[some (.d b.dat),some (.d (.list (l.map nI))),some (.d (.int q.1)),some (.d (.int q.2)),none],?_,_,_,rfl⟩;have h1:=hin q.1;have h2:=hin q.2
  by_cases a1:q.1∈l
  ·by_cases a2:q.2∈l
   ·have f1:=uZ a1;have f2:=uZ a2
    by_cases a3:ix l q.2 < ix l q.1<;>simp [h1,h2,a1,a2,f1,f2,a3,pl64]
   ·simp [h1,h2,a1,a2]
  ·simp [h1,a1]
 ·simp [lU,z]
 obtain ⟨u,v,rfl⟩:=i;refine lpB (b.ts.any fun t=>decide (t.1∈l)&&(decide (t.2.1∈l)&&(decide (t.2.2∈l)&&(decide (ix l t.1 < ix l t.2.2)&&decide (ix l t.2.2 < ix l t.2.1))))) (.d (.bool false)) h (fun δ=>∃ u v w,δ=[some (.d b.dat),some (.d (.list (l.map nI))),u,v,w]) ?_ (fun z=>?_) (fun z2 δ i=>?_)
 ·refine bI ((b.ts.map p3,none),h) (by simp [Pb.dat]) ?_;refine fJ rfl p3 _ _ _ _ ⟨_,_,_,rfl⟩ fun q hq δ i=>?_;obtain ⟨u,v,w,rfl⟩:=i;refine ⟨[some (.d b.dat),some (.d (.list (l.map nI))),some (.d (.int q.1)),some (.d (.int q.2.1)),some (.d (.int q.2.2))],by simp [p3],[some (.d b.dat),some (.d (.list (l.map nI))),some (.d (.int q.1)),some (.d (.int q.2.1)),some (.d (.int q.2.2))],?_,_,_,_,rfl⟩;have h1:=hin q.1;have h2:=hin q.2.1;have h3:=hin q.2.2
  by_cases a1:q.1∈l
  ·by_cases a2:q.2.1∈l
   ·by_cases a3:q.2.2∈l
    ·have f1:=uZ a1;have f2:=uZ a2;have f3:=uZ a3
     by_cases a4:ix l q.1 < ix l q.2.2
     ·by_cases a5:ix l q.2.2 < ix l q.2.1<;>simp [h1,h2,h3,a1,a2,a3,f1,f2,f3,a4,a5,pl64,xC2]
     ·simp [h1,h2,h3,a1,a2,a3,f1,f2,f3,a4,pl64,xC2]
    ·simp [h1,h2,h3,a1,a2,a3]
   ·simp [h1,h2,a1,a2]
  ·simp [h1,a1]
 ·simp [lU,z]
 ·obtain ⟨u,v,w,rfl⟩:=i;have em:lU b l=true:=by unfold lU;rw [z1,z2];rfl
  rw [em];rfl
def mH {b:Pb} {x:Nat} (hx:x < b.its.length):b.its[x]?=some (b.its.getD x dfI):=by rw [List.getD_eq_getElem?_getD,List.getElem?_eq_getElem hx];rfl
mutual
theorem ec:(a b:PyData)->PyData.eqv a b=PyData.eqv b a
 | .tuple xs,b=>by
  cases b<;>simp only [PyData.eqv];exact ecs xs _
 | .list xs,b=>by
  cases b<;>simp only [PyData.eqv];exact ecs xs _
 | .none,b=>by cases b<;>simp only [PyData.eqv]
 | .bool x,b=>by cases b<;>simp only [PyData.eqv]<;>exact Bool.beq_comm
 | .int x,b=>by cases b<;>simp only [PyData.eqv]<;>exact Bool.beq_comm
 | .str x,b=>by cases b<;>simp only [PyData.eqv]<;>exact Bool.beq_comm
 | .dict x,b=>by cases b<;>simp only [PyData.eqv]
theorem ecs:(xs ys:List PyData)->PyData.eqvAll xs ys=PyData.eqvAll ys xs
 | [],ys=>by cases ys<;>simp only [PyData.eqvAll]
 | x::r,ys=>by
  cases ys with
  | nil=>simp only [PyData.eqvAll]
  | cons y s=>simp only [PyData.eqvAll];rw [ec x y,ecs r s]
end
theorem vA {b:Pb} {g:XG} {tb:XS} {all:List PyData} {h:aA} (D:List Int->Option W->Option W->DSt)
  (ht:∀ x st u v,x < b.its.length->st.length=8->∃ δ1,g (.d (nI x)) (D st u v) h=some (δ1,h)/\((∃ s',bhO st (b.its.getD x dfI)=some s'/\s'.length=8/\∃ u' v',tb δ1 h=some (.nx (D s' u' v'),h))\/(bhO st (b.its.getD x dfI)=none/\tb δ1 h=some (.rt (.d (.bool false)),h)))) :
  ∀ (l:List Nat) (st:List Int) (u v:Option W),okL b.its.length l->st.length=8->∃ s' u' v',aX g tb none all (l.map nI) (D st u v) h=some (if (!(cQ b l st).isSome)=true then .rt (.d (.bool false)) else .nx (D s' u' v'),h)
 | [],st,u,v,_,_=>⟨st,u,v,by simp [aX,cQ]⟩
 | x::r,st,u,v,hl,hst=>by
  obtain ⟨δ1,e1,q⟩:=ht x st u v (hl x List.mem_cons_self) hst;rw [List.map_cons,aX,bS,if_pos rfl,e1];rcases q with ⟨s',hq,hs',u',v',e2⟩ | ⟨hq,e2⟩
  ·obtain ⟨s2,u2,v2,e3⟩:=vA D ht r s' u' v' (fun y hy=>hl y (List.mem_cons_of_mem _ hy)) hs';refine ⟨s2,u2,v2,?_⟩;simp only [bs,e2,cQ,hq];exact e3
  ·refine ⟨st,u,v,?_⟩;simp only [bs,e2,cQ,hq];rfl
def oG (d:Nat) (h:aA) {b:Pb} (hb:b.ok) {l:List Nat} (hl:okL b.its.length l):aD T (d+6) "_law_answered" [.d b.dat,.d (.list (l.map nI))] h=some (.bool (cQ b l b.st).isSome,h):=by
 rw [show d+6=(d+5)+1 from rfl,lQ];refine sq (.rt (.d (.bool (cQ b l b.st).isSome)),h) ?_ (by simp);refine sy [some (.d b.dat),some (.d (.list (l.map nI))),some (.d (.tuple (b.st.map .int))),none,none] h (by simp [Pb.dat]) ?_;refine lpB (!(cQ b l b.st).isSome) (.d (.bool false)) h (fun δ=>∃ (st:List Int) (u v:Option W),δ=[some (.d b.dat),some (.d (.list (l.map nI))),some (.d (.tuple (st.map .int))),u,v]) ?_ (fun z=>?_) (fun z δ i=>?_)
 ·refine bI ((l.map nI,none),h) (by simp) ?_;refine Exists.elim (vA (b:=b) (g:=YG 3) (all:=l.map nI) (h:=h) (fun st u v=>[some (.d b.dat),some (.d (.list (l.map nI))),some (.d (.tuple (st.map .int))),u,v]) (fun x st u v hx hst=>?_) l b.st none none hl hb.st) fun s' ⟨u',v',e⟩=>⟨_,e,s',u',v',rfl⟩
  ·have hy:=hb.its _ (List.mem_of_getElem? (mH hx));have e1:=xI d h hy.s hst;have e2:=qU (mH hx);have e4:=cE3 h (bC0 st (b.its.getD x dfI).p).1 hy.t;rw [ec] at e4;have hln:=sN hy.s hst;refine ⟨[some (.d b.dat),some (.d (.list (l.map nI))),some (.d (.tuple (st.map .int))),some (.d (nI x)),v],rfl,?_⟩;generalize b.its.getD x dfI=y at hy e1 e2 e4 hln ⊢;obtain ⟨p,t,w⟩:=y;dsimp only at e1 e4 hln;rcases t_cases hy.t with rfl | ⟨xs,rfl⟩
   ·refine .inl ⟨(dnS st p).2,by simp [bhO],hln,some (.d (nI x)),some (.d (dnS st p).1),?_⟩;simp [Pb.dat,nI,e1,e2,It.dat]
   ·cases hq:PyData.eqv (.tuple xs) (dnS st p).1
    ·refine .inr ⟨by simp [bhO,hq],?_⟩;simp [Pb.dat,nI,e1,e2,e4,It.dat,hq]
    ·refine .inl ⟨(dnS st p).2,by simp [bhO,hq],hln,some (.d (nI x)),some (.d (dnS st p).1),?_⟩;simp [Pb.dat,nI,e1,e2,e4,It.dat,hq]
 ·rw [show (cQ b l b.st).isSome=false by simpa using z]
 ·rw [show (cQ b l b.st).isSome=true by simpa using z];rfl
end K26

namespace K26
open PySem PySem.Spec PyProof.Rows L2 DL CI SJ
def bH0 (l:List Nat) (h:aA):xEq (.d (.list (l.map nI))) (.d (.list [])) h=some (decide (l=[])):=by
 cases l with
 | nil=>simp [xEq,ref,PyData.eqv,PyData.eqvAll]
 | cons a r =>
  have:=qV (a::r) 63;simp [xEq,ref,PyData.eqv,PyData.eqvAll,nI] at this ⊢;exact this
def cF5 (b:Pb):PyData->Bool
 | .int k=>decide (wdI b.its k.toNat="out")
 | _=>false
def pMs (b:Pb) (l:List Nat):PyData->Bool
 | .int k=>dT b.its k.toNat&&!decide (k.toNat∈l)
 | _=>false
def cF6 {l:List Nat} (hn:l.Nodup) (hl:l.length<=62) (h:aA):xLS [.d (.list (l.map nI))] h=some (.d (.int l.length),h):=by
 have e:l.map nI=(l.map fun (k:Nat)=>(k:Int)).map .int:=by rw [List.map_map];rfl
 have nd:(l.map fun (k:Nat)=>(k:Int)).Nodup:=by
  refine List.Pairwise.map _ (fun a c hac=>?_) hn;omega
 unfold xLS;dsimp only;rw [e,kM];dsimp only;rw [uU nd,if_pos (by simpa using hl)];simp
def bC8 (d:Nat) (h:aA) {b:Pb} (hb:b.ok) {l:List Nat} (ol:OL b l) (h62:l.length<=62):aD T (d+7) "_law_right" [.d b.dat,.d (.list (l.map nI))] h=some (.bool (bE b l),h):=by
 have hil:=hb.il;have en:fB 0 (b.its.length:Int)=true:=bJ (by omega) (by omega);have v11:∀ H,xIx (.d b.dat) (.d (.int 1)) H=some (.d (.tuple (b.its.map It.dat)),H):=fun H=>by simp [Pb.dat]
 have a1:=cF6 ol.nd h62 h;have a2:=aF9 (d+5) h (b:=b) (l:=l);have a3:=oG d h hb ol.ok;rw [ol.an] at a3;have hin:=aR7 h l;have q1:=bH0 (l.filter fun x=>decide (wdI b.its x="out")) h;have q2:=bH0 (gM b l) h;have eo:lV b l=!decide (l.filter (fun x=>decide (wdI b.its x="out"))=[]):=by
  unfold lV;rw [Bool.eq_iff_iff];simp [List.filter_eq_nil_iff]
 have c1:∀ (g:XG) (tt:XR Bool) (all:List PyData),(∀ k∈l,∀ u,∃ δ',g (.d (nI k)) [u,some (.d b.dat)] h=some (δ',h)/\(∃ u',δ'=[u',some (.d b.dat)])/\tt δ' h=some (decide (wdI b.its k="out"),h)/\aB 0 δ' h=some (.d (nI k),h))->aN g tt (aB 0) none all (l.map nI) [none,some (.d b.dat)] h []=some ((l.filter fun x=>decide (wdI b.its x="out")).map nI,h):=fun g tt all ht=>by
  rw [dE (cF5 b) id (fun δ=>∃ u,δ=[u,some (.d b.dat)]) _ _ _ ⟨_,rfl⟩ (fun z hz δ ⟨u,e⟩=>by
   subst e;obtain ⟨k,hk,rfl⟩:=List.mem_map.mp hz;obtain ⟨δ',h1,h2,h3,h4⟩:=ht k hk u;exact ⟨δ',h1,h2,by rw [h3];simp [cF5,nI],fun _=>h4⟩),List.nil_append,List.map_id,List.filter_map]
  rfl
 rw [show d+7=(d+6)+1 from rfl,sH];refine sq (.rt (.d (.bool (bE b l))),h) ?_ (by simp);have s1:∀ F:Bool×aA->Option (Fl×aA),∀ R,F (lV b l,h)=R->(xb (xC1 CmpOp.Lt (xb (Y1 (aB 1)) fun (ws:List W) (x:DSt) (h:aA)=>xLS ws h) (xb (Y1 (aB 1)) (YK aZ))) (fun c=>if c=true then aC true else xC1 CmpOp.NotEq (aM (xb (aU (aB 1)) fun p δ h=>aN (YG 0) (xC1 CmpOp.Eq (xb (xb (YV 1 1) fun x=>xb (aB 0) (YX x)) (YI 2)) (YS "out")) (aB 0) p.2 p.1 p.1 (aP [none,some 0] δ) h [])) (aM (xPl (aC [])))) [some (.d b.dat),some (.d (.list (l.map nI)))] h).bind F=R:=fun F R e=>by
  refine sq (lV b l,h) ?_ e;simp [a1,aM,szl];rw [c1 _ _ _ (fun k hk u=>by
   have hx:=ol.ok k hk;have e6:=kN hx;have ew:wdI b.its k=b.its[k].w:=by simp [wdI,hx]
   exact ⟨[some (.d (nI k)),_],rfl,⟨_,rfl⟩,by by_cases w1:b.its[k].w="out"<;>simp [v11,nI,e6,It.dat,PyData.eqv,ew,w1],by simp⟩)]
  simp [q1,eo]
 refine sq (if lV b l=true then .rt (.d (.bool false)) else .nx [some (.d b.dat),some (.d (.list (l.map nI)))],h) ?_ ?_
 ·refine s1 _ _ ?_;cases lV b l<;>rfl
 cases ho:lV b l
 rotate_left
 ·simp [bE,ho]
 rw [if_neg (by decide),ynx];have em:(List.range b.its.length).filter (fun k=>dT b.its k&&!decide (k∈l))=gM b l:=by
  unfold gM mus;rw [List.filter_filter];refine List.filter_congr fun x _=>?_;rw [Bool.and_comm]
 refine sq (if gM b l=[] then .nx [some (.d b.dat),some (.d (.list (l.map nI)))] else .rt (.d (.bool false)),h) ?_ ?_
 ·refine sq (!decide (gM b l=[]),h) ?_ ?_
  ·simp [v11,en,aM,szl];rw [dE (pMs b l) id (fun δ=>∃ u,δ=[u,some (.d b.dat),some (.d (.list (l.map nI)))]) _ _ _ ⟨_,rfl⟩ (fun z hz δ ⟨u,e⟩=>by
    subst e;rw [gL] at hz;obtain ⟨k,hk,rfl⟩:=List.mem_map.mp hz;have hx:=List.mem_range.mp hk;have e6:=kN hx;have mu:dT b.its k=decide (b.its[k].w="must"):=by simp [dT,hx]
    refine ⟨[some (.d (nI k)),_,_],rfl,⟨_,rfl⟩,?_,fun _=>by simp⟩;have hk':=hin k
    by_cases w1:b.its[k].w="must"
    ·simp [v11,nI,e6,It.dat,PyData.eqv,w1,hk',pMs,mu]
    ·simp [v11,nI,e6,It.dat,PyData.eqv,w1,pMs,mu])]
   rw [List.nil_append,sR (pMs b l) (fun k=>dT b.its k&&!decide (k∈l)) b.its.length (fun k _=>by simp [pMs,nI]),em];simp [q2]
  ·by_cases hm:gM b l=[]<;>simp [hm]
 by_cases hm:gM b l=[]
 ·rw [if_pos hm,ynx];have er:bE b l=lU b l:=by simp [bE,ho,hm]
  rw [er];cases hq:lU b l
  ·rw [hq] at a2;simp [a2]
  ·rw [hq] at a2;simp [a2,a3]
 ·rw [if_neg hm];simp [bE,hm]
end K26

namespace K26
open PySem PySem.Spec PyProof.Rows L2 DL CI SJ
def cE (l:List Nat):List Nat:=(ST.srt (l.map Int.ofNat)).map Int.toNat
def vB (l:List Nat):(cE l).map Int.ofNat=ST.srt (l.map Int.ofNat):=by
 unfold cE;rw [List.map_map];refine (List.map_congr_left fun x hx=>?_).trans (List.map_id _);obtain ⟨k,_,rfl⟩:=List.mem_map.mp ((ST.srt_perm _).mem_iff.mp hx);rfl
def fL (l:List Nat):(cE l).Perm l:=by
 have h:=(ST.srt_perm (l.map Int.ofNat)).map Int.toNat;rw [List.map_map] at h;refine h.trans (.of_eq ?_);exact (List.map_congr_left fun x _=>rfl).trans (List.map_id _)
def bC9 {l r:List Nat} (p:l.Perm r):cE l=cE r:=by
 unfold cE;rw [ST.srt_only ((ST.srt_perm (l.map Int.ofNat)).trans (p.map Int.ofNat)) (ST.srt_le _)]
def qW (l:List Nat) (x:Nat):cE (cE l++[x])=cE (l++[x]):=bC9 ((fL l).append_right [x])
def mem_srtN {l:List Nat} {x:Nat}:x∈cE l ↔ x∈l:=(fL l).mem_iff
abbrev aH:=List Nat×List Int
def zT {b:Pb} {l r:List Nat} (h:∀ y,y∈l ↔ y∈r) (x:Nat):eK b l x=eK b r x:=by
 unfold eK;simp only [h]
def bD0 {b:Pb} {l r:List Nat} (h:∀ y,y∈l ↔ y∈r):gM b l=gM b r:=by
 unfold gM;simp only [h]
def dD (b:Pb) (pl:List Nat):List Nat:=(List.range b.its.length).filter (eK b pl)
def behO (b:Pb) (v:aH) (x:Nat):Option (Nat×aH):=(bhO v.2 (b.its.getD x dfI)).map fun st=>(x,(cE (v.1++[x]),st))
def beh (b:Pb) (v:aH):List (Nat×aH):=(dD b v.1).filterMap (behO b v)
def bQ (b:Pb) (l:List Nat):Option aH:=(cQ b l b.st).map fun st=>(cE l,st)
structure Way (b:Pb) (l:List Nat):Prop where
 ol:OL b l
 may:∀ k (hk:k < l.length),eK b (l.take k) l[k]=true
theorem mJ (b:Pb):Way b []:=⟨⟨fun x h=>by simp at h,List.nodup_nil,rfl⟩,fun k hk=>by simp at hk⟩
def kP (b:Pb) (l:List Nat) (x:Nat) (st:List Int):cQ b (l++[x]) st=(cQ b l st).bind fun s=>bhO s (b.its.getD x dfI):=by
 rw [jP]
 congr 1
 funext s
 show (bhO s (b.its.getD x dfI)).bind _=_;cases bhO s (b.its.getD x dfI)<;>rfl
def aS8 {b:Pb} {l:List Nat} {x:Nat} (w:Way b l) (hx:x < b.its.length) (hm:eK b l x=true) (ha:(cQ b (l++[x]) b.st).isSome=true):Way b (l++[x]):=by
 have hn:¬ x∈l:=fun z=>by
  unfold eK at hm;simp [z] at hm
 refine ⟨⟨fun y hy=>?_,?_,ha⟩,fun k hk=>?_⟩
 ·rcases List.mem_append.mp hy with q | q
  ·exact w.ol.ok y q
  ·rw [List.mem_singleton.mp q];exact hx
 ·rw [List.nodup_append];exact ⟨w.ol.nd,by simp,fun a ha c hc e=>hn (by rw [<- List.mem_singleton.mp hc,<- e];exact ha)⟩
 ·by_cases h:k < l.length
  ·rw [List.take_append_of_le_length (by omega),List.getElem_append_left h];exact w.may k h
  ·have:k=l.length:=by simp at hk;omega
   subst this;rw [List.take_append_of_le_length (Nat.le_refl _),List.take_length,List.getElem_append_right (Nat.le_refl _)]
   simpa using hm
def zU {b:Pb} {l:List Nat} {v:aH} {q:Nat×aH} (w:Way b l) (e:bQ b l=some v) (h:q∈beh b v):Way b (l++[q.1])/\bQ b (l++[q.1])=some q.2:=by
 unfold bQ at e;obtain ⟨st,e1,rfl⟩:=Option.map_eq_some_iff.mp e;unfold beh at h;obtain ⟨x,hx,e2⟩:=List.mem_filterMap.mp h;unfold behO at e2;obtain ⟨st',e3,rfl⟩:=Option.map_eq_some_iff.mp e2;unfold dD at hx;rw [List.mem_filter,List.mem_range] at hx;have ea:cQ b (l++[x]) b.st=some st':=by rw [kP,e1];exact e3
 refine ⟨aS8 w hx.1 (by rw [<- zT (fun y=>mem_srtN)];exact hx.2) (by rw [ea];rfl),?_⟩;unfold bQ;rw [ea];show some (cE (l++[x]),st')=some (cE (cE l++[x]),st');rw [qW]
def bD1 {b:Pb} {l:List Nat} {x:Nat} {v:aH} (w:Way b (l++[x])) (e:bQ b l=some v):∃ u,(x,u)∈beh b v/\bQ b (l++[x])=some u:=by
 unfold bQ at e;obtain ⟨st,e1,rfl⟩:=Option.map_eq_some_iff.mp e;have ha:=w.ol.an;rw [kP,e1] at ha;obtain ⟨st',e2⟩:=Option.isSome_iff_exists.mp (show (bhO st (b.its.getD x dfI)).isSome=true from ha);have hm:=w.may l.length (by simp);rw [List.take_append_of_le_length (Nat.le_refl _),List.take_length,List.getElem_append_right (Nat.le_refl _)] at hm;have hm:eK b l x=true:=by simpa using hm
 refine ⟨(cE (l++[x]),st'),List.mem_filterMap.mpr ⟨x,?_,?_⟩,?_⟩
 ·unfold dD;rw [List.mem_filter,List.mem_range,zT (fun y=>mem_srtN)];exact ⟨w.ol.ok x (by simp),hm⟩
 ·unfold behO;rw [show bhO (cE l,st).2 (b.its.getD x dfI)=some st' from e2];show some (x,(cE (cE l++[x]),st'))=_;rw [qW]
 ·unfold bQ;rw [kP,e1];show Option.map _ (bhO st _)=_;rw [e2];rfl
def vC {b:Pb} {l:List Nat} (w:Way b l) (k:Nat):Way b (l.take k):=by
 refine ⟨⟨fun x hx=>w.ol.ok x (List.mem_of_mem_take hx),(List.take_sublist k l).nodup w.ol.nd,?_⟩,fun i hi=>?_⟩
 ·have h:=w.ol.an;rw [<- List.take_append_drop k l,jP] at h;cases e:cQ b (l.take k) b.st with
  | none=>rw [e] at h;cases h
  | some s=>rfl
 ·have hi':=hi;rw [List.length_take] at hi';rw [List.take_take,List.getElem_take,Nat.min_eq_left (by omega)];exact w.may i (by omega)
def gN (b:Pb) (v:aH):Bool:=decide (gM b v.1=[])
def bD2 {b:Pb} {l:List Nat} {v:aH} (e:bQ b l=some v):gN b v=decide (gM b l=[]):=by
 obtain ⟨st,_,rfl⟩:=Option.map_eq_some_iff.mp e;unfold gN;rw [bD0 (fun y=>mem_srtN)]
def aG0 {b:Pb} (hb:b.ok) {l:List Nat} (ol:OL b l):bE b l=true ↔ Way b l/\gM b l=[]:=by
 unfold bE;simp only [Bool.and_eq_true,Bool.not_eq_true',decide_eq_true_eq];constructor
 ·rintro ⟨h1,h2,h3⟩;exact ⟨⟨ol,(zS hb ol.ok ol.nd h2).mpr ⟨h1,h3⟩⟩,h2⟩
 ·rintro ⟨w,h2⟩;have:=(zS hb ol.ok ol.nd h2).mp w.may;exact ⟨this.1,h2,this.2⟩
def xP {b:Pb} {sn:List aH} {v0:aH} (e0:bQ b []=some v0) (h0:v0∈sn) (hc:∀ v∈sn,∀ q∈beh b v,q.2∈sn):∀ {l:List Nat},Way b l->∃ v∈sn,bQ b l=some v:=by
 intro l w;have h:∀ k,k<=l.length->∃ v∈sn,bQ b (l.take k)=some v:=by
  intro k;induction k with
  | zero=>intro _;exact ⟨v0,h0,by simpa using e0⟩
  | succ k ih =>
   intro hk;obtain ⟨v,hv,ev⟩:=ih (by omega);have wk:=vC w (k+1);have et:l.take (k+1)=l.take k++[l[k]]:=by rw [List.take_succ_eq_append_getElem (by omega)]
   rw [et] at wk ⊢;obtain ⟨u,hu,eu⟩:=bD1 wk ev;exact ⟨u,hc v hv _ hu,eu⟩
 have:=h l.length (Nat.le_refl _)
 rwa [List.take_length] at this
theorem kQ {α:Type} [DecidableEq α]:∀ {l r:List α},l.Nodup->(∀ x∈l,x∈r)->l.length<=r.length
 | [],_,_,_=>Nat.zero_le _
 | a::l,r,nd,h=>by
  rw [List.nodup_cons] at nd;have ha:=h a List.mem_cons_self;have:=kQ (r:=r.erase a) nd.2 fun x hx=>by
   have hne:x≠a:=fun e=>nd.1 (by rw [<- e];exact hx);exact (List.mem_erase_of_ne hne).mpr (h x (List.mem_cons_of_mem _ hx))
  rw [List.length_erase_of_mem ha] at this;have hp:=List.length_pos_of_mem ha;simp only [List.length_cons];omega
noncomputable def sW:Nat->List Nat->List (List Nat)
 | 0,_=>[[]]
 | m+1,av=>[]::av.flatMap fun x=>(sW m (av.erase x)).map (x::·)
noncomputable def aG1:Nat->Nat->Nat
 | 0,_=>1
 | m+1,k=>1+k*aG1 m (k - 1)
theorem oH:∀ (m:Nat) (av:List Nat),(sW m av).length=aG1 m av.length
 | 0,_=>rfl
 | m+1,av=>by
  have h:∀ (xs:List Nat),(∀ x∈xs,x∈av)->(xs.flatMap fun x=>(sW m (av.erase x)).map (x::·)).length=xs.length*aG1 m (av.length - 1):=by
   intro xs;induction xs with
   | nil=>intro _;simp
   | cons x xs ih =>
    intro hx;rw [List.flatMap_cons,List.length_append,ih fun y hy=>hx y (List.mem_cons_of_mem _ hy),List.length_map,oH m,List.length_erase_of_mem (hx x List.mem_cons_self),List.length_cons,Nat.succ_mul,Nat.add_comm]
  unfold sW aG1;rw [List.length_cons,h av fun x hx=>hx,Nat.add_comm]
theorem oI:∀ {m:Nat} {av l:List Nat},l.Nodup->(∀ x∈l,x∈av)->l.length<=m->l∈sW m av
 | 0,av,l,_,_,h=>by
  have:l=[]:=List.eq_nil_of_length_eq_zero (by omega);subst this;exact List.mem_singleton.mpr rfl
 | m+1,av,[],_,_,_=>List.mem_cons_self
 | m+1,av,x::l,nd,h,hl=>by
  rw [List.nodup_cons] at nd;refine List.mem_cons_of_mem _ (List.mem_flatMap.mpr ⟨x,h x List.mem_cons_self,List.mem_map.mpr ⟨l,oI nd.2 (fun y hy=>?_) (by simpa using hl),rfl⟩⟩);have hne:y≠x:=fun e=>nd.1 (by rw [<- e];exact hy);exact (List.mem_erase_of_ne hne).mpr (h y (List.mem_cons_of_mem _ hy))
def cS7:∀ n,n<=6->aG1 n n<=1957:=by decide
def few {b:Pb} (h6:b.its.length<=6) {sn:List aH} (nd:sn.Nodup) (h:∀ v∈sn,∃ l,Way b l/\bQ b l=some v):sn.length<=1957:=by
 have h1:=kQ (r:=(sW b.its.length (List.range b.its.length)).filterMap (bQ b)) nd fun v hv=>by
  obtain ⟨l,w,e⟩:=h v hv;refine List.mem_filterMap.mpr ⟨l,oI w.ol.nd (fun x hx=>List.mem_range.mpr (w.ol.ok x hx)) (iL w.ol.nd w.ol.ok),e⟩
 have h2:=List.length_filterMap_le (bQ b) (sW b.its.length (List.range b.its.length));rw [oH,List.length_range] at h2;have:=cS7 _ h6;omega
end K26

namespace K26
open PySem PySem.Spec PyProof.Rows L2 DL CI SJ
structure SI (b:Pb) (sn:List aH) (row:List Nat) (tr:List (List (Nat×aH))):Prop where
 nd:sn.Nodup
 fst:∃ v0,bQ b []=some v0/\v0∈sn
 way:∀ v∈sn,∃ l,Way b l/\bQ b l=some v
 rw:Way b row
 ln:tr=[]\/tr.length=row.length+1
 lv:∀ i t,tr[i]?=some t->∀ q∈t,Way b (row.take i++[q.1])/\bQ b (row.take i++[q.1])=some q.2
 sh:∀ t∈tr,t.length<=b.its.length
variable {b:Pb} {sn:List aH} {row:List Nat} {tr:List (List (Nat×aH))}
theorem SI.ne (s:SI b sn row tr):sn≠[]:=fun z=>by
 obtain ⟨v0,_,h0⟩:=s.fst;rw [z] at h0;cases h0
def jQ (b:Pb) (v:aH):(beh b v).length<=b.its.length:=by
 unfold beh;refine Nat.le_trans (List.length_filterMap_le _ _) ?_;unfold dD;refine Nat.le_trans (List.length_filter_le _ _) ?_;rw [List.length_range];exact Nat.le_refl _
def aS9 {v0:aH} {ws:List (Nat×aH)} (e0:bQ b []=some v0) (hl:gN b v0=false) (p:ws.Perm (beh b v0)):SI b [v0] [] [ws]:=by
 refine ⟨by simp,⟨v0,e0,by simp⟩,fun v hv=>⟨[],mJ b,by rw [List.mem_singleton.mp hv];exact e0⟩,mJ b,.inr rfl,fun i t e q hq=>?_,fun t ht=>?_⟩
 ·cases i with
  | zero =>
   simp at e;subst e;have:=zU (mJ b) e0 (p.mem_iff.mp hq)
   simpa using this
  | succ i=>simp at e
 ·rw [List.mem_singleton.mp ht,p.length_eq];exact jQ b v0
theorem snoc_at? {α:Type} {l:List α} {x y:α} {i:Nat} (e:(l++[x])[i]?=some y):l[i]?=some y\/(i=l.length/\y=x):=DL.snoc_at e
def bS8 {tr:List (List (Nat×aH))} (s:SI b sn row (tr++[[]])):SI b sn row.dropLast tr:=by
 have hln:tr.length=row.length:=by
  rcases s.ln with z | z
  ·simp at z
  ·simpa using z
 refine ⟨s.nd,s.fst,s.way,?_,?_,fun i t e q hq=>?_,fun t ht=>s.sh t (List.mem_append_left _ ht)⟩
 ·rw [List.dropLast_eq_take];exact vC s.rw _
 ·cases row with
  | nil=>exact .inl (List.eq_nil_of_length_eq_zero (by simpa using hln))
  | cons a r=>exact .inr (by rw [hln,List.length_dropLast];simp)
 ·have hi:i < tr.length:=(List.getElem?_eq_some_iff.mp e).1;have:=s.lv i t (by rw [List.getElem?_append_left hi];exact e) q hq;have et:row.dropLast.take i=row.take i:=by rw [List.dropLast_eq_take,List.take_take,Nat.min_eq_left (by omega)]
  rw [et];exact this
theorem bD3 {t:List (Nat×aH)} {q:Nat×aH} (s:SI b sn row (tr++[t++[q]])) (h:q.2∈sn):SI b sn row (tr++[t]):=by
 refine ⟨s.nd,s.fst,s.way,s.rw,?_,fun i t' e p hp=>?_,fun t' ht=>?_⟩
 ·rcases s.ln with z | z
  ·simp at z
  ·exact .inr (by simpa using z)
 ·rcases snoc_at? e with z | ⟨rfl,rfl⟩
  ·exact s.lv i t' (by rw [List.getElem?_append_left (List.getElem?_eq_some_iff.mp z).1];exact z) p hp
  ·exact s.lv tr.length (t'++[q]) (by simp) p (List.mem_append_left _ hp)
 ·rcases List.mem_append.mp ht with y | y
  ·exact s.sh t' (List.mem_append_left _ y)
  ·rw [List.mem_singleton.mp y];have:=s.sh (t++[q]) (by simp);simp at this;omega
def zV {t:List (Nat×aH)} {q:Nat×aH} (s:SI b sn row (tr++[t++[q]])):Way b (row++[q.1])/\bQ b (row++[q.1])=some q.2:=by
 have hln:tr.length=row.length:=by
  rcases s.ln with z | z
  ·simp at z
  ·simpa using z
 have:=s.lv tr.length (t++[q]) (by simp) q (by simp);rw [hln,List.take_length] at this;exact this
def bD4 {t ws:List (Nat×aH)} {q:Nat×aH} (s:SI b sn row (tr++[t++[q]])) (h:¬ q.2∈sn) (p:ws.Perm (beh b q.2)):SI b (sn++[q.2]) (row++[q.1]) (tr++[t]++[ws]):=by
 obtain ⟨w,e⟩:=zV s;have hln:tr.length=row.length:=by
  rcases s.ln with z | z
  ·simp at z
  ·simpa using z
 refine ⟨?_,?_,fun v hv=>?_,w,.inr (by simp [hln]),fun i t' e' r hr=>?_,fun t' ht=>?_⟩
 ·rw [List.nodup_append];exact ⟨s.nd,by simp,fun a ha c hc e=>h (by rw [<- List.mem_singleton.mp hc,<- e];exact ha)⟩
 ·obtain ⟨v0,h1,h2⟩:=s.fst;exact ⟨v0,h1,List.mem_append_left _ h2⟩
 ·rcases List.mem_append.mp hv with y | y
  ·exact s.way v y
  ·rw [List.mem_singleton.mp y];exact ⟨_,w,e⟩
 ·rcases snoc_at? e' with z | ⟨rfl,rfl⟩
  ·have hi:i < (tr++[t]).length:=(List.getElem?_eq_some_iff.mp z).1;have hi:i<=row.length:=by simp at hi;omega
   rw [List.take_append_of_le_length hi];rcases snoc_at? z with z | ⟨rfl,rfl⟩
   ·exact s.lv i t' (by rw [List.getElem?_append_left (List.getElem?_eq_some_iff.mp z).1];exact z) r hr
   ·exact s.lv tr.length (t'++[q]) (by simp) r (List.mem_append_left _ hr)
  ·rw [List.take_of_length_le (by simp [hln])];exact zU w e (p.mem_iff.mp hr)
 ·rcases List.mem_append.mp ht with y | y
  ·rcases List.mem_append.mp y with y | y
   ·exact s.sh t' (List.mem_append_left _ y)
   ·rw [List.mem_singleton.mp y];have:=s.sh (t++[q]) (by simp);simp at this;omega
  ·rw [List.mem_singleton.mp y,p.length_eq];exact jQ b q.2
noncomputable def msr (sn:List aH) (tr:List (List (Nat×aH))):Nat:=7*(1957 - sn.length)+(tr.map List.length).sum+tr.length
end K26

namespace K26
open PySem PySem.Spec PyProof.Rows L2 DL CI SJ
def mkd (pl:List Nat) (g:List (Nat×Bool)):List (Nat×Bool):=pl.foldl (fun g k=>putN g k true) g
theorem sX (y:Nat):∀ (pl:List Nat) (g:List (Nat×Bool)),y∈(mkd pl g).map (·.1) ↔ y∈g.map (·.1)\/y∈pl
 | [],g=>by simp [mkd]
 | k::r,g=>by
  have:=sX y r (putN g k true);rw [bC7] at this;simp only [mkd,List.foldl_cons,List.mem_cons] at this ⊢;rw [this,or_assoc]
theorem zW:∀ (pl:List Nat) (g:List (Nat×Bool)),(pl.map fun (k:Nat)=>(PyData.int k,PyData.bool true)).foldl (fun a p=>lH a p.1 p.2) (g.map (cV .bool))=(mkd pl g).map (cV .bool)
 | [],g=>rfl
 | k::r,g=>by
  rw [List.map_cons,List.foldl_cons,aS2,zW r];rfl
theorem zX:∀ pl:List Nat,gE (pl.map fun (k:Nat)=>.tuple [.int k,.bool true])=some (pl.map fun (k:Nat)=>(.int k,.bool true))
 | []=>rfl
 | k::r=>by
  rw [List.map_cons];show Option.map _ (gE _)=_;rw [zX r];rfl
def bH1 (H L:aA) (pl:List Nat):Inn (H++dcB (mkd pl [])::L) (.c H.length) pl:=bG7 (g:=mkd pl []) (by simp) fun y=>by simpa using sX y pl []
def oJ (d:Nat) (h:aA) {pl:List Nat} (hl:pl.length<=1000):callW T (d+1) "marked" [.d (.tuple (pl.map nI))] h=some (.c h.length,h++[dcB (mkd pl [])]):=by
 have e1:gE ((pl.map nI).map fun z=>PyData.tuple [z,.bool true])=some (pl.map fun (k:Nat)=>(.int k,.bool true)):=by
  rw [List.map_map];exact zX pl
 have e2:iS [.d (.list ((pl.map nI).map fun z=>PyData.tuple [z,.bool true]))] h=some (.c h.length,h++[dcB (mkd pl [])]):=by
  unfold iS;simp only [ref];rw [if_pos (by simp;exact hl),e1];show some (W.c h.length,h++[Cell.k (rE (pl.map fun (k:Nat)=>(.int k,.bool true)))])=_;unfold rE;rw [show dcB (mkd pl [])=Cell.k ((mkd pl []).map (cV .bool)) from rfl,<- zW pl []];rfl
 have e3:∀ (g:XG) (all:List PyData) (te:XR W),(∀ w δ h,g w δ h=some (δ.set 0 (some w),h))->(∀ x∈pl.map nI,∀ u,te (([none]:DSt).set 0 u |>.set 0 (some (.d x))) h=some (.d (.tuple [x,.bool true]),h))->aN g (aC true) te none all (pl.map nI) [none] h []=some ((pl.map nI).map fun z=>.tuple [z,.bool true],h):=fun g all te hg ht=>by
  rw [bH (fun z=>.tuple [z,.bool true]) 0 hg _ _ _ ht];rfl
 rw [qN];simp [aM];rw [e3 _ _ _ (fun _ _ _=>rfl) (fun x _ u=>by simp [szl])];simp only [bds,bs,e2];simp [dG]
def pFl (b:Pb) (pl:List Nat):PyData->Bool
 | .int k=>eK b pl k.toNat
 | _=>false
def bH2 (d:Nat) {b:Pb} (hil:b.its.length<=120) {j:Nat} {H:aA} {w1:W} {pl:List Nat} (w:Wd b j H) (hin:Inn H w1 pl):callM T (d+2) "followers" [.c j,w1] H=some (.d (.list ((dD b pl).map nI)),H):=by
 obtain ⟨f1,f2,f3,f4,f5,f6⟩:=uX;obtain ⟨a0,a1,a2,ho,_⟩:=w.ex;have en:fB 0 (b.its.length:Int)=true:=bJ (by omega) (by omega);have lI:(F6 b a0 a1 a2).lookup (Str.ofString "listed")=some (.d (.tuple (b.its.map It.dat))):=by simp [F6,List.lookup]
 have l1:(F6 b a0 a1 a2).lookup (Str.ofString "may_follow")=none:=by simp [F6,List.lookup]
 rw [show d+2=(d+1)+1 from rfl,sK];simp [aM,ho,f2,lI,en];rw [dE (pFl b pl) id (fun δ=>∃ a,δ=[a,some w1,some (.c j)]) _ _ _ ⟨_,rfl⟩ (fun z hz δ ⟨a,e⟩=>by
  subst e;rw [gL] at hz;obtain ⟨k,hk,rfl⟩:=List.mem_map.mp hz;have hk:=List.mem_range.mp hk;have q:=cS1 d w hk hin;exact ⟨[some (.d (nI k)),_,_],rfl,⟨_,rfl⟩,by simp [nI,pFl,ho,l1,q],fun _=>by simp⟩)]
 rw [List.nil_append,sR (pFl b pl) (eK b pl) b.its.length (fun k _=>by simp [pFl,nI])];simp [dD]
def ndD (v:aH):PyData:=.tuple [.tuple (v.1.map nI),.tuple (v.2.map .int)]
def prD (q:Nat×aH):PyData:=.tuple [.int q.1,ndD q.2]
def sY (d:Nat) {b:Pb} {j:Nat} {H:aA} (w:Wd b j H):aD T (d+1) "first_node" [.c j] H=some (ndD ([],b.st),H):=by
 obtain ⟨f1,f2,f3,f4,f5,f6⟩:=uX;obtain ⟨a0,a1,a2,ho,_⟩:=w.ex;have lI:(F6 b a0 a1 a2).lookup (Str.ofString "first")=some (.d (.tuple (b.st.map .int))):=by simp [F6,List.lookup]
 rw [sD];simp [ho,f1,lI,szl,ndD]
def xQ (d:Nat) {b:Pb} {j:Nat} {H:aA} (w:Wd b j H) {v:aH} (hl:v.1.length<=1000):aD T (d+2) "is_last" [.c j,.d (ndD v)] H=some (.bool (gN b v),H):=by
 obtain ⟨f1,f2,f3,f4,f5,f6⟩:=uX;obtain ⟨a0,a1,a2,ho,_⟩:=w.ex;have l1:(F6 b a0 a1 a2).lookup (Str.ofString "missing")=none:=by simp [F6,List.lookup]
 have e1:=oJ d H hl;have gr:Wd b j (H++[dcB (mkd v.1 [])]):=w.grow fun i c _ _ e=>by
  rw [List.getElem?_append_left (List.getElem?_eq_some_iff.mp e).1];exact e
 have e2:=aF8 d gr (bH1 H [] v.1);rw [show d+2=(d+1)+1 from rfl,aE2];simp [ndD,ho,l1,e1,e2,gN]
end K26

namespace K26
open PySem PySem.Spec PyProof.Rows L2 DL CI SJ
theorem zY:∀ l:List Nat,dF (l.map nI)=some (l.map Int.ofNat)
 | []=>rfl
 | k::r=>by rw [List.map_cons,nI,dF,zY r];rfl
def bS9 (l:List Nat):(ST.srt (l.map Int.ofNat)).map PyData.int=(cE l).map nI:=by
 rw [<- vB,List.map_map];rfl
def bH3 {l:List Nat} (h:l.length < 64) (H:aA):rF [.d (.tuple (l.map nI))] H=some ((cE l).map nI,H):=by
 unfold rF;simp only [ref,zY,bs];rw [if_pos (by simpa using h),bS9]
structure NOk (b:Pb) (v:aH):Prop where
 l:v.1.length<=60
 s:v.2.length=8
def zZ (d:Nat) {b:Pb} (hb:b.ok) {j:Nat} {H:aA} (w:Wd b j H) (hj:j < H.length) {v:aH} (hv:NOk b v):aD T (d+7) "nodes_behind" [.c j,.d (ndD v)] H=some (.list ((beh b v).map prD),H):=by
 obtain ⟨a0,a1,a2,ho,_⟩:=w.ex;have gr:∀ L,Wd b j (H++L):=fun L=>w.grow fun i c _ _ e=>by
  rw [List.getElem?_append_left (List.getElem?_eq_some_iff.mp e).1];exact e
 have ho':∀ L,(H++L)[j]?=some (.o 280 (F6 b a0 a1 a2)):=fun L=>by rw [List.getElem?_append_left hj];exact ho
 have l1:(F6 b a0 a1 a2).lookup (Str.ofString "followers")=none:=by simp [F6,List.lookup]
 have l2:(F6 b a0 a1 a2).lookup (Str.ofString "stand_behind")=none:=by simp [F6,List.lookup]
 have lI:(F6 b a0 a1 a2).lookup (Str.ofString "listed")=some (.d (.tuple (b.its.map It.dat))):=by simp [F6,List.lookup]
 have e1:=oJ (d+5) (H++[.l []]) (pl:=v.1) (by have:=hv.l;omega);obtain ⟨MK,hM⟩:∃ c,c=dcB (mkd v.1 []):=⟨_,rfl⟩;rw [<- hM] at e1;have e2:=bH2 (d+4) hb.il (gr [.l [],MK]) (w1:=.c (H.length+1)) (pl:=v.1) (bG7 (g:=mkd v.1 []) (by simp [hM]) fun y=>by simpa using sX y v.1 []);rw [show d+7=(d+6)+1 from rfl,nO];simp [aS,szl,ho',l1,ndD,e1,e2,aU];generalize hr:aX _ _ _ _ _ _ _=r;have kk:∃ δ' h',r=some (.nx δ',h')/\∃ (x3 x4:Option W),δ'=[some (.c j),some (.d (ndD v)),some (.c H.length),x3,x4]/\h'=H++[.l ((beh b v).map prD),MK]:=by
  rw [<- hr];clear hr;refine bX (fun m δ' h'=>∃ (x3 x4:Option W),δ'=[some (.c j),some (.d (ndD v)),some (.c H.length),x3,x4]/\h'=H++[.l ((((dD b v.1).take m).filterMap (behO b v)).map prD),MK]) ⟨none,none,by simp [ndD],by simp⟩ (fun δ h'=>?_) ?_
  ·rintro ⟨x3,x4,rfl,rfl⟩;rw [List.length_map,List.take_length];exact ⟨_,_,rfl,rfl⟩
  ·rintro m hm δ h' ⟨x3,x4,rfl,rfl⟩;have hm':m < (dD b v.1).length:=by simpa using hm
   obtain ⟨x,ex⟩:∃ x,(dD b v.1)[m]=x:=⟨_,rfl⟩;have exx:((dD b v.1).map nI)[m]=nI x:=by rw [List.getElem_map,ex]
   rw [exx];have hx:x < b.its.length:=by
    have:=List.getElem_mem hm';rw [ex] at this;exact List.mem_range.mp (List.mem_filter.mp this).1
   have ta:(dD b v.1).take (m+1)=(dD b v.1).take m++[x]:=by rw [List.take_succ_eq_append_getElem hm',ex]
   rw [ta,List.filterMap_append];have fl:(dD b v.1).length<=b.its.length:=by
    unfold dD;exact Nat.le_trans (List.length_filter_le _ _) (by simp)
   have al:(((dD b v.1).take m).filterMap (behO b v)).length < 16777216:=by
    have h1:=List.length_filterMap_le (behO b v) ((dD b v.1).take m);rw [List.length_take] at h1;have:=hb.il;omega
   generalize ((dD b v.1).take m).filterMap (behO b v)=acc at al;refine ⟨[some (.c j),some (.d (ndD v)),some (.c H.length),some (.d (nI x)),x4],H++[.l (acc.map prD),MK],rfl,?_⟩;have ey:b.its[x]?=some (b.its.getD x dfI):=mH hx;have hy:(b.its.getD x dfI).ok:=hb.its _ (by rw [List.getD_eq_getElem?_getD,List.getElem?_eq_getElem hx];exact List.getElem_mem hx);have sb:=cE4 d (H++[.l (acc.map prD),MK]) ey hy hv.s (ho' _) lI;have gp:(H++[Cell.l (acc.map prD),MK])[H.length]?=some (.l (acc.map prD)):=by simp
   cases q:bhO v.2 (b.its.getD x dfI) with
   | none =>
    rw [cF4 q] at sb;refine ⟨[some (.c j),some (.d (ndD v)),some (.c H.length),some (.d (nI x)),some (.d .none)],H++[.l (acc.map prD),MK],?_,_,_,rfl,?_⟩
    ·simp [ndD,nI,ho',l2,sb]
    ·have eb:behO b v x=none:=by unfold behO;rw [q];rfl
     simp [eb]
   | some st =>
    rw [cF3 q] at sb;have xs:=bH3 (l:=v.1++[x]) (by have:=hv.l;simp;omega) (H++[.l (acc.map prD),MK]);rw [List.map_append] at xs;have xs:rF [.d (.tuple (v.1.map nI++[.int x]))] (H++[.l (acc.map prD),MK])=some ((cE (v.1++[x])).map nI,H++[.l (acc.map prD),MK]):=xs;refine ⟨[some (.c j),some (.d (ndD v)),some (.c H.length),some (.d (nI x)),some (.d (.tuple (st.map .int)))],H++[.l ((acc++[(x,(cE (v.1++[x]),st))]).map prD),MK],?_,_,_,rfl,?_⟩
    ·have al':(acc.map prD).length < 16777216:=by simpa using al
     have xa:∀ H',fM .Add (.d (.tuple (v.1.map nI))) (.d (.tuple [.int x])) H'=some (.d (.tuple (v.1.map nI++[.int x])),H'):=fun H'=>by
      have:=hv.l;have hz:v.1.length+1<=16777216:=by omega
      show (if _<=_ then _ else _)=_;rw [if_pos (by rw [szl];simpa using hz)]
     simp [ndD,nI,ho',l2,sb,xs,szl,prD,aM,eP,al,xa]
    ·have eb:behO b v x=some (x,(cE (v.1++[x]),st)):=by unfold behO;rw [q];rfl
     simp [eb]
 obtain ⟨δ',h',rfl,x3,x4,rfl,rfl⟩:=kk;simp [aO]
end K26

namespace K26
open PySem PySem.Spec PyProof.Rows L2 DL CI SJ
def u1 (b:Pb) (q:Nat×aH):Bool:=!decide (wdI b.its q.1="must")
noncomputable def u2 (v:aH) (q:Nat×aH):Bool:=!PyData.eqv (.tuple (q.2.2.map .int)) (.tuple (v.2.map .int))
def urg (b:Pb) (v:aH) (q:Nat×aH):PyData:=.tuple [.bool (u1 b q),.bool (u2 v q),.int q.1]
def urk (b:Pb) (v:aH) (q:Nat×aH):Int:=(if u1 b q=true then 2000000 else 0)+(if u2 v q=true then 1000000 else 0)+q.1
def cF7 (d:Nat) {b:Pb} {j:Nat} {H:aA} (w:Wd b j H) {v:aH} {q:Nat×aH} (hq:q.1 < b.its.length):aD T (d+1) "urgency" [.c j,.d (ndD v),.d (prD q)] H=some (urg b v q,H):=by
 obtain ⟨f1,f2,f3,f4,f5,f6⟩:=uX;obtain ⟨a0,a1,a2,ho,_⟩:=w.ex;have lI:(F6 b a0 a1 a2).lookup (Str.ofString "listed")=some (.d (.tuple (b.its.map It.dat))):=by simp [F6,List.lookup]
 have e6:=kN hq;have ew:wdI b.its q.1=b.its[q.1].w:=by simp [wdI,hq]
 have e7:xEq (.d (.tuple (q.2.2.map .int))) (.d (.tuple (v.2.map .int))) H=some (PyData.eqv (.tuple (q.2.2.map .int)) (.tuple (v.2.map .int))):=by
  have p1:aI 64 (.tuple (q.2.2.map .int))=true:=jO _ _;have p2:aI 64 (.tuple (v.2.map .int))=true:=jO _ _;simp [xEq,ref,p1,p2]
 rw [aE3]
 by_cases h1:b.its[q.1].w="must"<;>simp [ho,f2,lI,e6,It.dat,ndD,prD,e7,szl,urg,u1,u2,ew,h1,PyData.eqv]
def bD5 {b:Pb} {v:aH} {q:Nat×aH} (hq:q.1 < 1000000):aH4 (urg b v q)=some (urk b v q):=by
 unfold aH4 bI7 urg;dsimp only;rw [dif_pos (by omega)];rfl
theorem vD {b:Pb} {v:aH}:∀ {l:List (Nat×aH)},(∀ q∈l,q.1 < 1000000)->mP (l.map (urg b v))=some (l.map (urk b v))
 | [],_=>rfl
 | q::l,h=>by
  rw [List.map_cons,mP,bD5 (h q List.mem_cons_self),vD fun p hp=>h p (List.mem_cons_of_mem _ hp)];rfl
def aA0 {b:Pb} {v:aH} {q:Nat×aH} (hq:q.1 < 1000000):urk b v q%1000000=q.1:=by
 unfold urk;cases u1 b q<;>cases u2 v q<;>simp<;>omega
def bD6 (b:Pb) (v:aH):((beh b v).map (·.1)).Nodup:=by
 have h:∀ l:List Nat,l.Nodup->((l.filterMap (behO b v)).map (·.1)).Nodup/\∀ y∈(l.filterMap (behO b v)).map (·.1),y∈l:=by
  intro l;induction l with
  | nil=>intro _;simp
  | cons x l ih =>
   intro nd;rw [List.nodup_cons] at nd;obtain ⟨h1,h2⟩:=ih nd.2;cases e:behO b v x with
   | none =>
    rw [List.filterMap_cons_none e];exact ⟨h1,fun y hy=>List.mem_cons_of_mem _ (h2 y hy)⟩
   | some q =>
    have e1:q.1=x:=by
     unfold behO at e;obtain ⟨st,_,rfl⟩:=Option.map_eq_some_iff.mp e;rfl
    rw [List.filterMap_cons_some e,List.map_cons,e1];refine ⟨List.nodup_cons.mpr ⟨fun z=>nd.1 (h2 x z),h1⟩,fun y hy=>?_⟩;rcases List.mem_cons.mp hy with z | z
    ·rw [z];exact List.mem_cons_self
    ·exact List.mem_cons_of_mem _ (h2 y z)
 exact (h _ (List.Pairwise.filter _ List.nodup_range)).1
def xR {b:Pb} {v:aH} {q:Nat×aH} (h:q∈beh b v):q.1 < b.its.length:=by
 obtain ⟨x,hx,e⟩:=List.mem_filterMap.mp h;unfold behO at e;obtain ⟨st,_,rfl⟩:=Option.map_eq_some_iff.mp e;exact List.mem_range.mp (List.mem_filter.mp hx).1
def bT0 {b:Pb} (hb:b.its.length<=120) (v:aH):((beh b v).map (urk b v)).Nodup:=by
 have h:=bD6 b v;have hl:∀ q∈beh b v,q.1 < 1000000:=fun q hq=>by have:=xR hq;omega
 generalize beh b v=l at h hl;induction l with
 | nil=>exact List.nodup_nil
 | cons q l ih =>
  rw [List.map_cons,List.nodup_cons] at h ⊢;refine ⟨fun z=>?_,ih h.2 fun p hp=>hl p (List.mem_cons_of_mem _ hp)⟩;obtain ⟨p,hp,e⟩:=List.mem_map.mp z;have e1:=aA0 (b:=b) (v:=v) (hl q List.mem_cons_self);have e2:=aA0 (b:=b) (v:=v) (hl p (List.mem_cons_of_mem _ hp));rw [<- e,e2] at e1;exact h.1 (List.mem_map.mpr ⟨p,hp,by omega⟩)
def wts (b:Pb) (v:aH) (l:List (Nat×aH)):List (Nat×aH):=(dsc ((l.map (urk b v)).zip l)).map (·.2)
def jR (b:Pb) (v:aH) (l:List (Nat×aH)):(wts b v l).Perm l:=by
 unfold wts;refine ((gI _).map _).trans ?_;rw [List.map_snd_zip (by simp)]
def bD7 {b:Pb} {v:aH} {l:List (Nat×aH)} (nd:(l.map (urk b v)).Nodup):aH5 (l.map (urk b v)) (l.map prD)=(wts b v l).map prD:=by
 have e:(dsc ((l.map (urk b v)).zip l)).map (fun t=>(t.1,prD t.2))=dsc ((l.map (urk b v)).zip (l.map prD)):=by
  refine iZ (by rw [mB (by simp)];exact nd) ?_ ?_
  ·refine ((gI _).map _).trans (.of_eq ?_);apply List.ext_getElem
   ·simp
   ·intro i h1 h2;simp
  ·rw [List.pairwise_map];exact wE _
 show (dsc ((l.map (urk b v)).zip (l.map prD))).map (·.2)=_;rw [<- e];unfold wts;rw [List.map_map,List.map_map];rfl
noncomputable def cF8:Pos:=⟨261,29,261,67⟩
noncomputable def cF9:Str:="waiting.<locals>.<lambda>"
def tE:List (Pos×Str):=[(cF8,cF9)]
def fU (ts:List (Pos×Str)):Prop:=ts=[]\/ts=tE
def bT1 {ts:List (Pos×Str)} (h:fU ts):tD cF8 cF9 ts=some tE:=by
 rcases h with rfl | rfl<;>decide +kernel
theorem aT1 {te:XR W} {δ:DSt} {H:aA} {b:Pb} {v:aH}:∀ (l:List (Nat×aH)),(∀ q∈l,te (δ.set 0 (some (.d (prD q)))) H=some (.d (urg b v q),H))->fX te δ 0 (l.map prD) H=some (l.map (urg b v),H)
 | [],_=>rfl
 | q::l,h=>by
  rw [List.map_cons,fX,h q List.mem_cons_self];simp only [bs];rw [aT1 l fun p hp=>h p (List.mem_cons_of_mem _ hp)];rfl
def aT2 (d:Nat) {b:Pb} (hb:b.ok) (h6:b.its.length<=6) {j:Nat} {H:aA} (w:Wd b j H) (h0:0 < j) (hj:j < H.length) {v:aH} (hv:NOk b v) {ts:List (Pos×Str)} (ht:H[0]?=some (.t ts)) (hts:fU ts) :
  callW T (d+8) "waiting" [.c j,.d (ndD v)] H=some (.c H.length,H.set 0 (.t tE)++[.l ((wts b v (beh b v)).map prD)]):=by
 have e1:=zZ d hb w hj hv;have w':Wd b j (H.set 0 (.t tE)):=w.grow fun i c hi _ e=>by rw [List.getElem?_set_ne (by omega)];exact e
 have nd:=bT0 hb.il v;have bl:=jQ b v;have ek:=vD (b:=b) (v:=v) (l:=beh b v) fun q hq=>by have:=xR hq;omega
 have e2:mQ (xb (Y3 (aB 2) (aB 1) (aB 0)) (YF (d+7) "urgency")) [none,some 1,some 0] 0 "waiting.<locals>.<lambda>" ⟨261,29,261,67⟩ (.d (.list ((beh b v).map prD))) [some (.c j),some (.d (ndD v)),some (.d (.list ((beh b v).map prD)))] H=some ((wts b v (beh b v)).map prD,H.set 0 (.t tE)):=by
  unfold mQ;rw [ht];simp only [ref];rw [show tD ⟨261,29,261,67⟩ "waiting.<locals>.<lambda>" ts=some tE from bT1 hts];simp only [bs];rw [aT1 (b:=b) (v:=v) (beh b v) fun q hq=>?_]
  ·simp only [bs];rw [ek];simp only [bs];rw [if_pos ⟨nd,by simp;omega⟩,bD7 nd]
  ·have:=cF7 (d+6) w' (v:=v) (xR hq);simp [aP,this]
 rw [show d+8=(d+7)+1 from rfl,xA];generalize xb (Y3 (aB 2) (aB 1) (aB 0)) (YF (d+7) "urgency")=te at e2 ⊢;simp [e1,aS,e2]
end K26

namespace K26
open PySem PySem.Spec PyProof.Rows L2 DL CI SJ
theorem oK {c:XR Bool} {tb:XS} {P1:DSt->aA->Prop} {P2:PyData->aA->Prop} (I:Nat->DSt->aA->Prop)
  (hs:∀ k δ h,I k δ h->(c δ h=some (false,h)/\P1 δ h)\/(c δ h=some (true,h)/\((∃ δ' h' k',k' < k/\(tb δ h=some (.nx δ',h')\/tb δ h=some (.ct δ',h'))/\I k' δ' h')\/∃ z h',tb δ h=some (.rt (.d z),h')/\P2 z h'))) :
  ∀ (n k:Nat) (δ:DSt) (h:aA),k < n->I k δ h->(∃ δ' h',bR c tb n δ h=some (.nx δ',h')/\P1 δ' h')\/∃ z h',bR c tb n δ h=some (.rt (.d z),h')/\P2 z h'
 | 0,k,δ,h,hk,_=>absurd hk (Nat.not_lt_zero _)
 | n+1,k,δ,h,hk,i=>by
  rcases hs k δ h i with ⟨e,p⟩ | ⟨e,q⟩
  ·exact .inl ⟨δ,h,by simp only [bR,e,bs];rfl,p⟩
  ·rcases q with ⟨δ',h',k',lt,e2,i2⟩ | ⟨z,h',e2,p⟩
   ·have ih:=oK I hs n k' δ' h' (by omega) i2;have ew:bR c tb (n+1) δ h=bR c tb n δ' h':=by
     rcases e2 with e2 | e2<;>simp only [bR,e,bs,e2,if_true]
    rw [ew];exact ih
   ·exact .inr ⟨z,h',by simp only [bR,e,bs,e2,if_true],p⟩
theorem aT3:∀ {a b:List Nat},a.map nI=b.map nI->a=b
 | [],[],_=>rfl
 | [],_::_,h=>by simp at h
 | _::_,[],h=>by simp at h
 | x::a,y::b,h=>by
  simp only [List.map_cons,List.cons.injEq] at h;have h1:((x:Int))=y:=PyData.int.inj h.1;rw [aT3 h.2]
  congr 1
  omega
theorem aA1:∀ {a b:List Int},a.map PyData.int=b.map PyData.int->a=b
 | [],[],_=>rfl
 | [],_::_,h=>by simp at h
 | _::_,[],h=>by simp at h
 | x::a,y::b,h=>by
  simp only [List.map_cons,List.cons.injEq] at h;rw [aA1 h.2,PyData.int.inj h.1]
def bT2 {u v:aH} (h:ndD u=ndD v):u=v:=by
 unfold ndD at h;have h:=PyData.tuple.inj h;simp only [List.cons.injEq,and_true] at h;exact Prod.ext (aT3 (PyData.tuple.inj h.1)) (aA1 (PyData.tuple.inj h.2))
theorem vE:∀ l:List Int,peqs (l.map PyData.int) (l.map PyData.int)=true
 | []=>rfl
 | i::l=>by show (peq (.int i) (.int i)&&peqs (l.map PyData.int) (l.map PyData.int))=true;rw [pqI,vE l];rfl
def aT4 (u v:aH):peq (ndD u) (ndD v)=decide (u=v):=by
 rw [Bool.eq_iff_iff,decide_eq_true_eq];constructor
 ·exact fun h=>bT2 (aJ6 h)
 ·rintro rfl;show (peqs (u.1.map nI) (u.1.map nI)&&(peqs (u.2.map PyData.int) (u.2.map PyData.int)&&true))=true;rw [sP,vE];rfl
theorem aT5 (n:Nat):∀ l:List Nat,hksB n (l.map nI)=true
 | []=>by simp [hksB]
 | k::l=>by rw [List.map_cons,hksB,aT5 n l];simp [nI,hkB]
theorem aA2 (n:Nat):∀ l:List Int,hksB n (l.map PyData.int)=true
 | []=>by simp [hksB]
 | k::l=>by rw [List.map_cons,hksB,aA2 n l];simp [hkB]
def qX (v:aH):(cT (ndD v)&&hkB 4 (ndD v))=true:=by
 unfold ndD;simp [cT,hkB,hksB,aT5,aA2]
def seD (v:aH):PyData×PyData:=(ndD v,.bool true)
def oM (sn:List aH) (v:aH):((sn.map seD).any fun p=>peq p.1 (ndD v))=decide (v∈sn):=by
 rw [Bool.eq_iff_iff,List.any_eq_true,decide_eq_true_eq];constructor
 ·rintro ⟨p,hp,h⟩;obtain ⟨u,hu,rfl⟩:=List.mem_map.mp hp;have h:peq (ndD u) (ndD v)=true:=h;rw [aT4,decide_eq_true_eq] at h;rw [<- h];exact hu
 ·intro h;exact ⟨_,List.mem_map.mpr ⟨v,h,rfl⟩,by show peq (ndD v) (ndD v)=true;rw [aT4];simp⟩
structure Sv (h:aA) (sn:List aH) (row:List Nat) (tr:List (List (Nat×aH))) (sa ra ta:Nat) (is:List Nat) (H:aA):Prop where
 ge:h.length<=sa/\h.length<=ra/\h.length<=ta/\∀ i∈is,h.length<=i
 old:∀ i,i < h.length->i≠0->H[i]?=h[i]?
 tab:∃ ts,H[0]?=some (.t ts)/\fU ts
 pos:0 < h.length
 se:H[sa]?=some (.n (sn.map seD))
 ro:H[ra]?=some (.l (row.map nI))
 tl:H[ta]?=some (.r is)
 it:Paired (fun i t=>H[i]?=some (.l (t.map prD))) is tr
 ap:sa≠ra/\sa≠ta/\ra≠ta/\(∀ i∈is,i≠sa/\i≠ra/\i≠ta)/\is.Nodup
section
variable {h:aA} {sn:List aH} {row:List Nat} {tr:List (List (Nat×aH))} {sa ra ta k:Nat} {is:List Nat} {H:aA}
def kR {P:Nat->List (Nat×aH)->Prop} {is:List Nat} {tr:List (List (Nat×aH))} {H H':aA} (p:Paired (fun i t=>H[i]?=some (.l (t.map prD))) is tr) (hs:∀ i∈is,H'[i]?=H[i]?):Paired (fun i t=>H'[i]?=some (.l (t.map prD))) is tr:=by
 induction p with
 | nil=>exact .nil
 | cons a _ ih=>exact .cons ((hs _ List.mem_cons_self).trans a) (ih fun i hi=>hs i (List.mem_cons_of_mem _ hi))
theorem Sv.lt (s:Sv h sn row tr sa ra ta is H):sa < H.length/\ra < H.length/\ta < H.length/\∀ i∈is,i < H.length:=by
 refine ⟨(List.getElem?_eq_some_iff.mp s.se).1,(List.getElem?_eq_some_iff.mp s.ro).1,(List.getElem?_eq_some_iff.mp s.tl).1,?_⟩;have:=s.it;clear s;induction this with
 | nil=>intro i hi;cases hi
 | cons a _ ih =>
  intro i hi;rcases List.mem_cons.mp hi with e | e
  ·subst e;exact (List.getElem?_eq_some_iff.mp a).1
  ·exact ih i e
def Sv.keep {H':aA} (s:Sv h sn row tr sa ra ta is H) (sn':List aH) (row':List Nat) (tr':List (List (Nat×aH))) (is':List Nat) (hl:∀ i,i < h.length->i≠0->H'[i]?=H[i]?) (ht:∃ ts,H'[0]?=some (.t ts)/\fU ts)
  (h1:H'[sa]?=some (.n (sn'.map seD))) (h2:H'[ra]?=some (.l (row'.map nI))) (h3:H'[ta]?=some (.r is')) (h4:Paired (fun i t=>H'[i]?=some (.l (t.map prD))) is' tr') (h5:(∀ i∈is',h.length<=i)/\(∀ i∈is',i≠sa/\i≠ra/\i≠ta)/\is'.Nodup):Sv h sn' row' tr' sa ra ta is' H' :=
 ⟨⟨s.ge.1,s.ge.2.1,s.ge.2.2.1,h5.1⟩,fun i hi h0=>(hl i hi h0).trans (s.old i hi h0),ht,s.pos,h1,h2,h3,h4,⟨s.ap.1,s.ap.2.1,s.ap.2.2.1,h5.2.1,h5.2.2⟩⟩
theorem kT {H:aA} {a:Nat} {c d:Cell} (e:H[a]?=some d):(H.set a c)[a]?=some c:=List.getElem?_set_self (List.getElem?_eq_some_iff.mp e).1
theorem bC {H:aA} {a b:Nat} {c:Cell} (e:a≠b):(H.set a c)[b]?=H[b]?:=List.getElem?_set_ne e
def Sv.tab0 (s:Sv h sn row tr sa ra ta is H) {a:Nat} {c:Cell} (ha:h.length<=a):∃ ts,(H.set a c)[0]?=some (.t ts)/\fU ts:=by
 obtain ⟨ts,e,o⟩:=s.tab;have:=s.pos;exact ⟨ts,by rw [bC (by omega)];exact e,o⟩
theorem iM {α β:Type} {F:α->β->Prop} {l:List α} {a:α} {r:List β} {c:β} (p:Paired F (l++[a]) (r++[c])):Paired F l r/\F a c:=by
 have hl:=p.length;simp at hl;have h1:=tA l.length p;rw [List.take_left,hl,List.take_left] at h1;have h2:=xX l.length p;rw [List.drop_left,hl,List.drop_left] at h2;cases h2 with
 | cons a _=>exact ⟨h1,a⟩
theorem bD8 {t:List (Nat×aH)} (s:Sv h sn row (tr++[t]) sa ra ta is H):∃ is0 k,is=is0++[k]:=by
 have hl:=s.it.length;simp at hl;exact ⟨is.dropLast,is.getLast (by intro z;subst z;simp at hl),(List.dropLast_concat_getLast _).symm⟩
variable {t:List (Nat×aH)} {q:Nat×aH}
def Sv.popT (s:Sv h sn row (tr++[t]) sa ra ta (is++[k]) H):Sv h sn row tr sa ra ta is (H.set ta (.r is)):=by
 obtain ⟨p,e⟩:=iM s.it;have nd:=s.ap.2.2.2.2;rw [List.nodup_append] at nd;have hm:∀ i∈is,i∈is++[k]:=fun i hi=>List.mem_append_left _ hi;exact s.keep sn row tr is (fun i hi _=>bC (by have:=s.ge.2.2.1;omega)) (s.tab0 s.ge.2.2.1) (by rw [bC (Ne.symm s.ap.2.1)];exact s.se) (by rw [bC (Ne.symm s.ap.2.2.1)];exact s.ro) (kT s.tl) (kR (P:=fun _ _=>True) p fun i hi=>bC (Ne.symm (s.ap.2.2.2.1 i (hm i hi)).2.2)) ⟨fun i hi=>s.ge.2.2.2 i (hm i hi),fun i hi=>s.ap.2.2.2.1 i (hm i hi),nd.1⟩
def Sv.newR (s:Sv h sn row tr sa ra ta is H) (row':List Nat):Sv h sn row' tr sa H.length ta is (H++[.l (row'.map nI)]):=by
 obtain ⟨l1,l2,l3,l4⟩:=s.lt;have ap:∀ {a:Nat},a < H.length->(H++[Cell.l (row'.map nI)])[a]?=H[a]?:=fun ha=>List.getElem?_append_left ha;have g:=s.ge;refine ⟨⟨g.1,by omega,g.2.2.1,g.2.2.2⟩,fun i hi h0=>(ap (by omega)).trans (s.old i hi h0),?_,s.pos,(ap l1).trans s.se,by simp,(ap l3).trans s.tl,kR (P:=fun _ _=>True) s.it fun i hi=>ap (l4 i hi),⟨by omega,s.ap.2.1,by omega,fun i hi=>⟨(s.ap.2.2.2.1 i hi).1,by have:=l4 i hi;omega,(s.ap.2.2.2.1 i hi).2.2⟩,s.ap.2.2.2.2⟩⟩;obtain ⟨ts,e,o⟩:=s.tab;exact ⟨ts,(ap (by omega)).trans e,o⟩
def Sv.popQ (s:Sv h sn row (tr++[t++[q]]) sa ra ta (is++[k]) H):Sv h sn row (tr++[t]) sa ra ta (is++[k]) (H.set k (.l (t.map prD))):=by
 obtain ⟨p,e⟩:=iM s.it;have nd:=s.ap.2.2.2.2;rw [List.nodup_append] at nd;have hk:k∈is++[k]:=by simp
 obtain ⟨n1,n2,n3⟩:=s.ap.2.2.2.1 k hk;refine s.keep sn row _ _ (fun i hi _=>bC (by have:=s.ge.2.2.2 k hk;omega)) (s.tab0 (s.ge.2.2.2 k hk)) (by rw [bC n1];exact s.se) (by rw [bC n2];exact s.ro) (by rw [bC n3];exact s.tl) ?_ ⟨s.ge.2.2.2,s.ap.2.2.2.1,s.ap.2.2.2.2⟩;exact Paired.snoc (kR (P:=fun _ _=>True) p fun i hi=>bC fun z=>nd.2.2 i hi k (by simp) z.symm) (kT e)
def Sv.appR (s:Sv h sn row tr sa ra ta is H) (x:Nat):Sv h sn (row++[x]) tr sa ra ta is (H.set ra (.l ((row++[x]).map nI))) :=
 s.keep sn _ tr is (fun i hi _=>bC (by have:=s.ge.2.1;omega)) (s.tab0 s.ge.2.1) (by rw [bC (Ne.symm s.ap.1)];exact s.se) (kT s.ro) (by rw [bC s.ap.2.2.1];exact s.tl) (kR (P:=fun _ _=>True) s.it fun i hi=>bC (Ne.symm (s.ap.2.2.2.1 i hi).2.1)) ⟨s.ge.2.2.2,s.ap.2.2.2.1,s.ap.2.2.2.2⟩
def Sv.see (s:Sv h sn row tr sa ra ta is H) (v:aH):Sv h (sn++[v]) row tr sa ra ta is (H.set sa (.n ((sn++[v]).map seD))) :=
 s.keep _ row tr is (fun i hi _=>bC (by have:=s.ge.1;omega)) (s.tab0 s.ge.1) (kT s.se) (by rw [bC s.ap.1];exact s.ro) (by rw [bC s.ap.2.1];exact s.tl) (kR (P:=fun _ _=>True) s.it fun i hi=>bC (Ne.symm (s.ap.2.2.2.1 i hi).1)) ⟨s.ge.2.2.2,s.ap.2.2.2.1,s.ap.2.2.2.2⟩
def Sv.push (s:Sv h sn row tr sa ra ta is H) (ws:List (Nat×aH)):Sv h sn row (tr++[ws]) sa ra ta (is++[H.length]) ((H.set 0 (.t tE)++[Cell.l (ws.map prD)]).set ta (.r (is++[H.length]))):=by
 obtain ⟨l1,l2,l3,l4⟩:=s.lt;have g:=s.ge;have ps:=s.pos;have ap:∀ {a:Nat},a < H.length->a≠0->(H.set 0 (.t tE)++[Cell.l (ws.map prD)])[a]?=H[a]?:=fun ha h0=>by
  rw [List.getElem?_append_left (by simpa using ha)];exact bC (Ne.symm h0)
 have aL:(H.set 0 (.t tE)++[Cell.l (ws.map prD)])[H.length]?=some (.l (ws.map prD)):=by
  rw [List.getElem?_append_right (by simp)];simp
 have o1:=s.ap;refine s.keep sn row _ _ (fun i hi h0=>by rw [bC (by omega)];exact ap (by omega) h0) ⟨tE,?_,.inr rfl⟩ (by rw [bC (Ne.symm o1.2.1)];exact (ap l1 (by omega)).trans s.se) (by rw [bC (Ne.symm o1.2.2.1)];exact (ap l2 (by omega)).trans s.ro) (kT ((ap l3 (by omega)).trans s.tl)) ?_ ⟨fun i hi=>?_,fun i hi=>?_,?_⟩
 ·rw [bC (by omega),List.getElem?_append_left (by simp;omega)];obtain ⟨ts,e,_⟩:=s.tab;exact kT e
 ·refine Paired.snoc (kR (P:=fun _ _=>True) s.it fun i hi=>?_) ?_
  ·rw [bC (Ne.symm (o1.2.2.2.1 i hi).2.2)];exact ap (l4 i hi) (by have:=g.2.2.2 i hi;omega)
  ·rw [bC (by omega)];exact aL
 ·rcases List.mem_append.mp hi with z | z
  ·exact g.2.2.2 i z
  ·rw [List.mem_singleton.mp z];omega
 ·rcases List.mem_append.mp hi with z | z
  ·exact o1.2.2.2.1 i z
  ·rw [List.mem_singleton.mp z];exact ⟨by omega,by omega,by omega⟩
 ·rw [List.nodup_append];exact ⟨o1.2.2.2.2,by simp,fun a ha c hc e=>by have:=l4 a ha;rw [List.mem_singleton.mp hc] at e;omega⟩
def Sv.wd (s:Sv h sn row tr sa ra ta is H) {b:Pb} {j:Nat} (w:Wd b j h) (h0:0 < j) (hz:j+wdZ b<=h.length):Wd b j H/\j < H.length:=by
 refine ⟨w.grow fun i c hi hl e=>?_,?_⟩
 ·rw [s.old i (by omega) (by omega)];exact e
 ·have:=s.lt.1;have:=s.ge.1;unfold wdZ at hz;omega
def Sv.lenT (s:Sv h sn row tr sa ra ta is H):aZ [.c ta] H=some (.d (.int tr.length),H):=by
 have:=s.it.length;simp [aZ,ref,s.tl,aV2,this]
def Sv.lenS (s:Sv h sn row tr sa ra ta is H):aZ [.c sa] H=some (.d (.int sn.length),H):=by
 simp [aZ,ref,s.se,aV2]
def Sv.top (s:Sv h sn row (tr++[t]) sa ra ta (is++[k]) H):xIx (.c ta) (.d (.int (-1))) H=some (.c k,H)/\H[k]?=some (.l (t.map prD)):=by
 have e:=(iM s.it).2;refine ⟨?_,e⟩;have hi:atI (is++[k]) (-1)=some k:=by
  unfold atI;have:ixN (is++[k]).length (-1)=some is.length:=by
   unfold ixN;simp;omega
  rw [this];simp
 unfold xIx ref xIr;simp [s.tl,hi]
end
end K26

namespace K26
open PySem PySem.Spec PyProof.Rows L2 DL CI SJ
theorem vG {b:Pb} (hb:b.ok):∀ {l:List Nat} {st s:List Int},okL b.its.length l->st.length=8->cQ b l st=some s->s.length=8
 | [],st,s,_,h,e=>by cases e;exact h
 | x::l,st,s,ho,h,e=>by
  obtain ⟨s1,e1,e2⟩:=bind_some (show (bhO st (b.its.getD x dfI)).bind (cQ b l)=some s from e);have hx:=ho x List.mem_cons_self;have hy:(b.its.getD x dfI).ok:=hb.its _ (by rw [List.getD_eq_getElem?_getD,List.getElem?_eq_getElem hx];exact List.getElem_mem hx);exact vG hb (fun y hy=>ho y (List.mem_cons_of_mem _ hy)) (aS7 hy h e1) e2
def xS {b:Pb} (hb:b.ok) (h6:b.its.length<=6) {l:List Nat} {v:aH} (w:Way b l) (e:bQ b l=some v):NOk b v:=by
 obtain ⟨st,e1,rfl⟩:=Option.map_eq_some_iff.mp e;refine ⟨?_,vG hb w.ol.ok hb.st e1⟩;have:=(fL l).length_eq;have:=iL w.ol.nd w.ol.ok;show (cE l).length<=60;omega
def vH (l:List Nat):PyData:=.tuple [.str (Str.ofString "row"),.tuple (l.map nI)]
noncomputable def stD (z:PyData):PyData:=.tuple [.str (Str.ofString "stands"),z]
def cG0 (b:Pb) (z:PyData):Prop:=(∃ l,z=vH l)\/∃ sn:List aH,z=stD (.list (sn.map ndD))/\sn.Nodup/\sn≠[]/\∀ v∈sn,∃ l,Way b l/\bQ b l=some v
def aT6 (row:List Nat):cut (row.map nI) none (some (-1))=row.dropLast.map nI:=by
 unfold cut;rw [List.dropLast_eq_take];have e:HT.sIx (row.map nI).length (row.map nI).length (some (-1))=row.length - 1:=by
  show (if (-1:Int) < 0 then ((-1:Int)+((row.map nI).length:Int)).toNat else min (-1:Int).toNat (row.map nI).length)=_;rw [if_pos (by decide),List.length_map];omega
 have e0:HT.sIx (row.map nI).length 0 none=0:=rfl;rw [e,e0];simp [List.map_take]
def aT7 (b:Pb):bQ b []=some ([],b.st):=by
 have:cE []=[]:=List.eq_nil_of_length_eq_zero (by rw [(fL []).length_eq];rfl);unfold bQ;rw [this];rfl
def Sv.fin {h:aA} {sn:List aH} {row:List Nat} {tr:List (List (Nat×aH))} {sa ra ta:Nat} {is:List Nat} {H:aA} (s:Sv h sn row tr sa ra ta is H):∃ ts,fU ts/\okP h H/\H.take h.length=h.set 0 (.t ts):=by
 obtain ⟨ts,e,o⟩:=s.tab;have ps:=s.pos;have hl:h.length<=H.length:=by have:=s.ge.1;have:=s.lt.1;omega
 refine ⟨ts,o,fun i c hi e'=>?_,?_⟩
 ·by_cases h0:i=0
  ·subst h0;rw [e] at e';cases e';exact .inl fun j hj=>by simp [cRefs] at hj
  ·exact .inr (by rw [<- s.old i hi h0];exact e')
 ·apply List.ext_getElem?;intro i
  by_cases hi:i < h.length
  ·rw [List.getElem?_take_of_lt hi]
   by_cases h0:i=0
   ·subst h0;rw [e,List.getElem?_set_self ps]
   ·rw [List.getElem?_set_ne (Ne.symm h0)];exact s.old i hi h0
  ·rw [List.getElem?_eq_none (by simp;omega),List.getElem?_eq_none (by simp;omega)]
end K26

namespace K26
open PySem PySem.Spec PyProof.Rows L2 DL CI SJ
def LI (b:Pb) (h:aA) (j k:Nat) (δ:DSt) (H:aA):Prop:=∃ sn row tr sa ra ta is pv,δ=[some (.c j),some (.d (.int 5000)),some (.c sa),some (.c ra),some (.c ta),pv]/\Sv h sn row tr sa ra ta is H/\SI b sn row tr/\k=msr sn tr
def L1 (b:Pb) (h:aA) (j:Nat) (δ:DSt) (H:aA):Prop:=∃ sn row sa ra ta is pv,δ=[some (.c j),some (.d (.int 5000)),some (.c sa),some (.c ra),some (.c ta),pv]/\Sv h sn row [] sa ra ta is H/\SI b sn row []
def L2 (b:Pb) (h:aA) (z:PyData) (H:aA):Prop:=(∃ l,z=vH l)/\∃ sn row tr sa ra ta is,Sv h sn row tr sa ra ta is H
def aT8 {h:aA} (pos:0 < h.length) (v0:aH) (ws:List (Nat×aH)):Sv h [v0] [] [ws] h.length (h.length+1) (h.length+2+1) [h.length+2] ((h++[Cell.n [(ndD v0,.bool true)],Cell.l []]).set 0 (.t tE)++[Cell.l (ws.map prD),Cell.r [h.length+2]]):=by
 have e:(h++[Cell.n [(ndD v0,.bool true)],Cell.l []]).set 0 (.t tE)++[Cell.l (ws.map prD),Cell.r [h.length+2]]=h.set 0 (.t tE)++[Cell.n [(ndD v0,.bool true)],Cell.l [],Cell.l (ws.map prD),Cell.r [h.length+2]]:=by
  rw [List.set_append_left _ _ pos,List.append_assoc];rfl
 rw [e];have r:∀ k,h.length<=k->(h.set 0 (.t tE)++[Cell.n [(ndD v0,.bool true)],Cell.l [],Cell.l (ws.map prD),Cell.r [h.length+2]])[k]?=[Cell.n [(ndD v0,.bool true)],Cell.l [],Cell.l (ws.map prD),Cell.r [h.length+2]][k - h.length]?:=fun k hk=>by
  rw [List.getElem?_append_right (by simpa using hk)];simp
 refine ⟨⟨Nat.le_refl _,by omega,by omega,fun i hi=>by rw [List.mem_singleton.mp hi];omega⟩,fun i hi h0=>?_,⟨tE,?_,.inr rfl⟩,pos,?_,?_,?_,.cons ?_ .nil,⟨by omega,by omega,by omega,fun i hi=>by rw [List.mem_singleton.mp hi];exact ⟨by omega,by omega,by omega⟩,by simp⟩⟩
 ·rw [List.getElem?_append_left (by simpa using hi),List.getElem?_set_ne (Ne.symm h0)]
 ·rw [List.getElem?_append_left (by simpa using pos),List.getElem?_set_self pos]
 ·rw [r _ (Nat.le_refl _)];simp [seD]
 ·rw [r _ (by omega),show h.length+1 - h.length=1 by omega];rfl
 ·rw [r _ (by omega),show h.length+2+1 - h.length=3 by omega];rfl
 ·rw [r _ (by omega),show h.length+2 - h.length=2 by omega];rfl
def xT {P:Option (Fl×aA)->Prop} {c:XR Bool} {tb:XS} {n:Nat} {δ:DSt} {h:aA} (k:∀ c' tb',c'=c->tb'=tb->P (bR c' tb' n δ h)):P (bR c tb n δ h):=k c tb rfl rfl
def xU (d:Nat) {b:Pb} (hb:b.ok) (h6:b.its.length<=6) {h:aA} {j:Nat} (w:Wd b j h) (h0:0 < j) (hz:j+wdZ b<=h.length) {ts:List (Pos×Str)} (ht:h[0]?=some (.t ts)) (hts:fU ts) :
  ∃ z ts',cG0 b z/\fU ts'/\aD T (d+9) "searched" [.c j,.d (.int 5000)] h=some (z,h.set 0 (.t ts')):=by
 have hj:j < h.length:=by unfold wdZ at hz;omega
 have e1:=sY (d+7) w;have e2:=xQ (d+6) w (v:=([],b.st)) (by simp);have nk:=xS hb h6 (mJ b) (aT7 b);rw [show d+9=(d+8)+1 from rfl,wX];cases hl:gN b ([],b.st) with
 | true =>
  rw [hl] at e2;have hs:h.set 0 (.t ts)=h:=List.ext_getElem? fun i=>by
   by_cases z:i=0
   ·subst z;rw [List.getElem?_set_self (by omega),ht]
   ·rw [List.getElem?_set_ne (Ne.symm z)]
  refine ⟨vH [],ts,.inl ⟨[],rfl⟩,hts,?_⟩;rw [hs];simp [e1,e2,szl,vH]
 | false =>
  rw [hl] at e2;have gr:∀ L,Wd b j (h++L):=fun L=>w.grow fun i c _ _ e=>by
   rw [List.getElem?_append_left (List.getElem?_eq_some_iff.mp e).1];exact e
  have f1:=sY (d+7) (gr [.n [(ndD ([],b.st),.bool true)],.l []]);have f2:=aT2 d hb h6 (gr [.n [(ndD ([],b.st),.bool true)],.l []]) h0 (by simp;omega) nk (ts:=ts) (by rw [List.getElem?_append_left (by omega)];exact ht) hts;simp [e1,e2,szl,yC,qX,aS,yD,f1,f2,-kF,-qH,-nG];generalize hx:bR _ _ _ _ _=x;have kk:(∃ δ' h',x=some (.nx δ',h')/\L1 b h j δ' h')\/∃ z h',x=some (.rt (.d z),h')/\L2 b h z h':=by
   subst hx;refine xT (P:=fun x=>(∃ δ' h',x=some (.nx δ',h')/\L1 b h j δ' h')\/∃ z h',x=some (.rt (.d z),h')/\L2 b h z h') fun C' B' hC hB=>?_;refine oK (LI b h j) (fun m δ H=>?_) 100000 (msr [([],b.st)] [wts b ([],b.st) (beh b ([],b.st))]) _ _ ?_ ?_
   ·rintro ⟨sn,row,tr,sa,ra,ta,is,pv,rfl,s,si,rfl⟩;obtain ⟨wH,jH⟩:=s.wd w h0 hz;have lT:=s.lenT;have lS:=s.lenS;have fw:=few h6 si.nd si.way;have n5:¬ (5000:Int) < sn.length:=by omega
    rcases List.eq_nil_or_concat tr with rfl | ⟨tr,t,rfl⟩
    ·refine .inl ⟨by rw [hC];simp [lT],sn,row,sa,ra,ta,is,pv,rfl,s,si⟩
    ·rw [List.concat_eq_append] at *;obtain ⟨is,k,rfl⟩:=bD8 s;obtain ⟨tp,tk⟩:=s.top;have lK:aZ [.c k] H=some (.d (.int t.length),H):=by simp [aZ,ref,tk]
     have c1:(0:Int) < ((tr++[t]).length:Nat):=by simp
     refine .inr ⟨by rw [hC];simp [lT],?_⟩;rcases List.eq_nil_or_concat t with rfl | ⟨t,q,rfl⟩
     ·-- the top is empty
      have s1:=s.popT;have p1:rH (.c ta) H=some (.c k,H.set ta (.r is)):=by simp [rH,s.tl]
      have r1:=s1.ro;have s2:=s1.newR row.dropLast;have si2:=bS8 si;generalize H.set ta (.r is)=H1 at p1 s1 r1 s2;refine .inl ⟨[some (.c j),some (.d (.int 5000)),some (.c sa),some (.c H1.length),some (.c ta),pv],H1++[.l (row.dropLast.map nI)],msr sn tr,?_,.inr ?_,sn,row.dropLast,tr,sa,_,ta,is,pv,rfl,s2,si2,rfl⟩
      ·unfold msr;simp
      ·rw [hB];simp [lS,n5,tp,lK,p1,ref,r1,aT6,szl,-kF,-qH,-nG]
     ·rw [List.concat_eq_append] at *;have s1:=s.popQ;have p1:rH (.c k) H=some (.d (prD q),H.set k (.l (t.map prD))):=by simp [rH,tk]
      obtain ⟨wH1,jH1⟩:=s1.wd w h0 hz;have i1:xIn (.d (ndD q.2)) (.c sa) (H.set k (.l (t.map prD)))=some (decide (q.2∈sn)):=by
       have:=qX q.2;simp only [xIn,ref,s1.se,aV1,hW,bs];rw [if_pos this,oM]
      have tl:¬ ((t.length:Int)+1=0):=by omega
      by_cases hq:q.2∈sn
      ·generalize H.set k (.l (t.map prD))=H1 at p1 s1 i1;refine .inl ⟨[some (.c j),some (.d (.int 5000)),some (.c sa),some (.c ra),some (.c ta),some (.d (prD q))],H1,msr sn (tr++[t]),?_,.inr ?_,sn,row,_,sa,ra,ta,_,_,rfl,s1,bD3 si hq,rfl⟩
       ·unfold msr;simp
       ·rw [hB];simp [lS,n5,tp,lK,tl,p1,prD,i1,hq,-kF,-qH,-nG]
      ·generalize H.set k (.l (t.map prD))=H1 at p1 s1 i1 wH1 jH1;obtain ⟨wy,ny⟩:=zV si;have rl:row.length<=120:=by
        have:=iL si.rw.ol.nd si.rw.ol.ok;omega
       have s2:=s1.appR q.1;have m1:eP (Str.ofString "append") (.c ra) H1=true:=by simp [eP,s1.ro]
       have a1:rG (.c ra) [.d (.int q.1)] H1=some (.d .none,H1.set ra (.l ((row++[q.1]).map nI))):=by
        have:row.length < 16777216:=by omega
        simp [s1.ro,szl,this,nI]
       obtain ⟨wH2,jH2⟩:=s2.wd w h0 hz;generalize H1.set ra (.l ((row++[q.1]).map nI))=H2 at a1 s2 wH2 jH2;have nq:=xS hb h6 wy ny;have la:=xQ (d+6) wH2 (v:=q.2) (by have:=nq.l;omega);cases hla:gN b q.2 with
       | true =>
        rw [hla] at la;have tq:bG [.c ra] H2=some (.d (.tuple ((row++[q.1]).map nI)),H2):=by simp only [bG,ref,s2.ro]
        refine .inr ⟨vH (row++[q.1]),H2,?_,⟨row++[q.1],rfl⟩,_,_,_,_,_,_,_,s2⟩
        ·rw [List.map_append] at tq;rw [hB];simp [lS,n5,tp,lK,tl,p1,prD,i1,hq,m1,a1,la,tq,szl,vH,-kF,-qH,-nG]
       | false =>
        rw [hla] at la;have s3:=s2.see q.2;have pu:∀ δ,rI sa (ndD q.2) (.bool true) δ H2=some (δ,H2.set sa (.n ((sn++[q.2]).map seD))):=fun δ=>by
         have hk:=qX q.2;have hn:sn.length < 16777216:=by omega
         have ap:DL.putN (sn.map seD) (ndD q.2) (.bool true)=(sn++[q.2]).map seD:=by
          unfold DL.putN;rw [oM,if_neg (by simpa using hq),List.map_append];rfl
         rw [kF,s2.se];show (if (cT (ndD q.2)&&hkB 4 (ndD q.2))=true/\(sn.map seD).length < sizeLine then _ else _)=_;rw [if_pos ⟨hk,by rw [szl,List.length_map];exact hn⟩,ap]
        obtain ⟨wH3,jH3⟩:=s3.wd w h0 hz;generalize H2.set sa (.n ((sn++[q.2]).map seD))=H3 at pu s3 wH3 jH3;obtain ⟨ts3,et3,ok3⟩:=s3.tab;have wt:=aT2 d hb h6 wH3 h0 jH3 nq et3 ok3;have s4:=s3.push (wts b q.2 (beh b q.2));have m2:eP (Str.ofString "append") (.c ta) H3=true:=by simp [eP,s3.tl]
        have a2:rG (.c ta) [.c H3.length] (H3.set 0 (.t tE)++[Cell.l ((wts b q.2 (beh b q.2)).map prD)])=some (.d .none,(H3.set 0 (.t tE)++[Cell.l ((wts b q.2 (beh b q.2)).map prD)]).set ta (.r (is++[k]++[H3.length]))):=by
         have g:=s3.ge;have lt:=s3.lt;have ps:=s3.pos;have e:(H3.set 0 (.t tE)++[Cell.l ((wts b q.2 (beh b q.2)).map prD)])[ta]?=some (.r (is++[k])):=by
          rw [List.getElem?_append_left (by simpa using lt.2.2.1),bC (by omega)];exact s3.tl
         have il:(is++[k]).length < 16777216:=by
          have h1:=s3.it.length;have h2:(tr++[t]).length=row.length+1:=by
           rcases si.ln with z | z
           ·simp at z
           ·simpa using z
          omega
         rw [nG,e];show (if (is++[k]).length < sizeLine then _ else _)=_;rw [szl,if_pos il]
        generalize (H3.set 0 (.t tE)++[Cell.l ((wts b q.2 (beh b q.2)).map prD)]).set ta (.r (is++[k]++[H3.length]))=H4 at a2 s4;have si4:=bD4 si hq (jR b q.2 (beh b q.2));have fw4:=few h6 si4.nd si4.way;refine .inl ⟨[some (.c j),some (.d (.int 5000)),some (.c sa),some (.c ra),some (.c ta),some (.d (prD q))],H4,_,?_,.inl ?_,_,_,_,sa,ra,ta,_,_,rfl,s4,si4,rfl⟩
        ·have wl:=(jR b q.2 (beh b q.2)).length_eq;have bl:=jQ b q.2;unfold msr;simp at fw4 ⊢;omega
        ·rw [hB];simp [lS,n5,tp,lK,tl,p1,prD,i1,hq,m1,a1,la,pu,wt,m2,a2,-kF,-qH,-nG]
   ·unfold msr;have wl:=(jR b ([],b.st) (beh b ([],b.st))).length_eq;have bl:=jQ b ([],b.st);simp;omega
   ·exact ⟨_,_,_,_,_,_,_,_,rfl,aT8 (by omega) _ _,aS9 (aT7 b) hl (jR _ _ _),rfl⟩
  clear hx;rcases kk with ⟨δ',H,rfl,sn,row,sa,ra,ta,is,pv,rfl,s,si⟩ | ⟨z,H,rfl,⟨l,rfl⟩,sn,row,tr,sa,ra,ta,is,s⟩
  ·obtain ⟨ts',o,ok,tk⟩:=s.fin;refine ⟨stD (.list ((sn.map seD).map (·.1))),.inr ⟨sn,by rw [List.map_map];rfl,si.nd,si.ne,si.way⟩,ts',o,?_⟩;simp [ref,s.se,hW,szl,ok,tk,stD]
  ·obtain ⟨ts',o,ok,tk⟩:=s.fin;refine ⟨vH l,.inl ⟨l,rfl⟩,ts',o,?_⟩;simp [ok,tk]
end K26

namespace K26
open PySem PySem.Spec PyProof.Rows L2 DL CI SJ
def lD (l:List Nat):PyData:=.list (l.map nI)
noncomputable def bnd:Nat->Nat
 | 0=>1
 | m+1=>1+5*bnd m
def bD9 {b:Pb} {l:List Nat} {x:Nat} (ol:OL b l) (hx:x < b.its.length) (hn:¬ x∈l) (ha:(cQ b (l++[x]) b.st).isSome=true):OL b (l++[x]) :=
 ⟨fun y hy=>by
  rcases List.mem_append.mp hy with h | h
  ·exact ol.ok y h
  ·rw [List.mem_singleton.mp h];exact hx,by
  refine List.nodup_append.mpr ⟨ol.nd,by simp,fun a ha c hc=>?_⟩;rw [List.mem_singleton.mp hc];exact fun e=>hn (e ▸ ha),ha⟩
structure Rs (b:Pb) (begun:List Nat) (k B:Nat) (ls:List (List Nat)):Prop where
 ok:∀ l∈ls,OL b l/\bE b l=true
 len:ls.length<=1+k*B
 all:∀ l,OL b l->bE b l=true->(l=begun\/∃ y r,y < k/\l=begun++y::r)->l∈ls
def RI (h:aA) (b:Pb) (begun:List Nat) (B:Nat) (k:Nat) (δ:DSt) (H:aA):Prop:=∃ (L:aA) (f:Nat) (ls:List (List Nat)) (u:Option W),H=h++L/\h.length<=f/\H[f]?=some (.l (ls.map lD))/\δ=[some (.d b.dat),some (.d (lD begun)),some (.c f),u]/\Rs b begun k B ls
structure Rw (b:Pb) (begun:List Nat) (B:Nat) (ls:List (List Nat)):Prop where
 ok:∀ l∈ls,OL b l/\bE b l=true
 len:ls.length<=B
 all:∀ l,OL b l->bE b l=true->begun <+: l->l∈ls
def RE (h:aA) (b:Pb) (begun:List Nat) (B:Nat) (x:Option (Fl×aA)):Prop:=∃ (L:aA) (f:Nat) (ls:List (List Nat)),h.length<=f/\(h++L)[f]?=some (.l (ls.map lD))/\x=some (.rt (.c f),h++L)/\Rw b begun B ls
def reB {h:aA} {b:Pb} {begun:List Nat} {B:Nat} {x:Option (Fl×aA)} {f:DSt->Fl×aA->Option (Fl×aA)} (δ:DSt) (H:aA) (e:x=some (.nx δ,H)) (k:RE h b begun B (f δ (.nx δ,H))):RE h b begun B (YP x (YQ f)):=by
 rw [e];exact k
def reJ {h:aA} {b:Pb} {begun:List Nat} {B:Nat} {x:Option (Fl×aA)} {f:DSt->Fl×aA->Option (Fl×aA)} (J:DSt->aA->Prop) (e:∃ δ' h',x=some (.nx δ',h')/\J δ' h') (k:∀ δ' h',J δ' h'->RE h b begun B (f δ' (.nx δ',h'))):RE h b begun B (YP x (YQ f)):=by
 obtain ⟨δ',h',e,j⟩:=e;rw [e];exact k δ' h' j
theorem bE0 (h L:aA):okP h (h++L):=fun i c hi e=>.inr (by rw [List.getElem?_append_left hi] at e;exact e)
def cS8 {h:aA} {b:Pb} {begun:List Nat} {B:Nat} {x:Option (Fl×aA)} (e:RE h b begun B x):∃ ls:List (List Nat),Rw b begun B ls/\x.bind (aO h)=some (.list (ls.map lD),h):=by
 obtain ⟨L,f,ls,h1,h2,h3,h4⟩:=e;refine ⟨ls,h4,?_⟩;rw [h3];show aO h (.rt (.c f),h++L)=_;unfold aO;rw [if_pos (bE0 h L)];dsimp only;rw [h2];dsimp only;rw [if_pos h1];simp
def bT3 {b:Pb} (hb:b.ok) (h5:b.its.length<=5):∀ (m:Nat) (d:Nat) (h:aA) (begun:List Nat),begun.length+m=b.its.length->OL b begun->∃ ls:List (List Nat),Rw b begun (bnd m) ls/\aD T (d+8+m) "_law_rows" [.d b.dat,.d (lD begun)] h=some (.list (ls.map lD),h):=by
 intro m;have en:fB 0 (b.its.length:Int)=true:=bJ (by omega) (by omega);have v11:∀ H,xIx (.d b.dat) (.d (.int 1)) H=some (.d (.tuple (b.its.map It.dat)),H):=fun H=>by simp [Pb.dat]
 have hb5:∀ m,m<=5->bnd m<=4000:=fun m hm=>by
  have:m=0\/m=1\/m=2\/m=3\/m=4\/m=5:=by omega
  rcases this with rfl | rfl | rfl | rfl | rfl | rfl<;>decide
 induction m using Nat.strongRecOn with
 | _ m ih =>
  intro d h begun hlen ol;have hbl:begun.length+1<=16777216:=by omega
  have rt:=bC8 (d+m) (h++[.l []]) hb ol (by omega);rw [show d+m+7=d+7+m by omega] at rt;rw [show d+8+m=(d+7+m)+1 by omega,uJ];refine cS8 ?_;refine reB [some (.d b.dat),some (.d (lD begun)),some (.c h.length),none] (h++[.l []]) (by simp [aS,szl]) ?_
  let B:=if m=0 then 0 else bnd (m - 1)
  refine reB [some (.d b.dat),some (.d (lD begun)),some (.c h.length),none] (h++[.l (if bE b begun=true then [lD begun] else [])]) ?_ ?_
  ·have eD:W.d (lD begun)=.d (.list (begun.map nI)):=rfl;cases hr:bE b begun with
   | true=>rw [hr] at rt;simp [eD,rt,eP,szl,lD]
   | false=>rw [hr] at rt;simp [eD,rt]
  refine reJ (RI h b begun B b.its.length) ?_ ?_
  ·refine bG6 ((rng 0 b.its.length,none),h++[.l (if bE b begun=true then [lD begun] else [])]) (by simp [v11,en]) ?_;refine bX (RI h b begun B) ⟨[.l (if bE b begun=true then [lD begun] else [])],h.length,if bE b begun=true then [begun] else [],none,rfl,Nat.le_refl _,?_,rfl,?_⟩ (fun δ H r=>?_) fun k hk δ H r=>?_
   ·cases bE b begun<;>simp
   ·refine ⟨fun l hl=>?_,?_,fun l ol' hr hx=>?_⟩
    ·cases hr:bE b begun with
     | true=>rw [hr] at hl;simp at hl;rw [hl];exact ⟨ol,hr⟩
     | false=>rw [hr] at hl;simp at hl
    ·cases bE b begun<;>simp
    ·rcases hx with rfl | ⟨y,r,hy,_⟩
     ·rw [hr];simp
     ·omega
   ·rw [CI.rng_len] at r;exact r
   obtain ⟨L,f,ls,u,rfl,hf,gf,rfl,rs⟩:=r;have hk':k < b.its.length:=by simpa [rng] using hk
   have ek:(rng 0 b.its.length)[k]=nI k:=by simp [rng,nI]
   rw [ek];refine ⟨[some (.d b.dat),some (.d (lD begun)),some (.c f),some (.d (nI k))],h++L,rfl,?_⟩;have hin:=aR7 (h++L) begun k;have e6:=kN hk';have eD:W.d (lD begun)=.d (.list (begun.map nI)):=rfl;have skip:(∀ r,OL b (begun++k::r)->bE b (begun++k::r)=true->False)->RI h b begun B (k+1) [some (.d b.dat),some (.d (lD begun)),some (.c f),some (.d (nI k))] (h++L):=fun hno=>by
    refine ⟨L,f,ls,_,rfl,hf,gf,rfl,rs.ok,?_,fun l ol' hr hx=>rs.all l ol' hr ?_⟩
    ·have:=rs.len;rw [Nat.succ_mul];omega
    ·rcases hx with rfl | ⟨y,r,hy,rfl⟩
     ·exact .inl rfl
     ·by_cases hyk:y=k
      ·subst hyk;exact (hno r ol' hr).elim
      ·exact .inr ⟨y,r,by omega,rfl⟩
   by_cases c1:k∈begun
   ·refine ⟨_,_,?_,skip fun r ol' _=>?_⟩
    ·simp [nI,eD,hin,c1]
    ·have:=ol'.nd;rw [List.nodup_append] at this;exact this.2.2 k c1 k List.mem_cons_self rfl
   ·have ew:wdI b.its k=b.its[k].w:=by simp [wdI,hk']
    by_cases c2:b.its[k].w="out"
    ·refine ⟨_,_,?_,skip fun r _ hr=>?_⟩
     ·simp [nI,eD,hin,c1,v11,e6,It.dat,PyData.eqv,c2]
     ·unfold bE lV at hr;rw [Bool.and_eq_true,Bool.not_eq_true',List.any_eq_false] at hr;exact hr.1 k (by simp) (by rw [ew];simpa using c2)
    ·have okx:okL b.its.length (begun++[k]):=fun y hy=>by
      rcases List.mem_append.mp hy with h | h
      ·exact ol.ok y h
      ·rw [List.mem_singleton.mp h];exact hk'
     have a1:=oG (d+1+m) (h++L) hb okx;have eb:begun.map nI++[PyData.int k]=(begun++[k]).map nI:=by simp [nI]
     have eb2:PyData.list (begun.map nI++[PyData.int k])=lD (begun++[k]):=by rw [eb];rfl
     rw [show d+1+m+6=d+7+m by omega] at a1;have a1:aD T (d+7+m) (Str.ofString "_law_answered") [.d b.dat,.d (lD (begun++[k]))] (h++L)=some (.bool (cQ b (begun++[k]) b.st).isSome,h++L):=a1;cases ha:(cQ b (begun++[k]) b.st).isSome with
     | false =>
      rw [ha] at a1;refine ⟨_,_,?_,skip fun r ol' _=>?_⟩
      ·simp [nI,eD,hin,c1,v11,e6,It.dat,PyData.eqv,c2,aM,szl,hbl];rw [eb2,a1];simp;rfl
      ·have h1:=ol'.an;rw [show begun++k::r=(begun++[k])++r by simp,jP] at h1;cases e:cQ b (begun++[k]) b.st with
       | none=>rw [e] at h1;cases h1
       | some _=>rw [e] at ha;cases ha
     | true =>
      rw [ha] at a1;have ol2:=bD9 ol hk' c1 ha;have hm0:m≠0:=fun z=>by
       have:=iL ol2.nd ol2.ok;simp at this;omega
      obtain ⟨m,rfl⟩:∃ m',m=m'+1:=⟨m - 1,by omega⟩;obtain ⟨ls2,g1,g2⟩:=ih m (by omega) d (h++L) (begun++[k]) (by simp;omega) ol2;rw [show d+8+m=d+7+(m+1) by omega] at g2;have eB:B=bnd m:=by show (if m+1=0 then 0 else bnd (m+1 - 1))=_;rw [if_neg (by omega)];rfl
      have hB:=hb5 m (by omega);have hz:ls.length+ls2.length<=16777216:=by
       have h1:=rs.len;have h2:=g1.len;rw [eB] at h1;have:k*bnd m<=5*4000:=Nat.mul_le_mul (by omega) hB;omega
      refine ⟨[some (.d b.dat),some (.d (lD begun)),some (.c (h++L).length),some (.d (nI k))],h++(L++[.l ((ls++ls2).map lD)]),?_,?_⟩
      ·simp [nI,eD,hin,c1,v11,e6,It.dat,PyData.eqv,c2,aM,szl,hbl];rw [eb2,a1];simp [g2,hz,szl,eD,hbl,eb2,aS,ref,gf]
      ·refine ⟨L++[.l ((ls++ls2).map lD)],(h++L).length,ls++ls2,_,rfl,by simp,by rw [<- List.append_assoc];simp,rfl,fun l hl=>?_,?_,fun l ol' hr hx=>?_⟩
       ·rcases List.mem_append.mp hl with z | z
        ·exact rs.ok l z
        ·exact g1.ok l z
       ·have h1:=rs.len;have h2:=g1.len;rw [List.length_append,Nat.succ_mul];rw [eB] at h1 ⊢;omega
       ·rcases hx with rfl | ⟨y,r,hy,rfl⟩
        ·exact List.mem_append_left _ (rs.all _ ol' hr (.inl rfl))
        ·by_cases hyk:y=k
         ·subst hyk;exact List.mem_append_right _ (g1.all _ ol' hr ⟨r,by simp⟩)
         ·exact List.mem_append_left _ (rs.all _ ol' hr (.inr ⟨y,r,by omega,rfl⟩))
  ·rintro δ H ⟨L,f,ls,u,rfl,hf,gf,rfl,rs⟩;refine ⟨L,f,ls,hf,gf,by simp,rs.ok,?_,fun l ol' hr hp=>rs.all l ol' hr ?_⟩
   ·have h1:=rs.len;cases m with
    | zero =>
     show ls.length<=1;have:B=0:=rfl;rw [this] at h1;omega
    | succ m =>
     have eB:B=bnd m:=by show (if m+1=0 then 0 else bnd (m+1 - 1))=_;rw [if_neg (by omega)];rfl
     rw [eB] at h1;show ls.length<=1+5*bnd m;have:b.its.length*bnd m<=5*bnd m:=Nat.mul_le_mul_right _ h5;omega
   ·obtain ⟨r,rfl⟩:=hp;cases r with
    | nil=>exact .inl (by simp)
    | cons y r=>exact .inr ⟨y,r,ol'.ok y (by simp),rfl⟩
end K26

namespace K26
open PySem PySem.Spec PyProof.Rows L2 DL CI SJ
structure NV (b:Pb) (v:aH):Prop where
 up:v.1.Pairwise (· < ·)
 lt:∀ x∈v.1,x < b.its.length
 s:v.2.length=8
theorem aA3:∀ {l:List Nat},l.Pairwise (· < ·)->l.Nodup
 | [],_=>List.nodup_nil
 | a::l,h=>by
  rw [List.pairwise_cons] at h;exact List.nodup_cons.mpr ⟨fun z=>Nat.lt_irrefl _ (h.1 a z),aA3 h.2⟩
def NV.ok {b:Pb} (hb:b.ok) (h6:b.its.length<=6) {v:aH} (h:NV b v):NOk b v:=⟨by
 have:=iL (aA3 h.up) h.lt;omega,h.s⟩
def aA4 {l:List Nat} (nd:l.Nodup):(cE l).Pairwise (· < ·):=by
 have h1:((cE l).map Int.ofNat).Pairwise (·<=·):=by rw [vB];exact ST.srt_le _
 have h2:(cE l).Nodup:=(fL l).nodup_iff.mpr nd;rw [List.pairwise_map] at h1;refine (h1.and h2).imp fun {a c} h=>?_;have:=h.1;have hn:a≠c:=h.2;simp at this;omega
def NV.next {b:Pb} {v:aH} {q:Nat×aH} (h:NV b v) (hq:q∈beh b v) (hs:q.2.2.length=8):NV b q.2:=by
 unfold beh at hq;obtain ⟨x,hx,e⟩:=List.mem_filterMap.mp hq;unfold behO at e;obtain ⟨st,e3,rfl⟩:=Option.map_eq_some_iff.mp e;unfold dD at hx;rw [List.mem_filter,List.mem_range] at hx;have hn:¬ x∈v.1:=fun z=>by
  have hm:=hx.2;unfold eK at hm;simp [z] at hm
 refine ⟨aA4 ?_,fun y hy=>?_,hs⟩
 ·rw [List.nodup_append];exact ⟨aA3 h.up,by simp,fun a ha c hc e=>hn (by rw [<- List.mem_singleton.mp hc,<- e];exact ha)⟩
 ·rcases List.mem_append.mp (mem_srtN.mp hy) with z | z
  ·exact h.lt y z
  ·rw [List.mem_singleton.mp z];exact hx.1
def bT4 {b:Pb} {l:List Nat} {v:aH} (w:Way b l) (e:bQ b l=some v) (hs:v.2.length=8):NV b v:=by
 obtain ⟨st,_,rfl⟩:=Option.map_eq_some_iff.mp e;exact ⟨aA4 w.ol.nd,fun x hx=>w.ol.ok x (mem_srtN.mp hx),hs⟩
def bE1:∀ {l:List Nat},l.Pairwise (· < ·)->aD4 (l.map Int.ofNat)=true:=fun {l} h=>by
 unfold aD4;rw [List.all_eq_true];intro k hk;have hk:=List.mem_range.mp hk;rw [List.length_map] at hk;have h1:k < l.length:=by omega
 have h2:k+1 < l.length:=by omega
 have:=List.pairwise_iff_getElem.mp h k (k+1) h1 h2 (by omega);simp [List.getD,h1,h2];omega
def aT9 (d:Nat) (H:aA) {b:Pb} (hl:b.its.length<=120) {v:aH} (hv:NV b v):aD T (d+4) "is_node" [.d (ndD v),.d (.int b.its.length)] H=some (.bool true,H):=by
 have e0:v.1.map nI=(v.1.map Int.ofNat).map PyData.int:=by rw [List.map_map];rfl
 have e1:aD T (d+3) (Str.ofString "are_numbers") [.d (.tuple (v.1.map nI)),.d (.int b.its.length)] H=some (.bool true,H):=by
  rw [e0];exact qT d H fun x hx=>by
   obtain ⟨k,hk,rfl⟩:=List.mem_map.mp hx;have:=hv.lt k hk;simp;omega
 have nl:=iL (aA3 hv.up) hv.lt;have e2:aD T (d+3) (Str.ofString "are_rising") [.d (.tuple (v.1.map nI))] H=some (.bool true,H):=by
  rw [e0,aP4 (d+2) H (by rw [List.length_map];omega) (fun _=>by simp) fun _ _=>rfl,bE1 hv.up]
 have e3:aD T (d+3) (Str.ofString "is_stand") [.d (.tuple (v.2.map .int))] H=some (.bool true,H):=nZ d H hv.s;rw [show d+4=(d+3)+1 from rfl,aE1];simp [ndD,hO,fZ,isi,fE,e1,e2,e3]
end K26

namespace K26
open PySem PySem.Spec PyProof.Rows L2 DL CI SJ
def bE2 (dn:List aH) (v:aH):DL.putN (dn.map seD) (ndD v) (.bool true)=(if v∈dn then dn else dn++[v]).map seD:=by
 unfold DL.putN;rw [oM]
 by_cases h:v∈dn
 ·rw [if_pos (by simpa using h),if_pos h,List.map_map];refine List.map_congr_left fun u _=>?_;show (if CI.peq (seD u).1 (ndD v)=true then ((seD u).1,PyData.bool true) else seD u)=seD u;split<;>rfl
 ·rw [if_neg (by simpa using h),if_neg h,List.map_append];rfl
theorem qY:∀ (ns dn:List aH),∃ en:List aH,(ns.map seD).foldl (fun a p=>DL.putN a p.1 p.2) (dn.map seD)=en.map seD/\∀ v,v∈en ↔ v∈dn\/v∈ns
 | [],dn=>⟨dn,rfl,by simp⟩
 | u::ns,dn=>by
  obtain ⟨en,e,h⟩:=qY ns (if u∈dn then dn else dn++[u]);refine ⟨en,?_,fun v=>?_⟩
  ·rw [List.map_cons,List.foldl_cons,<- e]
   congr 1
   exact bE2 dn u
  ·rw [h v]
   by_cases hu:u∈dn
   ·rw [if_pos hu,List.mem_cons];constructor
    ·rintro (z | z)
     ·exact .inl z
     ·exact .inr (.inr z)
    ·rintro (z | z | z)
     ·exact .inl z
     ·rw [z];exact .inl hu
     ·exact .inr z
   ·rw [if_neg hu];simp [or_assoc]
theorem qZ:∀ ns:List aH,iB (ns.map fun v=>PyData.tuple [ndD v,.bool true])=some (ns.map seD)
 | []=>rfl
 | v::r=>by
  have h:=qX v;rw [Bool.and_eq_true] at h;rw [List.map_cons,List.map_cons];show (if hkB 4 (ndD v)=true then (iB (r.map fun v=>PyData.tuple [ndD v,.bool true])).map ((ndD v,PyData.bool true)::·) else none)=_;rw [if_pos h.2,qZ r];rfl
def NC (C:Cell) (ns:List aH):Prop:=∀ (h L:aA) (v:aH),xIn (.d (ndD v)) (.c h.length) (h++C::L)=some (decide (v∈ns))
def aG2 (d:Nat) (h:aA) {ns:List aH} (hl:ns.length<=1000):∃ C,NC C ns/\callW T (d+1) "marked" [.d (.list (ns.map ndD))] h=some (.c h.length,h++[C]):=by
 have e3:∀ (g:XG) (all:List PyData) (te:XR W),(∀ w δ h,g w δ h=some (δ.set 0 (some w),h))->(∀ x∈ns.map ndD,∀ u,te (([none]:DSt).set 0 u |>.set 0 (some (.d x))) h=some (.d (.tuple [x,.bool true]),h))->aN g (aC true) te none all (ns.map ndD) [none] h []=some (ns.map fun v=>.tuple [ndD v,.bool true],h):=fun g all te hg ht=>by
  rw [bH (fun z=>.tuple [z,.bool true]) 0 hg _ _ _ ht,List.map_map];rfl
 obtain ⟨C,hC,e2⟩:∃ C,NC C ns/\iS [.d (.list (ns.map fun v=>PyData.tuple [ndD v,.bool true]))] h=some (.c h.length,h++[C]):=by
  cases ns with
  | nil =>
   refine ⟨.k [],fun h L v=>?_,rfl⟩;have e:=qX v;have ek:bU (ndD v)=none:=rfl;unfold xIn;simp [ref,ek,e]
  | cons u r =>
   obtain ⟨en,e,hm⟩:=qY (u::r) [];refine ⟨.n (en.map seD),fun h L v=>?_,?_⟩
   ·have:=qX v;have g:(h++Cell.n (en.map seD)::L)[h.length]?=some (.n (en.map seD)):=by simp
    simp only [xIn,ref,g,aV1,hW,bs];rw [if_pos this,oM];simp [hm v]
   ·unfold iS;simp only [ref];rw [if_pos (by rw [List.length_map];exact hl),show gE ((u::r).map fun v=>PyData.tuple [ndD v,.bool true])=none from rfl,qZ];show some (W.c h.length,h++[Cell.n (gF ((u::r).map seD))])=_;unfold gF;rw [<- e];rfl
 refine ⟨C,hC,?_⟩;rw [qN];simp [aM];rw [e3 _ _ _ (fun _ _ _=>rfl) (fun x _ u=>by simp [szl])];simp only [bds,bs,e2];simp [dG]
theorem oN {g:XG} {tb:XS} {all:List PyData} {F:Nat->PyData} {n:Nat} (I:Nat->DSt->aA->Prop) (E:PyData->aA->Prop)
  (ht:∀ k,k < n->∀ δ h,I k δ h->∃ δ1 h1,g (.d (F k)) δ h=some (δ1,h1)/\((∃ z h2,tb δ1 h1=some (.rt (.d z),h2)/\E z h2)\/∃ δ2 h2,tb δ1 h1=some (.nx δ2,h2)/\I (k+1) δ2 h2)) :
  ∀ (m k:Nat) (δ:DSt) (h:aA),k+m=n->I k δ h->(∃ z h2,aX g tb none all ((List.range' k m).map F) δ h=some (.rt (.d z),h2)/\E z h2)\/∃ δ2 h2,aX g tb none all ((List.range' k m).map F) δ h=some (.nx δ2,h2)/\I n δ2 h2
 | 0,k,δ,h,e,r=>.inr ⟨δ,h,by simp [aX],by rw [<- e];exact r⟩
 | m+1,k,δ,h,e,r=>by
  obtain ⟨δ1,h1,e1,q⟩:=ht k (by omega) δ h r;rw [List.range'_succ,List.map_cons,aX,bS,if_pos rfl,e1];rcases q with ⟨z,h2,e3,x⟩ | ⟨δ2,h2,e3,r2⟩
  ·exact .inl ⟨z,h2,by simp only [bs,e3],x⟩
  ·have ih:=oN (all:=all) I E ht m (k+1) δ2 h2 (by omega) r2;simp only [bs,e3];exact ih
noncomputable def nd0 (ns:List aH) (k:Nat):aH:=ns.getD k ([],[])
def aA5 (ns:List aH):eT (ns.map ndD)=(List.range' 0 ns.length).map fun k=>.tuple [.int k,ndD (nd0 ns k)]:=by
 unfold eT;rw [mE,List.length_map,List.range_eq_range'];refine List.map_congr_left fun k hk=>?_;have hk:k < ns.length:=by simpa using hk
 simp [nd0,List.getD,hk]
def xV {ns:List aH} {k:Nat} (h:k < ns.length):nd0 ns k∈ns:=by
 unfold nd0;rw [List.getD_eq_getElem?_getD,List.getElem?_eq_getElem h];exact List.getElem_mem h
end K26

namespace K26
open PySem PySem.Spec PyProof.Rows L2 DL CI SJ
structure Clo (b:Pb) (ns:List aH):Prop where
 fst:([],b.st)∈ns
 nl:∀ v∈ns,gN b v=false
 cl:∀ v∈ns,∀ q∈beh b v,q.2∈ns
def bT5 {b:Pb} {ns:List aH} (hb:b.ok) (c:Clo b ns) {l:List Nat} (ol:OL b l):bE b l=false:=by
 rw [<- Bool.not_eq_true];intro h;obtain ⟨w,hm⟩:=(aG0 hb ol).mp h;obtain ⟨v,hv,ev⟩:=xP (aT7 b) c.fst c.cl w;have:=c.nl v hv;rw [bD2 ev,hm] at this;simp at this
def pMn (ns:List aH):PyData->Bool
 | .tuple [_,a]=>!((ns.map seD).any fun p=>peq p.1 a)
 | _=>false
def aU0 (ns:List aH) (q:Nat×aH):pMn ns (prD q)=!decide (q.2∈ns):=by
 rw [<- oM];rfl
def mD (b:Pb) (ns:List aH) (v:aH):List PyData:=(((beh b v).map prD).filter (pMn ns)).map aR5
def bT6 {b:Pb} {ns:List aH} {v:aH} (h:mD b ns v=[]):∀ q∈beh b v,q.2∈ns:=fun q hq=>by
 unfold mD at h;rw [List.map_eq_nil_iff,List.filter_eq_nil_iff] at h;have:=h (prD q) (List.mem_map.mpr ⟨q,hq,rfl⟩);rw [aU0] at this
 simpa using this
def dN (j:Nat) (ns:List aH) (x2 x3 x4 x5 x6:Option W):DSt:=[some (.c j),some (.d (.list (ns.map ndD))),x2,x3,x4,x5,x6]
def bH4 {ns:List aH} {v:aH} (h:v∈ns):∃ i,i < ns.length/\nd0 ns i=v:=by
 obtain ⟨i,hi,e⟩:=List.mem_iff_getElem.mp h;exact ⟨i,hi,by unfold nd0;rw [List.getD_eq_getElem?_getD,List.getElem?_eq_getElem hi];exact e⟩
def bE3 (d:Nat) {b:Pb} (hb:b.ok) (h6:b.its.length<=6) {j:Nat} {H:aA} (w:Wd b j H) (hj:j < H.length) {ns:List aH} (hv:∀ v∈ns,NV b v) (hl:ns.length<=1000) :
  ∃ z,aD T (d+8) "nodes_fault" [.c j,.d (.list (ns.map ndD))] H=some (z,H)/\((z=.none/\Clo b ns)\/∃ l,z=.tuple l):=by
 obtain ⟨f1,f2,f3,f4,f5,f6⟩:=uX;obtain ⟨a0,a1,a2,ho,_⟩:=w.ex;have gr:∀ L,Wd b j (H++L):=fun L=>w.grow fun i c _ _ e=>by
  rw [List.getElem?_append_left (List.getElem?_eq_some_iff.mp e).1];exact e
 have lI:(F6 b a0 a1 a2).lookup (Str.ofString "listed")=some (.d (.tuple (b.its.map It.dat))):=by simp [F6,List.lookup]
 have ei:∀ v∈ns,aD T (d+7) (Str.ofString "is_node") [.d (ndD v),.d (.int b.its.length)] H=some (.bool true,H):=fun v h=>aT9 (d+3) H hb.il (hv v h);obtain ⟨C,hC,eM⟩:=aG2 (d+6) H hl;have e1:=sY (d+6) (gr [C]);have i1:=hC H [] ([],b.st);rw [show d+8=(d+7)+1 from rfl,oY];simp [isi,fE,gC];generalize hr:aX _ _ _ _ _ _ _=r;have kk:(∃ z h2,r=some (.rt (.d z),h2)/\False)\/∃ δ2 h2,r=some (.nx δ2,h2)/\h2=H/\∃ x2 x3,δ2=dN j ns x2 x3 none none none:=by
  rw [<- hr,aA5];clear hr;refine oN (fun k δ h=>h=H/\∃ x2 x3,δ=dN j ns x2 x3 none none none) (fun _ _=>False) (fun k hk δ h=>?_) _ 0 _ _ (Nat.zero_add _) ⟨rfl,none,none,rfl⟩;rintro ⟨rfl,x2,x3,rfl⟩;refine ⟨dN j ns (some (.d (.int k))) (some (.d (ndD (nd0 ns k)))) none none none,h,by simp [dN,bV,aH8],.inr ⟨dN j ns (some (.d (.int k))) (some (.d (ndD (nd0 ns k)))) none none none,h,?_,rfl,_,_,rfl⟩⟩;simp [dN,ho,f2,lI,ei _ (xV hk)]
 clear hr;rcases kk with ⟨_,_,_,z⟩ | ⟨δ2,h2,rfl,rfl,x2,x3,rfl⟩
 ·exact z.elim
 by_cases h0:([],b.st)∈ns
 ·rw [decide_eq_true h0] at i1;simp [dN,eM,e1,i1,xC1];generalize hr:aX _ _ _ _ _ _ _=r;have kk:(∃ z h',r=some (.rt (.d z),h')/\h'=h2++[C]/\∃ l,z=.tuple l)\/∃ δ' h',r=some (.nx δ',h')/\h'=h2++[C]/\(∃ x2 x3 x5 x6,δ'=dN j ns x2 x3 (some (.c h2.length)) x5 x6)/\∀ i < ns.length,gN b (nd0 ns i)=false/\∀ q∈beh b (nd0 ns i),q.2∈ns:=by
   rw [<- hr,aA5];clear hr;refine (oN (fun k δ h'=>h'=h2++[C]/\(∃ x2 x3 x5 x6,δ=dN j ns x2 x3 (some (.c h2.length)) x5 x6)/\∀ i < k,gN b (nd0 ns i)=false/\∀ q∈beh b (nd0 ns i),q.2∈ns) (fun z h'=>h'=h2++[C]/\∃ l,z=.tuple l) (fun k hk δ h'=>?_) _ 0 _ _ (Nat.zero_add _) ⟨rfl,⟨_,_,_,_,rfl⟩,fun i hi=>absurd hi (Nat.not_lt_zero _)⟩);rintro ⟨rfl,⟨x2,x3,x5,x6,rfl⟩,hi⟩;have nv:=hv _ (xV hk);have nk:=nv.ok hb h6;have la:=xQ (d+5) (gr [C]) (v:=nd0 ns k) (by have:=nk.l;omega);have nb:=zZ d hb (gr [C]) (by simp;omega) nk;refine ⟨dN j ns (some (.d (.int k))) x3 (some (.c h2.length)) (some (.d (ndD (nd0 ns k)))) x6,h2++[C],by simp [dN,bV,aH8],?_⟩;generalize ev:nd0 ns k=v at nv nk la nb;cases hla:gN b v with
   | true =>
    rw [hla] at la;refine .inl ⟨.tuple [.str (Str.ofString "last"),.int k],h2++[C],?_,rfl,_,rfl⟩;simp [dN,la,szl]
   | false =>
    rw [hla] at la;have cm:∀ (g:XG) (tt:XR Bool) (te:XR W) (all:List PyData),(∀ q∈beh b v,∀ a c,g (.d (prD q)) [a,c,some (.c h2.length)] (h2++[C])=some ([some (.d (.int q.1)),some (.d (ndD q.2)),some (.c h2.length)],h2++[C]))->(∀ q∈beh b v,tt [some (.d (.int q.1)),some (.d (ndD q.2)),some (.c h2.length)] (h2++[C])=some (!decide (q.2∈ns),h2++[C]))->(∀ q∈beh b v,te [some (.d (.int q.1)),some (.d (ndD q.2)),some (.c h2.length)] (h2++[C])=some (.d (.int q.1),h2++[C]))->aN g tt te none all ((beh b v).map prD) [none,none,some (.c h2.length)] (h2++[C]) []=some (mD b ns v,h2++[C]):=fun g tt te all hg htt hte=>by
     rw [dE (pMn ns) aR5 (fun δ=>∃ a c,δ=[a,c,some (.c h2.length)]) _ _ _ ⟨_,_,rfl⟩ (fun z hz δ ⟨a,c,e⟩=>by
      subst e;obtain ⟨q,hq,rfl⟩:=List.mem_map.mp hz;rw [aU0];exact ⟨[some (.d (.int q.1)),some (.d (ndD q.2)),some (.c h2.length)],hg q hq a c,⟨_,_,rfl⟩,htt q hq,fun _=>hte q hq⟩)]
     rfl
    have ct:∀ q:Nat×aH,xIn (.d (ndD q.2)) (.c h2.length) (h2++[C])=some (decide (q.2∈ns)):=fun q=>hC h2 [] q.2;cases hm:mD b ns v with
    | nil =>
     refine .inr ⟨dN j ns (some (.d (.int k))) x3 (some (.c h2.length)) (some (.d (ndD v))) (some (.d (.list []))),h2++[C],?_,rfl,⟨_,_,_,_,rfl⟩,fun i hi'=>?_⟩
     ·simp [dN,la,nb,aU,aM,szl];rw [cm _ _ _ _ (fun q _ a c=>by simp [prD,bV,aH8]) (fun q _=>by simp [xC1,ct]) (fun q _=>by simp),hm];simp
     ·rcases Nat.lt_succ_iff_lt_or_eq.mp hi' with q | q
      ·exact hi i q
      ·rw [q,ev];exact ⟨hla,bT6 hm⟩
    | cons a r =>
     refine .inl ⟨.tuple [.str (Str.ofString "next"),.int k,a],h2++[C],?_,rfl,_,rfl⟩;simp [dN,la,nb,aU,aM,szl];rw [cm _ _ _ _ (fun q _ a c=>by simp [prD,bV,aH8]) (fun q _=>by simp [xC1,ct]) (fun q _=>by simp),hm];simp
  clear hr;rcases kk with ⟨z,h',rfl,rfl,hz⟩ | ⟨δ',h',rfl,rfl,⟨x2,x3,x5,x6,rfl⟩,hi⟩
  ·exact ⟨z,by simp,.inr hz⟩
  ·refine ⟨.none,by simp,.inl ⟨rfl,h0,fun v hv'=>?_,fun v hv'=>?_⟩⟩
   ·obtain ⟨i,hi',rfl⟩:=bH4 hv';exact (hi i hi').1
   ·obtain ⟨i,hi',rfl⟩:=bH4 hv';exact (hi i hi').2
 ·rw [decide_eq_false h0] at i1;refine ⟨.tuple [.str (Str.ofString "first")],?_,.inr ⟨_,rfl⟩⟩;simp [dN,eM,e1,i1,xC1,szl]
end K26

namespace K26
open PySem PySem.Spec PyProof.Rows L2 DL CI SJ
theorem aU1 {h H:aA} (sm:∀ i,i < h.length->H[i]?=h[i]?):okP h H:=fun i c hi e=>.inr (by rw [<- sm i hi];exact e)
theorem aU2 {h H:aA} (sm:∀ i,i < h.length->H[i]?=h[i]?) (hl:h.length<=H.length):H.take h.length=h:=List.ext_getElem? fun i=>by
 by_cases hi:i < h.length
 ·rw [List.getElem?_take_of_lt hi];exact sm i hi
 ·rw [List.getElem?_eq_none (by simp;omega),List.getElem?_eq_none (by omega)]
theorem aU3 {h H:aA} (sm:∀ i,i < h.length->H[i]?=h[i]?) (hl:h.length<=H.length) (L:aA):∀ i,i < h.length->(H++L)[i]?=h[i]?:=fun i hi=>by
 rw [List.getElem?_append_left (by omega)];exact sm i hi
def aU4 (d:Nat) (h:aA) {b:Pb} (hb:b.ok) (h6:b.its.length<=6) {ns:List aH} (hv:∀ v∈ns,NV b v) (hl:ns.length<=1000) :
  ∃ z,aD T (d+15) "stands_fault" [.d b.dat,.d (.list (ns.map ndD))] h=some (z,h)/\((z=.none/\Clo b ns)\/∃ l,z=.tuple l):=by
 obtain ⟨H,e,w,hH,sm⟩:=sV d h hb;have hz:0 < wdZ b:=by unfold wdZ;omega
 obtain ⟨z,e2,k⟩:=bE3 (d+6) hb h6 w (by omega) hv hl;refine ⟨z,?_,k⟩;have ok:=aU1 sm;have tk:=aU2 sm (by omega);rw [show d+15=(d+14)+1 from rfl,nP];simp [e,e2,ok,tk]
def aG3 (d:Nat) (h:aA) {b:Pb} (hb:b.ok) {pl:List Nat} (hl:pl.length<=1000):aD T (d+15) "may_come" [.d b.dat,.d (.tuple (pl.map nI))] h=some (.list ((dD b pl).map nI),h):=by
 obtain ⟨H,e,w,hH,sm⟩:=sV d h hb;have hz:0 < wdZ b:=by unfold wdZ;omega
 have e1:=oJ (d+13) H hl;have gr:Wd b h.length (H++[dcB (mkd pl [])]):=w.grow fun i c _ _ e=>by
  rw [List.getElem?_append_left (List.getElem?_eq_some_iff.mp e).1];exact e
 have e2:=bH2 (d+12) hb.il gr (bH1 H [] pl);have ok:=aU1 (aU3 sm (by omega) [dcB (mkd pl [])]);have tk:=aU2 (aU3 sm (by omega) [dcB (mkd pl [])]) (by simp;omega);obtain ⟨a0,a1,a2,ho,_⟩:=w.ex;have l1:(F6 b a0 a1 a2).lookup (Str.ofString "followers")=none:=by simp [F6,List.lookup]
 rw [show d+15=(d+14)+1 from rfl,wW];simp [e,ho,l1,e1,e2,ok,tk]
def cG1 (d:Nat) (h:aA) {b:Pb} (hb:b.ok) {st:List Int} (hs:st.length=8) {x:Nat} (hx:x < b.its.length):aD T (d+15) "behind" [.d b.dat,.d (.tuple (st.map .int)),.d (.int x)] h=some (bh st (b.its.getD x dfI),h):=by
 obtain ⟨H,e,w,hH,sm⟩:=sV d h hb;have hz:0 < wdZ b:=by unfold wdZ;omega
 obtain ⟨a0,a1,a2,ho,_⟩:=w.ex;have l2:(F6 b a0 a1 a2).lookup (Str.ofString "stand_behind")=none:=by simp [F6,List.lookup]
 have lI:(F6 b a0 a1 a2).lookup (Str.ofString "listed")=some (.d (.tuple (b.its.map It.dat))):=by simp [F6,List.lookup]
 have ey:b.its[x]?=some (b.its.getD x dfI):=mH hx;have hy:(b.its.getD x dfI).ok:=hb.its _ (by rw [List.getD_eq_getElem?_getD,List.getElem?_eq_getElem hx];exact List.getElem_mem hx);have sb:=cE4 (d+8) H ey hy hs ho lI;have ok:=aU1 sm;have tk:=aU2 sm (by omega);rw [show d+15=(d+14)+1 from rfl,aP2];simp [e,ho,l2,sb,ok,tk]
end K26

namespace K26
open PySem PySem.Spec PyProof.Rows L2 DL CI SJ
structure NL (b:Pb) (m:Nat) (ns:List aH):Prop where
 ne:ns≠[]
 nv:∀ v∈ns,NV b v
 ln:ns.length<=m
def dC (b:Pb) (i j:Nat) (x3 x4 x5 x6 x7:Option W):DSt:=[some (.d b.dat),some (.c i),some (.c j),x3,x4,x5,x6,x7]
def nv0 {b:Pb} (hb:b.ok):NV b ([],b.st):=⟨List.Pairwise.nil,(fun x hx=>nomatch hx),hb.st⟩
def CmR (b:Pb) (h:aA) (i:Nat) (x:Option (W×aA)):Prop:=∃ (s':S3) (n1 ns:List aH),NL b 400 ns/\x=some (.c (h.length+1),(h++[Cell.l (n1.map ndD),Cell.l (ns.map ndD)]).set i (stL s'))
def bT7 {xs:List PyData} (h:xs.length<=400):cut xs none (some 400)=xs:=by
 unfold cut;rw [HT.sIx_none,show (some (400:Int))=some ((400:Nat):Int) from rfl,HT.sIx_nat,Nat.min_eq_right h,List.drop_zero,Nat.sub_zero,List.take_length]
def bT8 (d:Nat) (h:aA) {b:Pb} (hb:b.ok) (h6:b.its.length<=6) {i:Nat} {c:Cell} {s:S3} (hc:Stf c s) (hi:i < h.length) :
  CmR b h i (callW T (d+16) "_law_come" [.d b.dat,.c i] (h.set i c)):=by
 have e30:aT 30=true:=by decide
 have e6:aT 6=true:=by decide
 obtain ⟨k,ek,hk⟩:=aV s (b:=30) (by decide);have er:fB 0 (k:Int)=true:=bJ (by omega) (by omega);have sa:∀ (c:Cell) (L:aA),h.set i c++L=(h++L).set i c:=fun c L=>cL hi;have dg:=bT (d+14) (h++[Cell.l [.tuple [.tuple [],.tuple (b.st.map .int)]]]) hc 30 (gi hi _) (by decide) e30;have eD:b.dat=.tuple [.tuple (b.st.map .int),.tuple (b.its.map It.dat),.tuple (b.ps.map p2),.tuple (b.ts.map p3)]:=rfl;have ix0:∀ H,xIx (.d b.dat) (.d (.int 0)) H=some (.d (.tuple (b.st.map .int)),H):=fun H=>by rw [eD];rfl
 rw [show d+16=(d+15)+1 from rfl,sJ];simp [aS,szl,sa,ix0,dg,ek,er];generalize hr:aX _ _ _ _ _ _ _=r;have kk:∃ δ' h',r=some (.nx δ',h')/\∃ (x3 x4 x5 x6 x7:Option W) (ns:List aH) (s':S3),δ'=dC b i h.length x3 x4 x5 x6 x7/\h'=(h++[Cell.l (ns.map ndD)]).set i (stL s')/\NL b (1+6*k) ns:=by
  rw [<- hr];clear hr;refine bX (fun m δ' h'=>∃ (x3 x4 x5 x6 x7:Option W) (ns:List aH) (s':S3),δ'=dC b i h.length x3 x4 x5 x6 x7/\h'=(h++[Cell.l (ns.map ndD)]).set i (stL s')/\NL b (1+6*m) ns) ⟨none,none,none,none,none,[([],b.st)],_,rfl,rfl,by simp,fun v hv=>by rw [List.mem_singleton.mp hv];exact nv0 hb,by simp⟩ (fun δ h'=>?_) ?_
  ·rw [CI.rng_len];exact id
  ·rintro m hm δ h' ⟨x3,x4,x5,x6,x7,ns,t,rfl,rfl,nl⟩;have hm':m < k:=by simpa [rng] using hm
   have n0:0 < ns.length:=List.length_pos_iff.mpr nl.ne;have n1:=nl.ln;obtain ⟨x,ex,hx⟩:=aV t (b:=ns.length) (by omega);have hx':x < ns.length:=by omega
   have dn:aT (ns.length:Int)=true:=cI (by omega) (by omega);have d1:=cD (d+14) (h++[Cell.l (ns.map ndD)]) t ns.length (gi hi _) (by omega) dn;have lK:aZ [.c h.length] ((h++[Cell.l (ns.map ndD)]).set i (stL t))=some (.d (.int ns.length),(h++[Cell.l (ns.map ndD)]).set i (stL t)):=by
    simp only [aZ,ref,gl hi,List.length_map]
   have ix:xIx (.c h.length) (.d (.int x)) ((h++[Cell.l (ns.map ndD)]).set i (stL (digS t ns.length)))=some (.d (ndD (nd0 ns x)),(h++[Cell.l (ns.map ndD)]).set i (stL (digS t ns.length))):=by
    unfold xIx;simp only [ref,gl hi];unfold atI;rw [ix_nat (by simpa using hx')];simp [nd0,List.getD,hx']
   have nv:=nl.nv _ (xV hx');have nk:=nv.ok hb h6;generalize nd0 ns x=v at ix nv nk;have mc:=aG3 d ((h++[Cell.l (ns.map ndD)]).set i (stL (digS t ns.length))) hb (pl:=v.1) (by have:=nk.l;omega);refine ⟨dC b i h.length (some (.d (rng 0 k)[m])) x4 x5 x6 x7,_,rfl,?_⟩;simp [dC,lK,d1,ex,ix,ndD,bV,aH8,mc,aU];clear mc ix d1 lK;generalize digS t ns.length=t;generalize hr:aX _ _ _ _ _ _ _=r;have kk:∃ δ' h',r=some (.nx δ',h')/\∃ (x6 x7:Option W) (n2:List aH) (s':S3),δ'=dC b i h.length (some (.d (rng 0 k)[m])) (some (.d (.tuple (v.1.map nI)))) (some (.d (.tuple (v.2.map .int)))) x6 x7/\h'=(h++[Cell.l (n2.map ndD)]).set i (stL s')/\NL b (ns.length+(dD b v.1).length) n2:=by
    rw [<- hr];clear hr;refine bX (fun q δ' h'=>∃ (x6 x7:Option W) (n2:List aH) (s':S3),δ'=dC b i h.length (some (.d (rng 0 k)[m])) (some (.d (.tuple (v.1.map nI)))) (some (.d (.tuple (v.2.map .int)))) x6 x7/\h'=(h++[Cell.l (n2.map ndD)]).set i (stL s')/\NL b (ns.length+q) n2) ⟨_,_,ns,_,rfl,rfl,nl.ne,nl.nv,Nat.le_refl _⟩ (fun δ h'=>?_) ?_
    ·rw [List.length_map];exact id
    ·rintro q hq δ h' ⟨x6,x7,n2,t2,rfl,rfl,l2⟩;have hq':q < (dD b v.1).length:=by simpa using hq
     obtain ⟨y,ey⟩:∃ y,(dD b v.1)[q]=y:=⟨_,rfl⟩;have eyy:((dD b v.1).map nI)[q]=nI y:=by rw [List.getElem_map,ey]
     rw [eyy];have hy:=List.getElem_mem hq';rw [ey] at hy;have hyl:y < b.its.length:=List.mem_range.mp (List.mem_filter.mp hy).1;have fl:(dD b v.1).length<=b.its.length:=by
      unfold dD;exact Nat.le_trans (List.length_filter_le _ _) (by simp)
     have n3:=l2.ln;have al:n2.length < 16777216:=by omega
     have bd':=cG1 d ((h++[Cell.l (n2.map ndD)]).set i (stL t2)) hb nv.s hyl;refine ⟨dC b i h.length (some (.d (rng 0 k)[m])) (some (.d (.tuple (v.1.map nI)))) (some (.d (.tuple (v.2.map .int)))) (some (.d (nI y))) x7,_,rfl,?_⟩;have d2:=cD (d+14) (h++[Cell.l (n2.map ndD)]) t2 6 (gi hi _) (by decide) e6;obtain ⟨z,ez,hz⟩:=aV t2 (b:=6) (by decide);cases q':bhO v.2 (b.its.getD y dfI) with
     | none =>
      rw [cF4 q'] at bd';exact ⟨dC b i h.length (some (.d (rng 0 k)[m])) (some (.d (.tuple (v.1.map nI)))) (some (.d (.tuple (v.2.map .int)))) (some (.d (nI y))) (some (.d .none)),(h++[Cell.l (n2.map ndD)]).set i (stL t2),by simp [dC,nI,bd'],_,_,n2,_,rfl,rfl,l2.ne,l2.nv,by omega⟩
     | some st =>
      rw [cF3 q'] at bd'
      by_cases z0:z=0
      ·subst z0;exact ⟨dC b i h.length (some (.d (rng 0 k)[m])) (some (.d (.tuple (v.1.map nI)))) (some (.d (.tuple (v.2.map .int)))) (some (.d (nI y))) (some (.d (.tuple (st.map .int)))),(h++[Cell.l (n2.map ndD)]).set i (stL (digS t2 6)),by simp [dC,nI,bd',d2,ez],_,_,n2,_,rfl,rfl,l2.ne,l2.nv,by omega⟩
      ·have z1:(0:Int) < z:=by omega
       have z2:0 < z:=by omega
       have xs:=bH3 (l:=v.1++[y]) (by have:=nk.l;simp;omega) ((h++[Cell.l (n2.map ndD)]).set i (stL (digS t2 6)));rw [List.map_append] at xs;have xs:rF [.d (.tuple (v.1.map nI++[.int y]))] ((h++[Cell.l (n2.map ndD)]).set i (stL (digS t2 6)))=some ((cE (v.1++[y])).map nI,(h++[Cell.l (n2.map ndD)]).set i (stL (digS t2 6))):=xs;have xa:∀ H',fM .Add (.d (.tuple (v.1.map nI))) (.d (.tuple [.int y])) H'=some (.d (.tuple (v.1.map nI++[.int y])),H'):=fun H'=>by
        have:=nk.l;have hz:v.1.length+1<=16777216:=by omega
        simp [fM,aV0,ref,szl,hz]
       have hbq:(y,(cE (v.1++[y]),st))∈beh b v:=List.mem_filterMap.mpr ⟨y,hy,by unfold behO;rw [q'];rfl⟩;have nvq:NV b (cE (v.1++[y]),st):=nv.next hbq (aS7 (hb.its _ (by rw [List.getD_eq_getElem?_getD,List.getElem?_eq_getElem hyl];exact List.getElem_mem hyl)) nv.s q');refine ⟨dC b i h.length (some (.d (rng 0 k)[m])) (some (.d (.tuple (v.1.map nI)))) (some (.d (.tuple (v.2.map .int)))) (some (.d (nI y))) (some (.d (.tuple (st.map .int)))),(h++[Cell.l ((n2++[(cE (v.1++[y]),st)]).map ndD)]).set i (stL (digS t2 6)),?_,_,_,n2++[(cE (v.1++[y]),st)],_,rfl,rfl,by simp,fun u hu=>?_,by simp;omega⟩
       ·simp [dC,nI,bd',d2,ez,z1,z2,xa,xs,aM,szl,gl hi,gl2 hi,gm hi,gs hi,al,ndD]
       ·rcases List.mem_append.mp hu with u' | u'
        ·exact l2.nv u u'
        ·rw [List.mem_singleton.mp u'];exact nvq
   clear hr;obtain ⟨δ',h',rfl,x6,x7,n2,s',rfl,rfl,l2⟩:=kk;have fl:(dD b v.1).length<=b.its.length:=by
    unfold dD;exact Nat.le_trans (List.length_filter_le _ _) (by simp)
   have n3:=l2.ln;exact ⟨_,_,rfl,⟨_,_,_,_,_,rfl⟩,n2,⟨s'.1,s'.2.1,s'.2.2,rfl⟩,l2.ne,l2.nv,by omega⟩
 clear hr;obtain ⟨δ',h',rfl,x3,x4,x5,x6,x7,ns,s',rfl,rfl,nl⟩:=kk;have n3:=nl.ln;have ct:=bT7 (xs:=ns.map ndD) (by rw [List.length_map];omega);refine ⟨s',ns,ns,⟨nl.ne,nl.nv,by omega⟩,?_⟩;have gz:∀ (L:aA),((h++[Cell.l (ns.map ndD)]).set i (stL s'))++L=(h++[Cell.l (ns.map ndD)]++L).set i (stL s'):=fun L=>cL (gi hi _);simp [dC,gl hi,gl2 hi,ref,ct,gz,dG]
end K26

namespace K26
open PySem PySem.Spec PyProof.Rows L2 DL CI SJ
def aU5 (d:Nat) {b:Pb} (hb:b.ok) (h6:b.its.length<=6) {h:aA} {ts:List (Pos×Str)} (ht:h[0]?=some (.t ts)) (hts:fU ts) :
  ∃ z ts',cG0 b z/\fU ts'/\aD T (d+15) "search" [.d b.dat,.d (.int 5000)] h=some (z,h.set 0 (.t ts')):=by
 obtain ⟨H,e,w,hl,sm⟩:=sV d h hb;have h0:0 < h.length:=(List.getElem?_eq_some_iff.mp ht).1;obtain ⟨z,ts',t,o,e2⟩:=xU (d+5) hb h6 w h0 (by omega) (ts:=ts) (by rw [sm 0 h0];exact ht) hts;refine ⟨z,ts',t,o,?_⟩;have hz:0 < wdZ b:=by unfold wdZ;omega
 have ok:okP h (H.set 0 (.t ts')):=fun i c hi e'=>by
  by_cases q:i=0
  ·subst q;rw [List.getElem?_set_self (by omega)] at e';cases e';exact .inl fun j hj=>by simp [cRefs] at hj
  ·rw [List.getElem?_set_ne (Ne.symm q),sm i hi] at e';exact .inr e'
 have tk:(H.set 0 (.t ts')).take h.length=h.set 0 (.t ts'):=by
  apply List.ext_getElem?;intro i
  by_cases hi:i < h.length
  ·rw [List.getElem?_take_of_lt hi]
   by_cases q:i=0
   ·subst q;rw [List.getElem?_set_self (by omega),List.getElem?_set_self h0]
   ·rw [List.getElem?_set_ne (Ne.symm q),List.getElem?_set_ne (Ne.symm q)];exact sm i hi
  ·rw [List.getElem?_eq_none (by simp;omega),List.getElem?_eq_none (by simp;omega)]
 have e2:aD T (d+14) (Str.ofString "searched") [.c h.length,.d (.int 5000)] H=some (z,H.set 0 (.t ts')):=e2;rw [show d+15=(d+14)+1 from rfl,aP3];simp [e,e2,ok,tk]
def cS9:∀ n,n<=5->aG1 n n<=326:=by decide
def cT0 {b:Pb} (h5:b.its.length<=5) {sn:List aH} (nd:sn.Nodup) (h:∀ v∈sn,∃ l,Way b l/\bQ b l=some v):sn.length<=326:=by
 have h1:=kQ (r:=(sW b.its.length (List.range b.its.length)).filterMap (bQ b)) nd fun v hv=>by
  obtain ⟨l,w,e⟩:=h v hv;refine List.mem_filterMap.mpr ⟨l,oI w.ol.nd (fun x hx=>List.mem_range.mpr (w.ol.ok x hx)) (iL w.ol.nd w.ol.ok),e⟩
 have h2:=List.length_filterMap_le (bQ b) (sW b.its.length (List.range b.its.length));rw [oH,List.length_range] at h2;have:=cS9 _ h5;omega
def bE4 {b:Pb} (hb:b.ok) (h5:b.its.length<=5) {sn:List aH} (nd:sn.Nodup) (ne:sn≠[]) (h:∀ v∈sn,∃ l,Way b l/\bQ b l=some v):NL b 400 sn:=⟨ne,fun v hv=>by
 obtain ⟨l,w,e⟩:=h v hv;exact bT4 w e (xS hb (by omega) w e).s,by have:=cT0 h5 nd h;omega⟩
def dgL (d:Nat) (H1 L:aA) (s:S3) {n:Int} (hn:0 < n) (hd:aT n=true):aD T (d+1) (Str.ofString "_law_digit") [.c H1.length,.d (.int n)] (H1++stL s::L)=some (.int (aK s n),H1++stL (digS s n)::L):=by
 have:=cD d (H1++Cell.l []::L) (i:=H1.length) s n (by simp) hn hd
 simpa using this
theorem aU6:∀ (ns:List aH) (m:Nat),plainsB (m+3) (ns.map ndD)=true
 | [],m=>by simp
 | v::r,m=>by
  rw [List.map_cons,plainsB,aU6 r m];have h1:aI (m+1+1) (.tuple (v.1.map nI))=true:=qV v.1 _;have h2:aI (m+1+1) (.tuple (v.2.map .int))=true:=jO v.2 _;show (aI (m+3) (.tuple [.tuple (v.1.map nI),.tuple (v.2.map .int)])&&true)=true;rw [Bool.and_true];show plainsB (m+2) [.tuple (v.1.map nI),.tuple (v.2.map .int)]=true;simp [plainsB,h1,h2]
end K26

namespace K26
open PySem PySem.Spec PyProof.Rows L2 DL CI SJ
def RLs (b:Pb) (h:aA) (x:Option (Fl×aA)):Prop:=∃ (m:Nat) (ts:List (Pos×Str)) (ns:List aH) (L:aA),x=some (.rt (.c m),h.set 0 (.t ts)++L)/\(h.set 0 (.t ts)++L)[m]?=some (.l (ns.map ndD))/\h.length<=m/\fU ts/\(∀ v∈ns,NV b v)/\ns.length<=401
def erL {b:Pb} {h:aA} {x:Option (Fl×aA)} {f:DSt->Fl×aA->Option (Fl×aA)} (δ:DSt) (H:aA) (e:x=some (.nx δ,H)) (k:RLs b h (f δ (.nx δ,H))):RLs b h (YP x (YQ f)):=by
 rw [e];exact k
def erE {b:Pb} {h:aA} {x:Option (Fl×aA)} {f:DSt->Fl×aA->Option (Fl×aA)} (P:DSt->aA->Prop) (e:∃ δ H,x=some (.nx δ,H)/\P δ H) (k:∀ δ H,P δ H->RLs b h (f δ (.nx δ,H))):RLs b h (YP x (YQ f)):=by
 obtain ⟨δ,H,e,p⟩:=e;rw [e];exact k δ H p
def cT1 {b:Pb} {h:aA} {x:Option (Fl×aA)} (e:RLs b h x):∃ (ts:List (Pos×Str)) (ns:List aH),fU ts/\(∀ v∈ns,NV b v)/\ns.length<=401/\x.bind (aO h)=some (.list (ns.map ndD),h.set 0 (.t ts)):=by
 obtain ⟨m,ts,ns,L,rfl,g,hm,o,nv,ln⟩:=e;refine ⟨ts,ns,o,nv,ln,?_⟩;have ok:okP h (h.set 0 (.t ts)++L):=fun i c hi e'=>by
  rw [List.getElem?_append_left (by simpa using hi)] at e'
  by_cases q:i=0
  ·subst q;rw [List.getElem?_set_self hi] at e';cases e';exact .inl fun j hj=>by simp [cRefs] at hj
  ·rw [List.getElem?_set_ne (Ne.symm q)] at e';exact .inr e'
 show aO h _=_;unfold aO;rw [if_pos ok];dsimp only;rw [g];dsimp only;rw [if_pos hm,List.take_left' (by simp)]
structure LP (b:Pb) (H1:aA) (m:Nat) (ns:List aH) (H:aA):Prop where
 ex:∃ s L,H=H1++stL s::L
 at_:H[m]?=some (.l (ns.map ndD))
 lt:H1.length < m
 nv:∀ v∈ns,NV b v
def LP.dig {b:Pb} {H1 H:aA} {m:Nat} {ns:List aH} (p:LP b H1 m ns H) (d:Nat) {n:Int} (hn:0 < n) (hd:aT n=true):∃ (z:Nat) (H':aA),(z:Int) < n/\LP b H1 m ns H'/\aD T (d+1) (Str.ofString "_law_digit") [.c H1.length,.d (.int n)] H=some (.int z,H'):=by
 obtain ⟨s,L,rfl⟩:=p.ex;obtain ⟨z,ez,hz⟩:=aV s hn;refine ⟨z,H1++stL (digS s n)::L,hz,⟨⟨_,_,rfl⟩,?_,p.lt,p.nv⟩,by rw [dgL d H1 L s hn hd,ez]⟩;have a:=p.at_;have l:=p.lt;rw [List.getElem?_append_right (by omega)] at a ⊢;obtain ⟨k,hk⟩:∃ k,m - H1.length=k+1:=⟨m - H1.length - 1,by omega⟩;rw [hk] at a ⊢;exact a
def LP.new {b:Pb} {H1 H:aA} {m:Nat} {ns n2:List aH} (p:LP b H1 m ns H) (nv:∀ v∈n2,NV b v):LP b H1 H.length n2 (H++[.l (n2.map ndD)]):=by
 obtain ⟨s,L,rfl⟩:=p.ex;exact ⟨⟨s,L++[.l (n2.map ndD)],by simp⟩,by simp,by simp,nv⟩
def LP.put {b:Pb} {H1 H:aA} {m:Nat} {ns n2:List aH} (p:LP b H1 m ns H) (nv:∀ v∈n2,NV b v):LP b H1 m n2 (H.set m (.l (n2.map ndD))):=by
 have ml:=(List.getElem?_eq_some_iff.mp p.at_).1;obtain ⟨s,L,rfl⟩:=p.ex;have l:=p.lt;refine ⟨⟨s,L.set (m - H1.length - 1) (.l (n2.map ndD)),?_⟩,by rw [List.getElem?_set_self ml],l,nv⟩;rw [List.set_append_right _ _ (by omega)];obtain ⟨k,hk⟩:∃ k,m - H1.length=k+1:=⟨m - H1.length - 1,by omega⟩;rw [hk];rfl
def dL (b:Pb) (x:Int) (i:Nat) (x3 x4 x5:Option W):DSt:=[some (.d b.dat),some (.d (.int x)),some (.c i),x3,x4,x5]
def bE5 {α:Type} (f:α->PyData) (ns:List α) {k:Nat} (hk:k<=ns.length):cut (ns.map f) none (some (k:Int))=(ns.take k).map f:=by
 unfold cut;rw [HT.sIx_none,HT.sIx_nat,List.length_map,Nat.min_eq_left hk,List.drop_zero,Nat.sub_zero,List.map_take]
def aU7 {α:Type} (f:α->PyData) (ns:List α) {k:Nat} (hk:k < ns.length):cut (ns.map f) (some ((k:Int)+1)) none=(ns.drop (k+1)).map f:=by
 unfold cut;rw [HT.sIx_none,show ((k:Int)+1)=((k+1:Nat):Int) from rfl,HT.sIx_nat,List.length_map,Nat.min_eq_left (by omega),List.map_drop,List.take_of_length_le (by simp)]
def bT9 (d:Nat) {b:Pb} (hb:b.ok) (h5:b.its.length<=5) {h:aA} {ts:List (Pos×Str)} (ht:h[0]?=some (.t ts)) (hts:fU ts) (x:Int) :
  ∃ (ts':List (Pos×Str)) (ns:List aH),fU ts'/\(∀ v∈ns,NV b v)/\ns.length<=401/\aD T (d+17) "_law_list" [.d b.dat,.d (.int x)] h=some (.list (ns.map ndD),h.set 0 (.t ts')):=by
 have h0:0 < h.length:=(List.getElem?_eq_some_iff.mp ht).1;obtain ⟨z,ts1,t,o,e1⟩:=aU5 (d+1) hb (by omega) (h:=h++[.l [.int x]]) (ts:=ts) (by rw [List.getElem?_append_left h0];exact ht) hts;rw [List.set_append_left _ _ h0] at e1;have e1:aD T (d+16) (Str.ofString "search") [.d b.dat,.d (.int 5000)] (h++[.l [.int x]])=some (z,h.set 0 (.t ts1)++[.l [.int x]]):=e1;have hl:h.length=(h.set 0 (.t ts1)).length:=by simp
 rw [show d+17=(d+16)+1 from rfl,uK];refine cT1 ?_;generalize hH:h.set 0 (.t ts1)=H1 at e1 hl;obtain ⟨s1,n1,ns,nl,e2⟩:=bT8 d (H1++[.l [.int x]]) hb (by omega) (i:=H1.length) (c:=.l [.int x]) (s:=st0 x) (.inr ⟨_,rfl,rfl⟩) (by simp);have e2:callW T (d+16) (Str.ofString "_law_come") [.d b.dat,.c H1.length] (H1++[.l [.int x]])=some (.c (H1.length+2),H1++[stL s1,.l (n1.map ndD),.l (ns.map ndD)]):=by simpa using e2
 have e2':aT 2=true:=by decide
 have e3':aT 3=true:=by decide
 have p0:LP b H1 (H1.length+2) ns (H1++[stL s1,.l (n1.map ndD),.l (ns.map ndD)]):=⟨⟨_,_,rfl⟩,by simp,by omega,nl.nv⟩;have ix0:∀ H,xIx (.d b.dat) (.d (.int 0)) H=some (.d (.tuple (b.st.map .int)),H):=fun H=>rfl;refine erL (dL b x H1.length none none none) (h++[.l [.int x]]) (by simp [dL,aS,szl,hl]) ?_;refine erL (dL b x H1.length (some (.d z)) none none) (H1++[.l [.int x]]) (by simp [dL,e1]) ?_;refine erL (dL b x H1.length (some (.d z)) (some (.c (H1.length+2))) none) (H1++[stL s1,.l (n1.map ndD),.l (ns.map ndD)]) (by simp [dL,e2]) ?_;generalize H1++[stL s1,.l (n1.map ndD),.l (ns.map ndD)]=H at p0;generalize H1.length+2=m at p0;refine erE (fun δ H=>∃ m ns,δ=dL b x H1.length (some (.d z)) (some (.c m)) none/\LP b H1 m ns H/\NL b 400 ns) ?_ ?_
 ·rcases t with ⟨l,rfl⟩ | ⟨sn,rfl,nd,ne,wy⟩
  ·exact ⟨_,_,by simp [dL,vH,PyData.eqv],_,_,rfl,p0,nl⟩
  ·obtain ⟨q,H',hq,p1,eq⟩:=p0.dig (d+15) (n:=3) (by decide) e3'
   by_cases q0:q=0
   ·subst q0;exact ⟨_,_,by simp [dL,stD,PyData.eqv,eq],_,_,rfl,p1,nl⟩
   ·have q1:0 < q:=by omega
    have tl:=bE4 hb h5 nd ne wy;exact ⟨_,_,by simp [dL,stD,PyData.eqv,eq,q1,aS,szl,ref],_,_,rfl,p1.new tl.nv,tl⟩
 rintro _ H ⟨m,ns,rfl,p,nl⟩;have n0:0 < ns.length:=List.length_pos_iff.mpr nl.ne;have n4:=nl.ln;have lK:∀ {H},LP b H1 m ns H->aZ [.c m] H=some (.d (.int ns.length),H):=fun {H} p=>by simp only [aZ,ref,p.at_,List.length_map]
 refine erE (fun δ H=>∃ y:Nat,δ=dL b x H1.length (some (.d z)) (some (.c m)) (some (.d (.int y)))/\LP b H1 m ns H/\y < ns.length) ?_ ?_
 ·obtain ⟨q,H',hq,p1,eq⟩:=p.dig (d+15) (n:=ns.length) (by omega) (cI (by omega) (by omega));exact ⟨_,H',by simp [dL,lK p,eq],q,rfl,p1,by omega⟩
 clear p;rintro _ H ⟨y,rfl,p,hy⟩;refine erE (fun δ H=>∃ (m:Nat) (ns:List aH),δ=dL b x H1.length (some (.d z)) (some (.c m)) (some (.d (.int y)))/\LP b H1 m ns H/\ns.length<=400) ?_ ?_
 ·obtain ⟨q,H',hq,p1,eq⟩:=p.dig (d+15) (n:=2) (by decide) e2'
  by_cases q0:q=0
  ·subst q0;have c1:=bE5 ndD ns (k:=y) (by omega);have c2:=aU7 ndD ns hy;have nv:∀ v∈ns.take y++ns.drop (y+1),NV b v:=fun v hv=>(List.mem_append.mp hv).elim (fun z=>p1.nv v (List.mem_of_mem_take z)) fun z=>p1.nv v (List.mem_of_mem_drop z);have g:=p1.at_;have sz:∀ k l:Nat,k<=ns.length->l<=ns.length->k+l<=16777216:=fun k l h1 h2=>by omega
   refine ⟨dL b x H1.length (some (.d z)) (some (.c H'.length)) (some (.d (.int y))),H'++[.l ((ns.take y++ns.drop (y+1)).map ndD)],?_,_,_,rfl,p1.new nv,by simp;omega⟩;have s1:xSl (.c m) none (some y) H'=some (.d (.list ((ns.take y).map ndD)),H'):=by
    unfold xSl;simp only [ref,g,c1]
   have s2:xSl (.c m) (some ((y:Int)+1)) none H'=some (.d (.list ((ns.drop (y+1)).map ndD)),H'):=by
    unfold xSl;simp only [ref,g,c2]
   have sz':min y ns.length+(ns.length - (y+1))<=16777216:=by omega
   simp [dL,eq,aS,ref,s1,s2,szl,sz']
  ·have q1:0 < q:=by omega
   exact ⟨_,H',by simp [dL,eq,q0],m,ns,rfl,p1,n4⟩
 clear p n0 n4 lK nl hy;rintro _ H ⟨m,ns,rfl,p,ln⟩;refine erE (fun δ H=>∃ ns:List aH,δ=dL b x H1.length (some (.d z)) (some (.c m)) (some (.d (.int y)))/\LP b H1 m ns H/\ns.length<=401) ?_ ?_
 ·obtain ⟨q,H',hq,p1,eq⟩:=p.dig (d+15) (n:=3) (by decide) e3';have g:=p1.at_;have ee:xEq (.c m) (.d (.list [])) H'=some (decide (ns=[])):=by
   have p1:aI 64 (.list (ns.map ndD))=true:=aU6 ns 60;have p2:aI 64 (.list [])=true:=rfl;have e:PyData.eqv (.list (ns.map ndD)) (.list [])=decide (ns=[]):=by
    cases ns with
    | nil=>simp [PyData.eqv,PyData.eqvAll]
    | cons a r=>simp [PyData.eqv,PyData.eqvAll]
   unfold xEq;simp only [ref,g];rw [p1,p2,e];rfl
  by_cases q0:q=0
  ·subst q0;rcases List.eq_nil_or_concat ns with rfl | ⟨r,v,rfl⟩
   ·exact ⟨_,H',by simp [dL,eq,xC1,ee,aM,szl],[],rfl,p1,by simp⟩
   ·rw [List.concat_eq_append] at *;have nvv:=p1.nv v (by simp);have n2:∀ u∈(r++[v])++[(v.1,b.st)],NV b u:=fun u hu=>by
     rcases List.mem_append.mp hu with z | z
     ·exact p1.nv u z
     ·rw [List.mem_singleton.mp z];exact ⟨nvv.up,nvv.lt,hb.st⟩
    have il:xIx (.c m) (.d (.int (-1))) H'=some (.d (ndD v),H'):=by
     unfold xIx;simp only [ref,g];rw [List.map_append,List.map_cons,List.map_nil,aQ6];rfl
    have m1:eP (Str.ofString "append") (.c m) H'=true:=by simp [eP,g]
    have al:((r++[v]).map ndD).length < 16777216:=by rw [List.length_map];omega
    have a1:rG (.c m) [.d (.tuple [.tuple (v.1.map nI),.tuple (b.st.map .int)])] H'=some (.d .none,H'.set m (.l (((r++[v])++[(v.1,b.st)]).map ndD))):=by
     rw [show ((r++[v])++[(v.1,b.st)]).map ndD=(r++[v]).map ndD++[ndD (v.1,b.st)] by rw [List.map_append];rfl];generalize (r++[v]).map ndD=xs at g al;simp [g,szl,al,ndD]
    refine ⟨dL b x H1.length (some (.d z)) (some (.c m)) (some (.d (.int y))),H'.set m (.l (((r++[v])++[(v.1,b.st)]).map ndD)),?_,_,rfl,p1.put n2,by simp at ln ⊢;omega⟩;have il:xIx (.c m) (.d (.int (-1))) H'=some (.d (.tuple [.tuple (v.1.map nI),.tuple (v.2.map .int)]),H'):=il;simp [dL,eq,xC1,ee,aM,szl,il,ix0,m1,a1,-qH,-nG]
  ·exact ⟨_,H',by simp [dL,eq,q0],ns,rfl,p1,by omega⟩
 clear p ln;rintro _ H ⟨ns,rfl,p,ln⟩;obtain ⟨s,L,rfl⟩:=p.ex;have pl:=p.lt;exact ⟨m,ts1,ns,stL s::L,by rw [hH];simp [dL],by rw [hH];exact p.at_,by omega,o,p.nv,ln⟩
end K26

namespace K26
open PySem PySem.Spec PyProof.Rows L2 DL CI SJ
def RT (x:Option (Fl×aA)):Prop:=∃ qs L,x=some (Fl.rt (.d (.bool true)),.t qs::L)
def er1 {x:Option (Fl×aA)} {f:DSt->Fl×aA->Option (Fl×aA)} (δ:DSt) (H:aA) (e:x=some (.nx δ,H)) (k:RT (f δ (.nx δ,H))):RT (YP x (YQ f)):=by
 rw [e];exact k
def er2 {x:Option (Fl×aA)} {f:DSt->Fl×aA->Option (Fl×aA)} (P:DSt->aA->Prop) (e:∃ δ H,x=some (.nx δ,H)/\P δ H) (k:∀ δ H,P δ H->RT (f δ (.nx δ,H))):RT (YP x (YQ f)):=by
 obtain ⟨δ,H,e,p⟩:=e;rw [e];exact k δ H p
def cT2 {x:Option (Fl×aA)} (e:RT x):∃ qs,x.bind (aO [.t []])=some (.bool true,[.t qs]):=by
 obtain ⟨qs,L,e⟩:=e;refine ⟨qs,?_⟩;have ok:okP [.t []] (.t qs::L):=fun i c hi e'=>by
  have:i=0:=by simpa using hi
  subst this;simp at e';subst e';exact .inl fun j hj=>by simp [cRefs] at hj
 rw [e];simp [ok]
theorem plL:∀ (ls:List (List Nat)) (m:Nat),plainsB (m+1) (ls.map lD)=true
 | [],m=>by simp
 | l::r,m=>by
  rw [List.map_cons,plainsB,plL r m];simp [lD,aI,qV]
def cG2 (ls:List (List Nat)) (h:aA):xEq (.d (.list (ls.map lD))) (.d (.list [])) h=some (decide (ls=[])):=by
 have p1:aI 64 (.list (ls.map lD))=true:=plL ls 62;have p2:aI 64 (.list [])=true:=rfl;have e:PyData.eqv (.list (ls.map lD)) (.list [])=decide (ls=[]):=by
  cases ls with
  | nil=>simp [PyData.eqv,PyData.eqvAll]
  | cons a r=>simp [PyData.eqv,PyData.eqvAll]
 unfold xEq;simp only [ref];rw [p1,p2,e];rfl
def bU0 (c:Int) (m:Nat):(pbF c m).its.length<=m:=by
 show (pI c m).length<=m;rw [xO];exact aS6 c m
def dw (ns:List Int) (b:Pb) (x2 x3:Option W):DSt:=[some (.d (.list (ns.map .int))),some (.d b.dat),x2,x3]
def iN:xIs (.d .none) (.d .none)=some true:=rfl
def iT (l:List PyData):xIs (.d (.tuple l)) (.d .none)=some false:=rfl
def bU1 (ns:List Int) (d:Nat):∃ qs,aD T (d+18) "law" [.d (.list (ns.map .int))] [.t []]=some (.bool true,[.t qs]):=by
 have g0:=bA7 (d+16) [.t []] ns;have hb:=bS7 (ns.head?.getD 0) (m:=5) (by decide);have h5:=bU0 (ns.head?.getD 0) 5;have g1:aD T (d+17) "_law_problem" [.d (.int (ns.head?.getD 0)),.d (.int 5)] [.t []]=_:=aF7 (d+10) [.t []] (ns.head?.getD 0) (m:=5) (by decide);generalize pbF (ns.head?.getD 0) 5=b at hb h5 g1;have ol0:OL b []:=⟨(fun _ z=>nomatch z),by simp,by simp [cQ]⟩;obtain ⟨ls,rw0,h3⟩:=bT3 hb h5 b.its.length (d+2+(7 - b.its.length)) [.t []] [] (by simp) ol0;rw [show d+2+(7 - b.its.length)+8+b.its.length=d+17 by omega] at h3;have h3:aD T (d+17) (Str.ofString "_law_rows") [.d b.dat,.d (.list [])] [.t []]=some (.list (ls.map lD),[.t []]):=h3;rw [show d+18=(d+17)+1 from rfl,cD9];refine cT2 ?_;refine er1 (dw ns b none none) [.t []] (by simp [dw,g0,g1]) ?_;refine er1 (dw ns b (some (.d (.list (ls.map lD)))) none) [.t []] (by simp [dw,h3,aM,szl]) ?_;refine er2 (fun δ H=>∃ x3 qs,δ=dw ns b (some (.d (.list (ls.map lD)))) x3/\H=[.t qs]) ?_ ?_
 ·have hall:∀ z∈cut (ns.map PyData.int) (some 1) (some 9),∃ c,z=.int c:=fun z hz=>by
   unfold cut at hz;obtain ⟨c,_,rfl⟩:=List.mem_map.mp (List.mem_of_mem_drop (List.mem_of_mem_take hz));exact ⟨c,rfl⟩
  have ek:∀ (g:XG) (tb:XS) (all:List PyData),(∀ w δ h,g w δ h=some (δ.set 3 (some w),h))->(∀ (c:Int) (qs:List (Pos×Str)),fU qs->∃ qs',fU qs'/\tb (dw ns b (some (.d (.list (ls.map lD)))) (some (.d (.int c)))) [.t qs]=some (.nx (dw ns b (some (.d (.list (ls.map lD)))) (some (.d (.int c)))),[.t qs']))->∃ δ' h',aX g tb none all (cut (ns.map PyData.int) (some 1) (some 9)) (dw ns b (some (.d (.list (ls.map lD)))) none) [.t []]=some (.nx δ',h')/\∃ x3 qs,δ'=dw ns b (some (.d (.list (ls.map lD)))) x3/\h'=[.t qs]/\fU qs:=fun g tb all hg hs=>by
   refine aD3 (fun δ' h'=>∃ x3 qs,δ'=dw ns b (some (.d (.list (ls.map lD)))) x3/\h'=[.t qs]/\fU qs) _ (fun z hz δ h=>?_) _ _ ⟨none,[],rfl,rfl,.inl rfl⟩;rintro ⟨x3,qs,rfl,rfl,o⟩;obtain ⟨c,rfl⟩:=hall z hz;obtain ⟨qs',o',e⟩:=hs c qs o;exact ⟨dw ns b (some (.d (.list (ls.map lD)))) (some (.d (.int c))),[.t qs],hg _ _ _,_,_,e,_,_,rfl,rfl,o'⟩
  have e1:∀ H,xSl (.d (.list (ns.map .int))) (some 1) (some 9) H=some (.d (.list (cut (ns.map PyData.int) (some 1) (some 9))),H):=fun H=>rfl;simp [dw,aU,e1];generalize hr:aX _ _ _ _ _ _ _=r;have kk:∃ δ' h',r=some (.nx δ',h')/\∃ x3 qs,δ'=dw ns b (some (.d (.list (ls.map lD)))) x3/\h'=[.t qs]/\fU qs:=by
   rw [<- hr];clear hr;refine ek _ _ _ (fun _ _ _=>rfl) fun c qs o=>?_;obtain ⟨qs',n2,o',nv,ln,el⟩:=bT9 d hb h5 (h:=[.t qs]) rfl o c;have el:aD T (d+17) (Str.ofString "_law_list") [.d b.dat,.d (.int c)] [.t qs]=some (.list (n2.map ndD),[.t qs']):=el;obtain ⟨z,ez,kz⟩:=aU4 (d+2) [.t qs'] hb (by omega) nv (by omega);have ez:aD T (d+17) (Str.ofString "stands_fault") [.d b.dat,.d (.list (n2.map ndD))] [.t qs']=some (z,[.t qs']):=ez;refine ⟨qs',o',?_⟩;rcases kz with ⟨rfl,clo⟩ | ⟨l,rfl⟩
   ·have hno:ls=[]:=by
     cases ls with
     | nil=>rfl
     | cons l r =>
      obtain ⟨ol,hr⟩:=rw0.ok l List.mem_cons_self;rw [bT5 hb clo ol] at hr;cases hr
    have q1:=cG2 ls [.t qs'];rw [hno] at q1 ⊢;simp at q1;simp [dw,el,ez,xC1,iN,aM,szl,q1]
   ·simp [dw,el,ez,xC1,iT]
  clear hr;obtain ⟨δ',h',rfl,x3,qs,rfl,rfl,_⟩:=kk;simp [dw];exact ⟨_,_,⟨rfl,rfl⟩,⟨_,rfl⟩,_,rfl⟩
 ·rintro _ _ ⟨x3,qs,rfl,rfl⟩;exact ⟨qs,[],by simp⟩
end K26

namespace K26
open PySem PySem.Spec PyProof.Rows L2 DL CI
def top (k:Nat):Stmt:=PySem.Challenge.pw_storejudge_k26_whole_closed_lists_hold.main.body.getD k (.Pass ⟨0,0,0,0⟩)
abbrev s_0:Stmt:=top 1
abbrev s_1:Stmt:=top 2
abbrev s_2:Stmt:=top 3
abbrev s_3:Stmt:=top 4
abbrev s_4:Stmt:=top 5
abbrev s_5:Stmt:=top 10
abbrev s_6:Stmt:=top 11
abbrev s_7:Stmt:=top 12
abbrev s_8:Stmt:=top 13
abbrev s_9:Stmt:=top 14
abbrev cG3:Stmt:=top 15
abbrev cG4:Stmt:=top 16
abbrev cG5:Stmt:=top 17
abbrev cG6:Stmt:=top 18
abbrev cG7:Stmt:=top 19
abbrev cG8:Stmt:=top 20
abbrev cG9:Stmt:=top 21
abbrev cH0:Stmt:=top 22
abbrev cH1:Stmt:=top 28
abbrev cH2:Stmt:=top 29
abbrev cH3:Stmt:=top 30
abbrev cH4:Stmt:=top 31
abbrev cH5:Stmt:=top 32
abbrev cH6:Stmt:=top 33
abbrev cH7:Stmt:=top 39
abbrev cH8:Stmt:=top 40
abbrev cH9:Stmt:=top 41
abbrev cI0:Stmt:=top 42
abbrev cI1:Stmt:=top 43
abbrev cI2:Stmt:=top 44
abbrev cI3:Stmt:=top 45
abbrev cI4:Stmt:=top 47
abbrev cI5:Stmt:=top 48
abbrev cI6:Stmt:=top 49
abbrev cI7:Stmt:=top 50
abbrev cI8:Stmt:=top 51
abbrev cI9:Stmt:=top 53
abbrev cJ0:Stmt:=top 54
abbrev cJ1:Stmt:=top 55
abbrev cJ2:Stmt:=top 56
abbrev cJ3:Stmt:=top 57
abbrev cJ4:Stmt:=top 58
abbrev cJ5:Stmt:=top 59
abbrev cJ6:Stmt:=top 60
abbrev cJ7:Stmt:=top 61
abbrev cJ8:Stmt:=top 62
abbrev cJ9:Stmt:=top 64
abbrev cK0:Stmt:=top 65
abbrev cK1:Stmt:=top 66
abbrev cK2:Stmt:=top 67
abbrev cK3:Stmt:=top 68
abbrev cK4:Stmt:=top 69
abbrev cK5:Stmt:=top 70
abbrev cK6:Stmt:=top 71
abbrev cK7:Stmt:=top 72
abbrev cK8:Stmt:=top 73
abbrev cK9:Stmt:=top 74
abbrev cL0:Stmt:=top 75
abbrev cL1:Stmt:=top 76
abbrev cL2:Stmt:=top 77
abbrev cL3:Stmt:=top 78
abbrev cL4:Stmt:=top 79
abbrev vI:Stmt:=top 80
def cL5:gcl body=([(Str.ofString "LAST_KEY",PyData.int 7),(Str.ofString "MOST_PARTS",PyData.int 4),(Str.ofString "FIRST",PyData.tuple [PyData.int 0,PyData.int 0,PyData.int 0,PyData.int 0,PyData.int 0,PyData.int 0,PyData.int 0,PyData.int 0]),(Str.ofString "WORDS",PyData.tuple [PyData.str (Str.ofString "must"),PyData.str (Str.ofString "may"),PyData.str (Str.ofString "out")]),(Str.ofString "MOST_ITEMS",PyData.int 120),(Str.ofString "MOST_PAIRS",PyData.int 4000),(Str.ofString "MOST_TRIPLES",PyData.int 4000)]:List (Str×PyData)):=by kernel_rfl
def cL6:tkl body=([(Str.ofString "NUMBERS_BEHIND",[(Str.ofString "read",0),(Str.ofString "write",1),(Str.ofString "add",1),(Str.ofString "swap",2)])]:List (Str×List (Str×Int))):=by kernel_rfl
abbrev DFL:List (Str×Stmt):=[(Str.ofString "is_whole",s_0),(Str.ofString "is_between",s_1),(Str.ofString "is_tuple_of",s_2),(Str.ofString "are_whole",s_3),(Str.ofString "are_rising",s_4),(Str.ofString "is_key",s_5),(Str.ofString "word_of",s_6),(Str.ofString "is_worded",s_7),(Str.ofString "is_single",s_8),(Str.ofString "is_span",s_9),(Str.ofString "is_deal",cG3),(Str.ofString "is_call",cG4),(Str.ofString "is_look",cG5),(Str.ofString "is_value_pair",cG6),(Str.ofString "is_lay",cG7),(Str.ofString "is_step",cG8),(Str.ofString "is_answer",cG9),(Str.ofString "is_own_answer",cH0),(Str.ofString "is_stand",cH1),(Str.ofString "with_value",cH2),(Str.ofString "done",cH3),(Str.ofString "single_done",cH4),(Str.ofString "deal_done",cH5),(Str.ofString "laid",cH6),(Str.ofString "is_item",cH7),(Str.ofString "are_items",cH8),(Str.ofString "are_numbers",cH9),(Str.ofString "are_unlike",cI0),(Str.ofString "are_pairs",cI1),(Str.ofString "are_triples",cI2),(Str.ofString "is_problem",cI3),(Str.ofString "marked",cI4),(Str.ofString "check_problem",cI5),(Str.ofString "ways_of",cI6),(Str.ofString "may_come",cI7),(Str.ofString "behind",cI8),(Str.ofString "is_node",cI9),(Str.ofString "first_node",cJ0),(Str.ofString "is_last",cJ1),(Str.ofString "nodes_behind",cJ2),(Str.ofString "stands_fault",cJ3),(Str.ofString "nodes_fault",cJ4),(Str.ofString "search",cJ5),(Str.ofString "searched",cJ6),(Str.ofString "waiting",cJ7),(Str.ofString "urgency",cJ8),(Str.ofString "_law_cell_at",cJ9),(Str.ofString "_law_digit",cK0),(Str.ofString "_law_value",cK1),(Str.ofString "_law_plain_call",cK2),(Str.ofString "_law_step",cK3),(Str.ofString "_law_altered",cK4),(Str.ofString "_law_items",cK5),(Str.ofString "_law_pairs",cK6),(Str.ofString "_law_triples",cK7),(Str.ofString "_law_problem",cK8),(Str.ofString "_law_ordered",cK9),(Str.ofString "_law_answered",cL0),(Str.ofString "_law_right",cL1),(Str.ofString "_law_rows",cL2),(Str.ofString "_law_come",cL3),(Str.ofString "_law_list",cL4),(Str.ofString "law",vI)]
def cL7:dfl body=DFL:=by kernel_rfl
def clsB:List Stmt:=match top 46 with
 | .ClassDef _ _ _ b _ _ _ _ _ _ _=>b
 | _=>[]
abbrev sI:Stmt:=clsB.getD 0 (.Pass ⟨0,0,0,0⟩)
abbrev sM0:Stmt:=clsB.getD 3 (.Pass ⟨0,0,0,0⟩)
abbrev sM1:Stmt:=clsB.getD 1 (.Pass ⟨0,0,0,0⟩)
abbrev sM2:Stmt:=clsB.getD 2 (.Pass ⟨0,0,0,0⟩)
abbrev sM3:Stmt:=clsB.getD 4 (.Pass ⟨0,0,0,0⟩)
def mI:methOf "__init__"=some sI:=by kernel_rfl
def mM0:methOf "stand_behind"=some sM0:=by kernel_rfl
def mM1:methOf "may_follow"=some sM1:=by kernel_rfl
def mM2:methOf "followers"=some sM2:=by kernel_rfl
def mM3:methOf "missing"=some sM3:=by kernel_rfl
def bE6:T.defs "law"=some vI:=by kernel_rfl
def cL8:parsOf vI=([Str.ofString "_law_script"]:List Str):=by kernel_rfl
def bH5 {x:Str} {C:Addr} {s:Stmt} (h:T.mt x=some (C,s)):C=280/\((x="stand_behind"/\s=sM0)\/(x="may_follow"/\s=sM1)\/(x="followers"/\s=sM2)\/(x="missing"/\s=sM3)):=by
 have h:mt x=some (C,s):=h;unfold mt at h;split at h
 ·rename_i e;try rw [e] at h
  rw [mM0] at h;cases h;exact ⟨rfl,.inl ⟨e,rfl⟩⟩
 split at h
 ·rename_i e;try rw [e] at h
  rw [mM1] at h;cases h;exact ⟨rfl,.inr (.inl ⟨e,rfl⟩)⟩
 split at h
 ·rename_i e;try rw [e] at h
  rw [mM2] at h;cases h;exact ⟨rfl,.inr (.inr (.inl ⟨e,rfl⟩))⟩
 split at h
 ·rename_i e;try rw [e] at h
  rw [mM3] at h;cases h;exact ⟨rfl,.inr (.inr (.inr (⟨e,rfl⟩)))⟩
 cases h
def all_mk {l:PySem.W.OpenLaw} {w:World} {os:OsState} {K:PySem.W.Frag} {h:Heap} {mg:Str->Option Value} {fa:Addr} (X:K.In h) (G:h.Ns mainGlobals mg) (hfa:mg "law"=some (.ref fa))
  (a0:FI K "is_whole" s_0)
  (a1:FI K "is_between" s_1)
  (a2:FI K "is_tuple_of" s_2)
  (a3:FI K "are_whole" s_3)
  (a4:FI K "are_rising" s_4)
  (a5:FI K "is_key" s_5)
  (a6:FI K "word_of" s_6)
  (a7:FI K "is_worded" s_7)
  (a8:FI K "is_single" s_8)
  (a9:FI K "is_span" s_9)
  (a10:FI K "is_deal" cG3)
  (a11:FI K "is_call" cG4)
  (a12:FI K "is_look" cG5)
  (a13:FI K "is_value_pair" cG6)
  (a14:FI K "is_lay" cG7)
  (a15:FI K "is_step" cG8)
  (a16:FI K "is_answer" cG9)
  (a17:FI K "is_own_answer" cH0)
  (a18:FI K "is_stand" cH1)
  (a19:FI K "with_value" cH2)
  (a20:FI K "done" cH3)
  (a21:FI K "single_done" cH4)
  (a22:FI K "deal_done" cH5)
  (a23:FI K "laid" cH6)
  (a24:FI K "is_item" cH7)
  (a25:FI K "are_items" cH8)
  (a26:FI K "are_numbers" cH9)
  (a27:FI K "are_unlike" cI0)
  (a28:FI K "are_pairs" cI1)
  (a29:FI K "are_triples" cI2)
  (a30:FI K "is_problem" cI3)
  (a31:FI K "marked" cI4)
  (a32:FI K "check_problem" cI5)
  (a33:FI K "ways_of" cI6)
  (a34:FI K "may_come" cI7)
  (a35:FI K "behind" cI8)
  (a36:FI K "is_node" cI9)
  (a37:FI K "first_node" cJ0)
  (a38:FI K "is_last" cJ1)
  (a39:FI K "nodes_behind" cJ2)
  (a40:FI K "stands_fault" cJ3)
  (a41:FI K "nodes_fault" cJ4)
  (a42:FI K "search" cJ5)
  (a43:FI K "searched" cJ6)
  (a44:FIT K "waiting" cJ7 373)
  (a45:FI K "urgency" cJ8)
  (a46:FI K "_law_cell_at" cJ9)
  (a47:FI K "_law_digit" cK0)
  (a48:FI K "_law_value" cK1)
  (a49:FI K "_law_plain_call" cK2)
  (a50:FI K "_law_step" cK3)
  (a51:FI K "_law_altered" cK4)
  (a52:FI K "_law_items" cK5)
  (a53:FI K "_law_pairs" cK6)
  (a54:FI K "_law_triples" cK7)
  (a55:FI K "_law_problem" cK8)
  (a56:FI K "_law_ordered" cK9)
  (a57:FI K "_law_answered" cL0)
  (a58:FI K "_law_right" cL1)
  (a59:FI K "_law_rows" cL2)
  (a60:FI K "_law_come" cL3)
  (a61:FI K "_law_list" cL4)
  (a62:FI K "law" vI)
  {tg0:Tok} (cg0:PySem.W.nsIn K mainGlobals "LAST_KEY"=some (some (.int 7 tg0)))
  {tg1:Tok} (cg1:PySem.W.nsIn K mainGlobals "MOST_PARTS"=some (some (.int 4 tg1)))
  {q2:Addr} {nq2:Nat} {tq2_0 tq2_1 tq2_2 tq2_3 tq2_4 tq2_5 tq2_6 tq2_7:Tok} (aQ2:PySem.W.nsIn K mainGlobals "FIRST"=some (some (.ref q2))) (lQ2:K.lookup q2=some ⟨.type "tuple",none,.seq #[.int 0 tq2_0,.int 0 tq2_1,.int 0 tq2_2,.int 0 tq2_3,.int 0 tq2_4,.int 0 tq2_5,.int 0 tq2_6,.int 0 tq2_7] nq2,#[]⟩)
  {q3:Addr} {nq3:Nat} {tq3_0 tq3_1 tq3_2:Tok} (aQ3:PySem.W.nsIn K mainGlobals "WORDS"=some (some (.ref q3))) (lQ3:K.lookup q3=some ⟨.type "tuple",none,.seq #[.str "must" tq3_0,.str "may" tq3_1,.str "out" tq3_2] nq3,#[]⟩)
  {tg4:Tok} (cg4:PySem.W.nsIn K mainGlobals "MOST_ITEMS"=some (some (.int 120 tg4)))
  {tg5:Tok} (cg5:PySem.W.nsIn K mainGlobals "MOST_PAIRS"=some (some (.int 4000 tg5)))
  {tg6:Tok} (cg6:PySem.W.nsIn K mainGlobals "MOST_TRIPLES"=some (some (.int 4000 tg6)))
  {p0:Addr} {n0:Nat} {hh0_0 hh0_1 hh0_2 hh0_3:Int} {tk0_0 tv0_0 tk0_1 tv0_1 tk0_2 tv0_2 tk0_3 tv0_3:Tok} (aT0:PySem.W.nsIn K mainGlobals "NUMBERS_BEHIND"=some (some (.ref p0))) (lT0:K.lookup p0=some ⟨.type "dict",none,.dict #[⟨hh0_0,.str "read" tk0_0,.int 0 tv0_0⟩,⟨hh0_1,.str "write" tk0_1,.int 1 tv0_1⟩,⟨hh0_2,.str "add" tk0_2,.int 1 tv0_2⟩,⟨hh0_3,.str "swap" tk0_3,.int 2 tv0_3⟩] n0,#[]⟩) (kT0:PySem.W.KeysLit w.params [⟨hh0_0,.str "read" tk0_0,.int 0 tv0_0⟩,⟨hh0_1,.str "write" tk0_1,.int 1 tv0_1⟩,⟨hh0_2,.str "add" tk0_2,.int 1 tv0_2⟩,⟨hh0_3,.str "swap" tk0_3,.int 2 tv0_3⟩]) (sT0:(p0==sysModules)=false)
  (m0:FM K 280 "__init__" "Ways.__init__" sI)
  (m1:FM K 280 "stand_behind" "Ways.stand_behind" sM0)
  (m2:FM K 280 "may_follow" "Ways.may_follow" sM1)
  (m3:FM K 280 "followers" "Ways.followers" sM2)
  (m4:FM K 280 "missing" "Ways.missing" sM3)
  (cW:PySem.W.nsIn K mainGlobals "Ways"=some (some (.ref 280))) (mkW:PySem.W.makesIn K 280=true) (kpW:PySem.W.keepIn K (.ref 280)=true) (clW:Cls K 280) (noW:∀ f∈(["first","listed","musts","ahead","later","gaps"]:List Str),PySem.W.findIn K (.ref 280) f=some none)
  (zb:∀ b∈blAll,PySem.W.nsIn K mainGlobals b=some none) :
  ∃ fd:FuncData,(∀ (s:Shared) (v:Value),BindsTo s fd ⟨[v],[]⟩ [("_law_script",v)])/\∀ base:Heap,K.In base->base.Ns mainGlobals mg->base.BuiltinsAt mg 373->FnS ⟨l.prog,w,K,mg,base,os,#[],373⟩ 18 fa fd ["_law_script"] (toW (aD T 18 "law")):=by
 have aL:=a62;obtain ⟨f62,od62,an62,sl62,oc62,kV62,dc62,pm62,cd62,ct62,b62,l62,c62,kk62⟩:=aL;have e:=hfa.symm.trans (PySem.W.mg_of X G b62);cases e;have F62:=wS (st:=vI) l62 c62 kk62;refine ⟨PySem.W.fnOf "law" "law" (bM vI) (bA vI) (defScope vI) .none kV62 dc62 pm62 an62 cd62 ct62,fun s v=>.of_eq rfl,fun base XB GB BM=>?_⟩;have aW:=a44.fi;have TT:TopOk T ⟨l.prog,w,K,mg,base,os,#[],373⟩:=by
  refine ⟨fun x hx=>?_,fun x z hz=>?_,fun x f hf=>?_,fun x s hs=>?_,fun x C s hs=>?_,fun x C s hs=>?_,fun C f hf=>?_,fun x q hs=>?_⟩
  ·have hx:blAll.contains x=true:=hx;rw [List.contains_iff_mem] at hx;exact PySem.W.mg_none_of XB GB (zb x hx)
  ·have hm:=bO6 (show bO3 body x=some z from hz);rw [cL5] at hm;simp only [List.mem_cons,List.not_mem_nil,or_false,Prod.mk.injEq] at hm;rcases hm with ⟨rfl,rfl⟩ | ⟨rfl,rfl⟩ | ⟨rfl,rfl⟩ | ⟨rfl,rfl⟩ | ⟨rfl,rfl⟩ | ⟨rfl,rfl⟩ | ⟨rfl,rfl⟩
   ·exact ⟨_,PySem.W.mg_of XB GB cg0,rep_i.mpr ⟨tg0,rfl⟩⟩
   ·exact ⟨_,PySem.W.mg_of XB GB cg1,rep_i.mpr ⟨tg1,rfl⟩⟩
   ·exact ⟨_,PySem.W.mg_of XB GB aQ2,bO9 (ws:=[0,0,0,0,0,0,0,0]) XB lQ2 (.cons ⟨_,rfl⟩ (.cons ⟨_,rfl⟩ (.cons ⟨_,rfl⟩ (.cons ⟨_,rfl⟩ (.cons ⟨_,rfl⟩ (.cons ⟨_,rfl⟩ (.cons ⟨_,rfl⟩ (.cons ⟨_,rfl⟩ .nil)))))))) (show 8<=16777216 by decide)⟩
   ·exact ⟨_,PySem.W.mg_of XB GB aQ3,bP0 (ws:=["must","may","out"]) XB lQ3 (.cons ⟨⟨_,rfl⟩,by decide +kernel⟩ (.cons ⟨⟨_,rfl⟩,by decide +kernel⟩ (.cons ⟨⟨_,rfl⟩,by decide +kernel⟩ .nil))) (show 3<=16777216 by decide)⟩
   ·exact ⟨_,PySem.W.mg_of XB GB cg4,rep_i.mpr ⟨tg4,rfl⟩⟩
   ·exact ⟨_,PySem.W.mg_of XB GB cg5,rep_i.mpr ⟨tg5,rfl⟩⟩
   ·exact ⟨_,PySem.W.mg_of XB GB cg6,rep_i.mpr ⟨tg6,rfl⟩⟩
  ·obtain ⟨t,hm,rfl⟩:=bO7 (show bO5 body x=some f from hf);rw [cL6] at hm;simp only [List.mem_cons,List.not_mem_nil,or_false,Prod.mk.injEq] at hm;rcases hm with ⟨rfl,rfl⟩
   ·refine ⟨p0,PySem.W.mg_of XB GB aT0,⟨⟨_,n0,lT0,kT0,fun y i hy=>?_,fun y hy=>?_⟩,sT0⟩⟩
    ·repeat rw [tY]
     simp only [List.lookup] at hy
     repeat (first | (split at hy;(rename_i q;rw [if_pos (eq_of_beq q).symm];cases hy;exact ⟨_,rfl⟩);(rename_i q;rw [if_neg (fun z=>(beq_eq_false_iff_ne.mp q) z.symm)])) | cases hy)
    ·repeat rw [tY]
     simp only [List.lookup] at hy
     repeat (split at hy;(cases hy);(rename_i q;rw [if_neg (fun z=>(beq_eq_false_iff_ne.mp q) z.symm)]))
     rfl
  ·have hm:=bO8 (show wR body x=some s from hs);rw [cL7] at hm;have key:∀ p∈DFL,FR K mg p.1 p.2:=by
    repeat (refine cP1 (P:=FR K mg) ?_ ?_;(first | exact FI.ok1 (by assumption) XB GB (by kernel_rfl) (fun _=>fun _ _ _ _ _ _=>rfl) | exact FI.ok2 (by assumption) XB GB (by kernel_rfl) (fun _ _=>fun _ _ _ _ _ _=>rfl) | exact FI.ok3 (by assumption) XB GB (by kernel_rfl) (fun _ _ _=>fun _ _ _ _ _ _=>rfl)))
    exact cP0
   exact key _ hm
  ·have h:(if x="Ways" then (methOf "__init__").map fun s=>((280:Addr),s) else none)=some (C,s):=hs;rw [mI] at h;split at h
   ·rename_i e;cases h;subst e;obtain ⟨f,fd,F,M,B⟩:=m0.ok2 (x:="self") (y:="problem") (by kernel_rfl) fun _ _ _ _ _ _ _ _=>rfl;exact ⟨_,_,f,fd,F,⟨mkW,M.at_,M.fn,kpW⟩,PySem.W.mg_of XB GB cW,B⟩
   ·cases h
  ·refine ⟨?_,?_⟩
   ·obtain ⟨e,_⟩:=bH5 hs;rw [e];exact clW
   ·obtain ⟨e,hm⟩:=bH5 hs;subst e;rcases hm with ⟨rfl,rfl⟩ | ⟨rfl,rfl⟩ | ⟨rfl,rfl⟩ | ⟨rfl,rfl⟩
    ·obtain ⟨f,fd,F,M,B⟩:=m1.ok3 (x:="self") (y:="stand") (z:="x") (by kernel_rfl) fun _ _ _ _ _ _ _ _ _=>rfl;exact ⟨_,_,f,fd,F,M,B⟩
    ·obtain ⟨f,fd,F,M,B⟩:=m2.ok3 (x:="self") (y:="placed") (z:="x") (by kernel_rfl) fun _ _ _ _ _ _ _ _ _=>rfl;exact ⟨_,_,f,fd,F,M,B⟩
    ·obtain ⟨f,fd,F,M,B⟩:=m3.ok2 (x:="self") (y:="placed") (by kernel_rfl) fun _ _ _ _ _ _ _ _=>rfl;exact ⟨_,_,f,fd,F,M,B⟩
    ·obtain ⟨f,fd,F,M,B⟩:=m4.ok2 (x:="self") (y:="placed") (by kernel_rfl) fun _ _ _ _ _ _ _ _=>rfl;exact ⟨_,_,f,fd,F,M,B⟩
  ·have h:(decide (C=280)&&(["first","listed","musts","ahead","later","gaps"]:List Str).contains f)=true:=hf;rw [Bool.and_eq_true,decide_eq_true_eq,List.contains_iff_mem] at h;obtain ⟨rfl,h⟩:=h;exact ⟨clW,noW f h⟩
  ·have h:(if x="waiting" then some ((("waiting.<locals>.":Str),(⟨261,29,261,67⟩:Pos))) else none)=some q:=hs;split at h
   ·rename_i e;cases h;subst e;exact ⟨by kernel_rfl,by kernel_rfl,fun s f fd F hf=>⟨by decide +kernel,a44.code (S:=⟨l.prog,w,K,mg,base,os,#[],373⟩) XB GB F hf rfl BM _⟩⟩
   ·cases h
 have q:=bP1 (k:=17) TT bE6 F62 (by kernel_rfl);rw [cL8] at q;exact q
def walk {l:PySem.W.OpenLaw} {q:Program} {loose:List Str} {XP:(Str->Option Value)->Heap->Prop} {YP:World->Heap->Prop} {d:DefRec} {K:Params->PySem.W.Frag} {c0:Addr} (hn:l.most=some 63) (hdf:d.params.defaults=[])
  (hY:∀ (w:World) (h:Heap),YP w h->(K w.params).In h/\h.get? 373=some (PySem.W.tabObj #[])) (hKP:∀ w:World,(K w.params).lookup 373=none) (hcd:∀ w:World,PySem.W.codeHdIn (K w.params) c0 373=true)
  (F:∀ (w:World) (mg:Str->Option Value) (fa:Addr) (h:Heap) (os:OsState),(K w.params).In h->h.Ns mainGlobals mg->mg d.name=some (.ref fa) ->
   ∃ fd:FuncData,(∀ (s:Shared) (u:Value),BindsTo s fd ⟨[u],[]⟩ [("_law_script",u)])/\∀ base:Heap,(K w.params).In base->base.Ns mainGlobals mg->base.BuiltinsAt mg 373->FnS ⟨l.prog,w,K w.params,mg,base,os,#[],373⟩ 18 fa fd ["_law_script"] (toW (aD T 18 "law"))) :
  PySem.W.WalkO q loose XP YP l.row.toRowW d [] (fun f vs=>PySem.call f vs) :=
 aO1 (n:=63) (k:=18) (x:="_law_script") (m:=aD T 18 "law") hn (by decide) hdf ⟨rfl,by decide,by decide⟩ hY hKP hcd F fun ns _=>bU1 ns 0
end K26

open PySem PySem.W PyProof.Rows
theorem PySem.Challenge.cw_storejudge_k26_whole_closed_lists_hold_holds : PySem.Challenge.rw_storejudge_k26_whole_closed_lists_hold.Holds := by
 refine hd ?_
 k_fill
 refine K26.walk (l:=PySem.Challenge.rw_storejudge_k26_whole_closed_lists_hold) rfl rfl (fun w h Y=>⟨PySem.W.km_in_of Y,PySem.W.km_tabs_of Y 373 (by simp)⟩) (c0:=377) (fun w=>by kernel_rfl) (fun w=>by kernel_rfl) ?F
 case F =>
  intro w mg fa h os KX G hmg;refine' K26.all_mk KX G hmg ?a0 ?a1 ?a2 ?a3 ?a4 ?a5 ?a6 ?a7 ?a8 ?a9 ?a10 ?a11 ?a12 ?a13 ?a14 ?a15 ?a16 ?a17 ?a18 ?a19 ?a20 ?a21 ?a22 ?a23 ?a24 ?a25 ?a26 ?a27 ?a28 ?a29 ?a30 ?a31 ?a32 ?a33 ?a34 ?a35 ?a36 ?a37 ?a38 ?a39 ?a40 ?a41 ?a42 ?a43 ?a44 ?a45 ?a46 ?a47 ?a48 ?a49 ?a50 ?a51 ?a52 ?a53 ?a54 ?a55 ?a56 ?a57 ?a58 ?a59 ?a60 ?a61 ?a62 ?cg0 ?cg1 ?aQ2 ?lQ2 ?aQ3 ?lQ3 ?cg4 ?cg5 ?cg6 ?aT0 ?lT0 ?kT0 ?sT0 ?m0 ?m1 ?m2 ?m3 ?m4 ?cW ?mkW ?kpW ?clW ?noW ?zb
  (case a44=>refine' CI.fit_mk (c0:=377) ?a ?l ?c ?k ?hd;(case a=>k_is);(case l=>k_is);(case c=>k_is);(case k=>k_is);(case hd=>kernel_rfl))
  all_goals try (refine' CI.fi_mk ?a ?l ?c ?k;(case a=>k_is);(case l=>k_is);(case c=>k_is);(case k=>k_is))
  (case cg0=>k_is)
  (case cg1=>k_is)
  (case aQ2=>k_is);(case lQ2=>k_is)
  (case aQ3=>k_is);(case lQ3=>k_is)
  (case cg4=>k_is)
  (case cg5=>k_is)
  (case cg6=>k_is)
  (case aT0=>k_is);(case lT0=>k_is);(case kT0=>k_keys);(case sT0=>first | rfl | decide | k_is)
  (case m0=>refine' CI.fm_mk (f:=253) ?a ?i ?l ?c ?k;(case a=>kernel_rfl);(case i=>kernel_rfl);(case l=>k_is);(case c=>k_is);(case k=>k_is))
  (case m1=>refine' CI.fm_mk (f:=272) ?a ?i ?l ?c ?k;(case a=>kernel_rfl);(case i=>kernel_rfl);(case l=>k_is);(case c=>k_is);(case k=>k_is))
  (case m2=>refine' CI.fm_mk (f:=260) ?a ?i ?l ?c ?k;(case a=>kernel_rfl);(case i=>kernel_rfl);(case l=>k_is);(case c=>k_is);(case k=>k_is))
  (case m3=>refine' CI.fm_mk (f:=265) ?a ?i ?l ?c ?k;(case a=>kernel_rfl);(case i=>kernel_rfl);(case l=>k_is);(case c=>k_is);(case k=>k_is))
  (case m4=>refine' CI.fm_mk (f:=277) ?a ?i ?l ?c ?k;(case a=>kernel_rfl);(case i=>kernel_rfl);(case l=>k_is);(case c=>k_is);(case k=>k_is))
  (case cW=>k_is);(case mkW=>kernel_rfl);(case kpW=>k_is);(case clW=>exact ⟨by kernel_rfl,by kernel_rfl,by kernel_rfl,by kernel_rfl⟩)
  (case noW=>intro f hf;simp only [List.mem_cons,List.not_mem_nil,or_false] at hf;rcases hf with rfl | rfl | rfl | rfl | rfl | rfl<;>kernel_rfl)
  (case zb=>intro b hb;simp only [CI.blAll,List.mem_cons,List.not_mem_nil,or_false] at hb;rcases hb with rfl | rfl | rfl | rfl | rfl | rfl | rfl | rfl | rfl | rfl | rfl | rfl | rfl | rfl | rfl | rfl | rfl | rfl | rfl | rfl<;>k_is)
