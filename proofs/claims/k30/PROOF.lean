import PyProof.Rows.All
import Wide.All
import OpenK.AllK
import Wide.FinOn
import Lean
import PyProof.EqAt
import PyProof.EqKinds
import PyProof.TupleCall
import PyProof.TupleKey
import PyProof.Rows.TupTab
import PyProof.ListRange
import PyProof.Conv_int_bool
import PyProof.SetRoads
import PyProof.Rows.SetFrom
import PyProof.WalksMore
import KE.KLam
import KE.KNestM
import KE.KRevSl
import PyProof.ZipIter
import PyProof.EnumIter
import PyProof.EnumFor
import PyProof.EnumStmt
import PyProof.TupleOfSeq
import PyProof.WalkInts
import KE.KTryMore
import KE.KIsAll
import PyProof.EqLayable
import PySem.Challenge.RW_storejudge_k30_what_is_no_step
set_option genInjectivity false
set_option compiler.extract_closed false
set_option bootstrap.genMatcherCode false
set_option genSizeOf false
section
open PySem PySem.W PyProof.Rows
set_option Elab.async false
set_option maxRecDepth 100000
set_option maxHeartbeats 0
structure PySem.W.Fast:Prop where
 (tw1191820554223206730 tw861502493610598483 tw10860016986814850708 tw8574918690776348908 tw7774113678449685934 tw8161656369779717402 tw18157048732806825347 tw4885688941381972832 tw7257460582837084246 tw15536608767410316090 tw11736338228926984083 tw2805076105184715749 tw3187600833561265495 tw13390110025980002063 tw2479909634843643777 tw5114918623987374716 tw206582138325595820 tw17863247350239516317 tw11205608169257636508 tw15606834981724049387 tw6125853113672642322 tw8387090941293194387 tw6504431033035094640 tw13343918040275786880 tw17059841922676754641 tw16753820520455620202 tw11766270337846329995 tw8865387616306378214 tw8186657734068701312 tw11853640710764476214 tw2197298608192791410 tw1070438729232803039 tw15559114068648415018 tw10257675875946525651 tw16699271105357772698 tw8278001386518606062 tw4860023922305330110 tw8997383693586321770 tw1810505731646096427 tw16945776922395636228 tw16109456028575089023 tw4480162626587320490 tw506581581156960101 tw17890440400047909864 tw2956708394376553000 tw17483705464198625004 tw14564479935002850509 tw6148498323302512570 tw11429584451438056573 tw3215387988796971590 tw8760152093665844161 tw12903330217458380548 tw12528533614272120300 tw8212203176049278890 tw6356304189028158447 tw17678831435119133177 tw17852080271459398996 tw3433779192033484610 tw16260866306193365299 tw16202735626409321261 tw14537775516033599862 tw11525993766095887173 tw2480015634913765671 tw14819390147424179368 tw4772062507164038959 tw10519837036962490867 tw16378183091871739711 tw10876078143196172821 tw5920806927976990809 tw6851275008772768644 tw1835071406663858368 tw7943549864190904611 tw17691633702590694504 tw14847308668706973960 tw10879749546641988924 tw12738610918357793766 tw2228412568605170491 tw12770481643036789091 tw1956260828630720203 tw17613222154834848340 tw8185220541750880888 tw16086907953836968628 tw4334401890000744311 tw14746253646979254834 tw7007286002206832825 tw11824586356888161845 tw11153475782318119604 tw15541240446876304647 tw11095110211248682772 tw2869065659524454656 tw8995945545434573385 tw10295913840692754127 tw16309811473084048462 tw2629151800749243262 tw13567515925198824819 tw7050804516273991350 tw772564365185477556 tw18095796173783872564 tw12488014758255163090 tw10888863842102328177 tw14074196154385387334 tw3726453103677007866 tw8924819469995637033 tw10958628066121416707 tw6046103115902281144 tw8899516883271353254 tw7091221385724896812 tw12954591660760965231 tw14219159868682941630 tw17155049476370652306 tw2941924889016668590 tw16670775579421159206 tw4946147512530127568 tw14334995849660946996 tw12468840222048715292 tw9116068151291705539 tw15166322114958858414 tw2403389108928632939 tw11317637306720784765 tw9950792792127014553 tw3328118118096588273 tw12459912946257978736 tw9003107776662980439 tw8428246938381088814 tw18183970276198133131 tw14903569129155370506 tw1956775160557780875 tw16766484511958638138 tw2399617604181995578 tw16654469307462801742 tw8431482922422412695 tw4015202173357781934 tw2144661209622563809 tw10341888390210383824 tw3953844824629472508 tw17348111734160510231 tw2078950565319712143 tw9806118890596472461 tw6327569006664949090 tw4075453323654395381 tw9757595895972200118 tw10861573186032746274 tw2261719852989239553 tw2244103112122482387 tw14391293386007564604 tw13437419889732721216 tw16226643914720891334 tw13831308528885131752 tw14424681132571578402 tw5404398260228975080 tw2768188642542392010 tw8159993647027272844 tw2187251505897268136 tw18367749455379333440 tw3919386906821981792 tw11076892268299887525 tw17659185236578331656 tw14226173905949225808 tw11421057715548341654 tw15805137534098808535 tw14904681115217272601 tw6690350156832105676 tw10159399881129095643 tw5702276774652866934 tw16860917588515726111 tw2455152089536381482 tw15831126876759372255 tw11489344026974618541 tw14441679199631801671 tw15127105006835628225 tw16864618592142003386 tw12740759652641322565 tw18157406047293677543 tw16636501806038632012 tw15254633091992210921 tw542563422162235373 tw4884199854448574 tw8565224436197482051 tw7046044490832178742 tw11373181179767321252 tw8752102160057688731 tw17260811203177919210 tw9456574344343218679 tw5444512763150141072 tw5289818103960998278 tw6542358382571353910 tw17170472223608059050 tw1719895430356276633 tw6549852094080907030 tw5217270863462422736 tw3985964047577975286 tw1495895850433845275 tw10624116801336726872 tw8739830900816887780 tw6469784823511061222 tw4512776594637900181 tw4026147355466621588 tw12431713363859531893 tw13769103115541136327 tw13385558918117058561 tw3897268976836264337 tw10826640976665885199 tw4859391219904099992 tw10842938092177581297 tw4096438862311573950 tw14842496431369740429 tw12461081396071149458 tw8222940686941784037 tw6162269159774324313 tw12330612334027959195 tw17137270108147033825 tw2789304352393801511 tw10792498714594961201 tw6782663255696616371 tw523537741815420091 tw15861351967447197489 tw8219003486749837733 tw211337195705725219 tw14592624751514493413 tw8972062959192195235 tw9461873434466728008 tw855453113358079251 tw15499940227032437249 tw17435391645217708394 tw17577329170770402720 tw354308444213283272 tw2466311954974566718 tw447263597446747957 tw15621415185263527259 tw4684226298888400098 tw12917704675397863716 tw14387916025512776202 tw5072417060200589145 tw13946496683202179788 tw4321966507151631593 tw16409965706819354750 tw10611411778653204182 tw12715800853834201459 tw10576836333797772347 tw5960047855520388891 tw17318462890700432884 tw14689541978594310382 tw4548300405975405348 tw14827714588952709054 tw1205274952441263945 tw13034982811429478159 tw9592521066531166775 tw15593559885672580101 tw12297992134047619483 tw12887044766017154078 tw140236481695663071 tw6822071536725586909 tw13953587524928339648 tw13462424878891718212 tw15401437161963490237 tw10698057553749749337 tw1825952489489211193 tw1708089923452030704 tw514280064592716601 tw13367274342830030513 tw9304451534382375720 tw10539347186207431242 tw6828597562223498359 tw12550775161083096063 tw14961746396406840608 tw3099597729799864441 tw4046790133079468173 tw7374399212775623666 tw12003660372656728261 tw3303267245142563540 tw4699756791338806529 tw16728255500844073214 tw14170518179582410385 tw5890639436620234070 tw9646623106273453227 tw11033627544408312984 tw3075201292733833056 tw1293241653719404408 tw6472337539984862722 tw13669536469129627823 tw599730875272715187 tw3641951560692057861 tw690982183779967211 tw13394580363473044415 tw622995879521568732 tw5694767641087392711 tw14782954611325821827 tw6278996535519779258 tw694261584828832409 tw9969077435446430640 tw9947508896943372755 tw17397653436517662659 tw14611616552423853409 tw991626836265849350 tw6331431999304432861 tw16248296213531012650 tw14196522196718054806 tw12669407529647801677 tw13622603851894308203 tw4313010194945074917 tw12147665669636231765 tw9919008367099125623 tw140001813534094272 tw8733291241859026926 tw2084650752826471497 tw16859961878692490766 tw16053306600634468012 tw4635989785427082552 tw8432719020341155521 tw5362036446546632119 tw3475869608268796686 tw1891733041441978011 tw14607143338591219252 tw11898673842065290130 tw2400638427578300857 tw9536688357841153863 tw8122695690928665766 tw7181997581385953548 tw6408400580700104982 tw17986951261819808105 tw17980500129456985241 tw13484562703626004877 tw615563214671542189 tw17916429707943930468 tw1532491051758110099 tw11151835277377553703 tw10551173667578312727 tw5634867526602368427 tw463774138113389760 tw14703100239697439463 tw16925712312323332580 tw16615150188913437886 tw2646887283097553488 tw12408111787983249662 tw12314708539913122752 tw1630143524128594353 tw14560624547652848805 tw4039707410889071942 tw16132249320637822498 tw6548459193220583526:True)
open_top hd for PySem.Challenge.rw_storejudge_k30_what_is_no_step
end
noncomputable section
theorem ZR0 (h:True:=by rfl):True:=h
def ZR:Lean.Syntax:=ZR0._auto_1
theorem ZD0 (h:True:=by decide):True:=h
def ZD:Lean.Syntax:=ZD0._auto_1
theorem ZI0 (h:True:=by intro _;rfl):True:=h
def ZI:Lean.Syntax:=ZI0._auto_1
theorem ZW0 (h:True:=by with_unfolding_all rfl):True:=h
def ZW:Lean.Syntax:=ZW0._auto_1
set_option Elab.async false
set_option linter.all false
set_option maxRecDepth 100000
set_option maxHeartbeats 4000000
namespace L2
open PySem PySem.Spec PyProof.Rows

abbrev Key:=Sum Int Str
noncomputable def mE:Key->Value->Bool
 | .inl k,v=>Value.isInt k v
 | .inr x,v=>Value.isStrOf x v
noncomputable def bQ9 (w:World):Key->Int
 | .inl k=>hashInt k
 | .inr x=>hashStr w x
theorem keyIs_shape:∀ {k:Key} {v:Value},mE k v=true->(∃ i t,k=Sum.inl i/\v=Value.int i t)\/(∃ x t,k=Sum.inr x/\v=Value.str x t)
 | .inl i,v,h=>by
  obtain ⟨t,e⟩:=Value.isInt_shape (k:=i) (v:=v) h;exact .inl ⟨i,t,rfl,e⟩
 | .inr x,v,h=>by
  obtain ⟨t,e⟩:=Value.isStrOf_shape (x:=x) (v:=v) h;exact .inr ⟨x,t,rfl,e⟩
def iS (i:Int) (t:Tok):mE (.inl i) (.int i t)=true:=by simp [mE,Value.isInt]
def iU (x:Str) (t:Tok):mE (.inr x) (.str x t)=true:=by simp [mE,Value.isStrOf]
def aK3 (a b:Int):decide ((Sum.inl a:Key)=Sum.inl b)=(a==b):=by
 by_cases e:a=b
 ·subst e;simp
 ·have h:¬ (Sum.inl a:Key)=Sum.inl b:=fun q=>e (Sum.inl.inj q);rw [decide_eq_false h];exact (beq_eq_false_iff_ne.mpr e).symm
def aK4 (a b:Str):decide ((Sum.inr a:Key)=Sum.inr b)=decide (a=b):=by
 by_cases e:a=b
 ·subst e;simp
 ·have h:¬ (Sum.inr a:Key)=Sum.inr b:=fun q=>e (Sum.inr.inj q);rw [decide_eq_false h,decide_eq_false e]
def aK5 (a:Int) (b:Str):decide ((Sum.inl a:Key)=Sum.inr b)=false:=decide_eq_false (fun q=>nomatch q)
def aK6 (a:Str) (b:Int):decide ((Sum.inr a:Key)=Sum.inl b)=false:=decide_eq_false (fun q=>nomatch q)

def bA (prog:Program) (w:World):PySem.KeyKind prog w Key where
 is:=mE
 hash:=bQ9 w
 inj:=fun v a b ha hb=>by
  rcases keyIs_shape ha with ⟨i,t,rfl,rfl⟩ | ⟨x,t,rfl,rfl⟩
  ·rcases keyIs_shape hb with ⟨j,u,rfl,e⟩ | ⟨y,u,rfl,e⟩
   ·injection e with e1 _;rw [e1]
   ·exact nomatch e
  ·rcases keyIs_shape hb with ⟨j,u,rfl,e⟩ | ⟨y,u,rfl,e⟩
   ·exact nomatch e
   ·injection e with e1 _;rw [e1]
 byValue:=fun k v h=>by
  rcases keyIs_shape h with ⟨i,t,rfl,rfl⟩ | ⟨x,t,rfl,rfl⟩<;>rfl
 pyHash:=fun hv h=>by
  rcases keyIs_shape hv with ⟨i,t,rfl,rfl⟩ | ⟨x,t,rfl,rfl⟩
  ·exact wpAny_pyHash_int h
  ·exact wpAny_pyHash_str h
 eqBool:=fun hu hv h=>by
  rcases keyIs_shape hu with ⟨i,t,rfl,rfl⟩ | ⟨x,t,rfl,rfl⟩
  ·rcases keyIs_shape hv with ⟨j,u,rfl,rfl⟩ | ⟨y,u,rfl,rfl⟩
   ·rw [aK3] at h;exact wpAny_eqBool_int h
   ·rw [aK5] at h;exact SeqAt.EqAt.int_str i t y u _ _ _ _ h
  ·rcases keyIs_shape hv with ⟨j,u,rfl,rfl⟩ | ⟨y,u,rfl,rfl⟩
   ·rw [aK6] at h;exact SeqAt.EqAt.str_int x t j u _ _ _ _ h
   ·rw [aK4] at h;exact wpAny_eqBool_str h
 «strs»:=fun k x t v h=>by
  rcases keyIs_shape h with ⟨i,u,rfl,e⟩ | ⟨y,u,rfl,e⟩
  ·exact nomatch e
  ·injection e with e1 _
   subst e1;cases v<;>rfl

def jJ (prog:Program) (w:World) (i:Int) (t:Tok):(bA prog w).is (.inl i) (.int i t)=true:=iS i t
def pC (prog:Program) (w:World) (x:Str) (t:Tok):(bA prog w).is (.inr x) (.str x t)=true:=iU x t
end L2

namespace HT
open PySem PyProof.Rows

section
open PySem.SeqAt
open PySem.AutoSeq1 (wpAny_loadPart')
open PySem.MeetsSeq PySem.MeetsSeq2 PySem.MeetsSeq3

end

section
variable {prog:Program} {w:World} {A:Around} {E:Value->Shared->Prop} {s:Shared}

def cat_tup {t b:Addr} {vs ws:List Value} {Q:Value->Shared->Prop} (ht:IsTup s.heap t vs.toArray) (hb:IsTup s.heap b ws.toArray) (hv:vs≠[])
  (h1:ws=[]->Q (.ref t) s) (h2:ws≠[]->Q (.ref s.heap.objs.size) { s with heap:=s.heap.push { cls:=.type "tuple",data:=.seq (vs++ws).toArray } })
  (hsz:vs.length+ws.length<=sizeLine):wpAny (model prog w) A (binaryOp .Add (.ref t) (.ref b)) Q E s:=by
 obtain ⟨⟨cls,dd,data,sl⟩,ho,hc,n,hd⟩:=id ht;obtain ⟨⟨cls2,dd2,data2,sl2⟩,ho2,hc2,n2,hd2⟩:=id hb;simp only at hc hd hc2 hd2;subst hc hd hc2 hd2;have e:vs.toArray++ws.toArray=(vs++ws).toArray:=by simp
 by_cases hw:ws=[]
 ·exact concat_meets ⟨_,ho,rfl⟩ ⟨_,ho2,rfl⟩ noFill_tuple_add seq_tuple_add PySem.F.slot_tuple_add PySem.F.entry_tuple_add (PySem.F.args_tuple_add_2 _ _)
   (tuple_addW1 t b vs.toArray ws.toArray n n2 dd dd2 sl sl2 (by simpa using hv) (by simp [hw])) ⟨ho,ho2,h1 hw⟩
 ·refine concat_meets ⟨_,ho,rfl⟩ ⟨_,ho2,rfl⟩ noFill_tuple_add seq_tuple_add PySem.F.slot_tuple_add PySem.F.entry_tuple_add (PySem.F.args_tuple_add_2 _ _)
   (tuple_addW2 t b vs.toArray ws.toArray n n2 dd dd2 sl sl2 (by simpa using hv) (by simpa using hw) (by rw [List.size_toArray,List.size_toArray];exact hsz)) ⟨ho,ho2,?_⟩
  rw [e];exact h2 hw

noncomputable def sIx (n d:Nat):Option Int->Nat
 | none=>d
 | some v=>if v < 0 then (v+(n:Int)).toNat else min v.toNat n
def sIx_nat (n d k:Nat):sIx n d (some (k:Int))=min k n:=by
 show (if (k:Int) < 0 then ((k:Int)+(n:Int)).toNat else min (k:Int).toNat n)=min k n;rw [if_neg (by omega),Int.toNat_natCast]
def aK7 (n d:Nat) (hd:d<=n) (o:Option Int):sIx n d o<=n:=by
 cases o with
 | none=>exact hd
 | some v =>
  show (if v < 0 then (v+(n:Int)).toNat else min v.toNat n)<=n
  by_cases hv:v < 0
  ·rw [if_pos hv];omega
  ·rw [if_neg hv];exact Nat.min_le_right _ _
def sQ (v:Int) (n d:Nat):(if v < 0 then max (v+(n:Int)) 0 else min v (n:Int))=((sIx n d (some v):Nat):Int):=by
 show (if v < 0 then max (v+(n:Int)) 0 else min v (n:Int))=(((if v < 0 then (v+(n:Int)).toNat else min v.toNat n):Nat):Int)
 by_cases hv:v < 0
 ·simp only [if_pos hv];omega
 ·simp only [if_neg hv];omega
def qU (lo hi:Option Int) (n:Nat):Builtin.Slice.sliceAdjust lo hi 1 (n:Int)=(((sIx n 0 lo:Nat):Int),((sIx n n hi:Nat):Int)):=by
 have h1:¬ ((1:Int) < 0):=by omega
 unfold Builtin.Slice.sliceAdjust;simp only [h1,if_false];refine Prod.ext ?_ ?_
 ·cases lo with
  | none=>rfl
  | some v=>exact sQ v n 0
 ·cases hi with
  | none=>rfl
  | some v=>exact sQ v n n
def qV (i j:Nat):Builtin.Slice.slicePlaces (i:Int) (j:Int) 1=j - i:=by
 unfold Builtin.Slice.slicePlaces;have h1:(1:Int) > 0:=by omega
 simp only [h1,if_true,Int.ediv_one];split<;>omega
def kG {v:Value} {o:Option Int} {Q:Option Int->Shared->Prop} (p:IsPart v o) (h:Q o s):wpAny (model prog w) A (Builtin.Slice.slicePartIndex v) Q E s:=by
 cases p with
 | none=>exact slicePart_none h
 | int i t=>exact slicePart_int h
def sliceApplied_gen {sl:Addr} {vl vu:Value} {lo hi:Option Int} {n:Nat} {Q:Int×Int×Nat->Shared->Prop} (hs:s.heap.IsSliceOf sl vl vu .none) (pl:IsPart vl lo) (pu:IsPart vu hi)
  (h:Q (((sIx n 0 lo:Nat):Int),1,sIx n n hi - sIx n 0 lo) s):wpAny (model prog w) A (Builtin.Slice.sliceApplied (.ref sl) (pure (n:Int))) Q E s:=by
 obtain ⟨os,hos,hcs,hds⟩:=id hs;unfold Builtin.Slice.sliceApplied Builtin.Slice.sliceFields;refine wpAny_bind (wpAny_bind (wpAny_field hos hds (x:=vl) rfl (wpAny_bind (wpAny_field hos hds (x:=vu) rfl (wpAny_bind (wpAny_field hos hds (x:=.none) rfl (wpAny_pure ?_)))))));refine wpAny_bind (slicePart_none ?_);show wpAny _ _ (if ((1:Int)==0)=true then _ else _) _ _ s;rw [if_neg (by decide)];refine wpAny_bind (kG pl (wpAny_bind (kG pu (wpAny_bind (wpAny_pure ?_)))));show wpAny _ _ (match Builtin.Slice.sliceAdjust lo hi 1 (n:Int) with | (lo,hi)=>pure (lo,(1:Int),Builtin.Slice.slicePlaces lo hi 1)) _ _ s;rw [qU lo hi n];show wpAny _ _ (pure (((sIx n 0 lo:Nat):Int),(1:Int),Builtin.Slice.slicePlaces ((sIx n 0 lo:Nat):Int) ((sIx n n hi:Nat):Int) 1)) _ _ s;rw [qV];exact wpAny_pure h
def wD (xs:Array Value) (i k:Nat):((List.range k).filterMap fun (m:Nat)=>xs[((i:Int)+(m:Int)*1).toNat]?).toArray=((xs.toList.drop i).take k).toArray:=by
 have e:(fun (m:Nat)=>xs[((i:Int)+(m:Int)*1).toNat]?)=fun m=>xs[i+m]?:=by
  funext m
  have:((i:Int)+(m:Int)*1).toNat=i+m:=by omega
  rw [this]
 rw [e];have:=pick_run xs i k;rw [List.filterMap_map] at this;have e2:((fun x=>xs[x]?) ∘ fun x=>i+x)=fun m=>xs[i+m]?:=rfl;rw [e2] at this;rw [this]

def getItem_tuple_cut {t sl:Addr} {items:Array Value} {vl vu:Value} {lo hi:Option Int} {Q:Value->Shared->Prop} (ht:IsTup s.heap t items) (hs:s.heap.IsSliceOf sl vl vu .none) (pl:IsPart vl lo) (pu:IsPart vu hi)
  (hw:¬ (sIx items.size 0 lo=0/\sIx items.size items.size hi=items.size))
  (h:Q (.ref s.heap.objs.size) { s with heap:=s.heap.push { cls:=.type "tuple",data:=.seq ((items.toList.drop (sIx items.size 0 lo)).take (sIx items.size items.size hi - sIx items.size 0 lo)).toArray } })
  (hsz:items.size<=sizeLine):wpAny (model prog w) A (getItem (.ref t) (.ref sl)) Q E s:=by
 have htake:sizeOk (.seq ((items.toList.drop (sIx items.size 0 lo)).take (sIx items.size items.size hi - sIx items.size 0 lo)).toArray):=by
  show ((items.toList.drop (sIx items.size 0 lo)).take (sIx items.size items.size hi - sIx items.size 0 lo)).toArray.size<=sizeLine;rw [List.size_toArray,List.length_take,List.length_drop,Array.length_toList];omega
 have hj:sIx items.size items.size hi<=items.size:=aK7 _ _ (Nat.le_refl _) hi;obtain ⟨os,hos,hcs,hds⟩:=id hs;have hTs:s.TypeIs (.ref sl) "slice":=⟨os,hos,hcs⟩;unfold getItem;try with_reducible refine wpAny_holding ?_
 first | refine wpAny_bind (wpAny_pure ?_) | skip
 refine wpAny_bind (wpAny_sequenceKey ht.typeIs (by decide) ?_);refine wpAny_bind (wpAny_callSpecial?_slot (name:=Str.ofString "__getitem__") ht.typeIs PyProof.Rows.slot_tuple_getitem
  (wpAny_call_entry PyProof.Rows.slot_tuple_getitem ht.typeIs entry_tuple_getitem ?_ (args_tuple_getitem _ _)))
 show wpAny _ _ (Builtin.Tuple.tupleItemsOf (.ref t) >>= _) _ _ s;refine wpAny_bind (tupleItemsOf_ ht ?_);refine wpAny_bind (wpAny_typeOf hTs ?_);rw [if_pos (by decide)];refine wpAny_bind (sliceApplied_gen hs pl pu ?_);have hno:¬ ((((sIx items.size 0 lo:Nat):Int)==0&&(1:Int)==1&&(sIx items.size items.size hi - sIx items.size 0 lo)==items.size)=true):=by
  intro q;rw [Bool.and_eq_true,Bool.and_eq_true] at q;have q1:((sIx items.size 0 lo:Nat):Int)=0:=eq_of_beq q.1.1;have q2:sIx items.size items.size hi - sIx items.size 0 lo=items.size:=eq_of_beq q.2;exact hw ⟨by omega,by omega⟩
 show wpAny _ _ (if (((sIx items.size 0 lo:Nat):Int)==0&&(1:Int)==1&&(sIx items.size items.size hi - sIx items.size 0 lo)==items.size)=true then _ else _) _ _ s;rw [if_neg hno,wD]
 first
  | exact wpAny_bind (m:=Builtin.Tuple.tupleExact _) (wpAny_newObj_type (wpAny_pure ⟨_,rfl,wpAny_pure h⟩) htake)
  | exact wpAny_bind (m:=Builtin.Tuple.tupleExact _) (wpAny_newObj_type (wpAny_bind (wpAny_pure (wpAny_pure ⟨_,rfl,wpAny_pure h⟩))) htake)
  | exact wpAny_bind (wpAny_bind (m:=Builtin.Tuple.tupleExact _) (wpAny_newObj_type (wpAny_pure (wpAny_pure ⟨_,rfl,wpAny_pure h⟩)) htake))
  | exact wpAny_bind (wpAny_bind (m:=Builtin.Tuple.tupleExact _) (wpAny_newObj_type (wpAny_pure ⟨_,rfl,wpAny_pure h⟩) htake))
end
end HT

namespace DL
open PySem PySem.Spec PyProof.Rows L2
set_option genInjectivity true in
inductive W where
 | d (x:PyData)
 | c (i:Nat)
set_option genInjectivity true in
inductive Cell where
 | l (xs:List PyData)
 | k (kvs:List (PyData×PyData))
 | o (C:Addr) (fs:List (Str×W))
 | r (is:List Nat)
 | n (kvs:List (PyData×PyData))
 | t (qs:List (Pos×Str))
abbrev aA:=List Cell
abbrev DSt:=List (Option W)
noncomputable def cR:PyData->Option Key
 | .int i=>some (.inl i)
 | .str x=>if PyData.strOk x=true then some (.inr x) else none
 | _=>none
section
variable {α β γ:Type} {F G:α->β->Prop}
theorem pE (f:∀ a b,F a b->G a b):∀ {l:List α} {r:List β},Paired F l r->Paired G l r
 | _,_,.nil=>.nil
 | _,_,.cons h t=>.cons (f _ _ h) (pE f t)
theorem kH:∀ {l:List α} {r:List β} {i:Nat} {a:α},Paired F l r->l[i]?=some a->∃ b,r[i]?=some b/\F a b
 | _,_,_,_,.nil,e=>by simp at e
 | _,_,0,_,.cons h _,e=>by simp at e;subst e;exact ⟨_,rfl,h⟩
 | _,_,i+1,a,.cons _ t,e=>by
  obtain ⟨b,h1,h2⟩:=kH (i:=i) (a:=a) t (by simpa using e);exact ⟨b,by simpa using h1,h2⟩
theorem aX8 {a:α} {b:β} (h:F a b):∀ {l:List α} {r:List β} (i:Nat),Paired F l r->Paired F (l.set i a) (r.set i b)
 | _,_,_,.nil=>.nil
 | _,_,0,.cons _ t=>.cons h t
 | _,_,i+1,.cons q t=>.cons q (aX8 h i t)
theorem uH:∀ {l l':List α} {r r':List β},Paired F l r->Paired F l' r'->Paired F (l++l') (r++r')
 | _,_,_,_,.nil,s=>s
 | _,_,_,_,.cons h t,s=>.cons h (uH t s)
theorem wE:∀ {l:List α} {r:List β} (n:Nat),Paired F l r->Paired F (l.take n) (r.take n)
 | _,_,0,_=>.nil
 | _,_,_+1,.nil=>.nil
 | _,_,n+1,.cons h t=>.cons h (wE n t)
theorem wF:∀ {l:List α} {r:List β} (n:Nat),Paired F l r->Paired F (l.drop n) (r.drop n)
 | _,_,0,h=>h
 | _,_,_+1,.nil=>.nil
 | _,_,n+1,.cons _ t=>wF n t
theorem wG:∀ {l:List α} {r:List β} (n:Nat),Paired F l r->Paired F (l.eraseIdx n) (r.eraseIdx n)
 | _,_,_,.nil=>.nil
 | _,_,0,.cons _ t=>t
 | _,_,n+1,.cons h t=>.cons h (wG n t)
def bR0 {l:List α} {r:List β} (h:Paired F l r):Paired F l.reverse r.reverse:=by
 induction h with
 | nil=>exact .nil
 | cons a _ ih=>rw [List.reverse_cons,List.reverse_cons];exact Paired.snoc ih a
theorem wH {f:γ->α}:∀ {l:List γ} {r:List β},Paired (fun a b=>F (f a) b) l r->Paired F (l.map f) r
 | _,_,.nil=>.nil
 | _,_,.cons h t=>.cons h (wH t)
theorem sS {f:γ->α}:∀ {l:List γ} {r:List β},Paired F (l.map f) r->Paired (fun a b=>F (f a) b) l r
 | [],_,h=>by cases h;exact .nil
 | _::_,_,h=>by cases h with | cons h t=>exact .cons h (sS t)
end
structure Sx where
 P:Program
 w:World
 K:PySem.W.Frag
 mg:Str->Option Value
 base:Heap
 os:OsState
 tb:Array Value
 tp:Addr
abbrev Zm:=Addr->Option Obj
structure Mp where
 Z:Zm
 m:List (Addr×Addr)
abbrev Kp:=Addr->Option (Bool×Obj)
def SqO (n:String) (o:Obj) (us:List Value):Prop:=(∃ k,o={ cls:=.type n,data:=.seq us.toArray k })/\us.length<=sizeLine
def DcO (S:Sx) (a:Addr) (o:Obj) (vs:List (Key×Value)):Prop:=(a==sysModules)=false/\vs.length<=sizeLine/\∀ h:Heap,h.get? a=some o->h.DictOf (bA S.P S.w) a vs
mutual
noncomputable def Rep (S:Sx) (Z:Zm):PyData->Value->Prop
 | .none,u=>u=.none
 | .bool b,u=>u=.bool b
 | .int i,u=>∃ t,u=.int i t
 | .str x,u=>(∃ t,u=.str x t)/\PyData.strOk x=true
 | .list xs,u=>∃ a o us,u=.ref a/\Z a=some o/\SqO "list" o us/\Reps S Z xs us
 | .tuple xs,u=>∃ a o us,u=.ref a/\Z a=some o/\SqO "tuple" o us/\Reps S Z xs us
 | .dict kvs,u=>∃ a o vs,u=.ref a/\Z a=some o/\DcO S a o vs/\RepKs S Z kvs vs
noncomputable def Reps (S:Sx) (Z:Zm):List PyData->List Value->Prop
 | [],us=>us=[]
 | x::xs,us=>∃ u r,us=u::r/\Rep S Z x u/\Reps S Z xs r
noncomputable def RepKs (S:Sx) (Z:Zm):List (PyData×PyData)->List (Key×Value)->Prop
 | [],vs=>vs=[]
 | p::kvs,vs=>∃ q r,vs=q::r/\RepP S Z p q/\RepKs S Z kvs r
noncomputable def RepP (S:Sx) (Z:Zm):PyData×PyData->Key×Value->Prop
 | (k,x),q=>cR k=some q.1/\Rep S Z x q.2
end
section
variable {S:Sx} {Z Z':Zm}
theorem reps_iff:∀ {xs:List PyData} {us:List Value},Reps S Z xs us ↔ Paired (Rep S Z) xs us
 | [],us=>by rw [Reps];exact ⟨fun e=>e ▸ .nil,fun h=>by cases h;rfl⟩
 | x::xs,us=>by
  rw [Reps];exact ⟨fun ⟨u,r,e,h,t⟩=>e ▸ .cons h (reps_iff.mp t),fun h=>by cases h with | cons h t=>exact ⟨_,_,rfl,h,reps_iff.mpr t⟩⟩
abbrev RepK (S:Sx) (Z:Zm):List (PyData×PyData)->List (Key×Value)->Prop:=Paired fun p q=>cR p.1=some q.1/\Rep S Z p.2 q.2
theorem repks_iff:∀ {xs:List (PyData×PyData)} {us:List (Key×Value)},RepKs S Z xs us ↔ RepK S Z xs us
 | [],us=>by rw [RepKs];exact ⟨fun e=>e ▸ .nil,fun h=>by cases h;rfl⟩
 | (k,x)::xs,us=>by
  rw [RepKs];exact ⟨fun ⟨u,r,e,h,t⟩=>by rw [RepP] at h;exact e ▸ .cons h (repks_iff.mp t),fun h=>by cases h with | cons h t=>exact ⟨_,_,rfl,by rw [RepP];exact h,repks_iff.mpr t⟩⟩
def rep_l {xs:List PyData} {u:Value}:Rep S Z (.list xs) u ↔ ∃ a o us,u=.ref a/\Z a=some o/\SqO "list" o us/\Paired (Rep S Z) xs us:=by rw [Rep];simp only [reps_iff]
def rep_t {xs:List PyData} {u:Value}:Rep S Z (.tuple xs) u ↔ ∃ a o us,u=.ref a/\Z a=some o/\SqO "tuple" o us/\Paired (Rep S Z) xs us:=by rw [Rep];simp only [reps_iff]
def rep_d {xs:List (PyData×PyData)} {u:Value}:Rep S Z (.dict xs) u ↔ ∃ a o vs,u=.ref a/\Z a=some o/\DcO S a o vs/\RepK S Z xs vs:=by rw [Rep];simp only [repks_iff]
def aX9 {u:Value}:Rep S Z .none u ↔ u=.none:=by rw [Rep]
def rep_b {b:Bool} {u:Value}:Rep S Z (.bool b) u ↔ u=.bool b:=by rw [Rep]
def rep_i {i:Int} {u:Value}:Rep S Z (.int i) u ↔ ∃ t,u=.int i t:=by rw [Rep]
def rep_s {x:Str} {u:Value}:Rep S Z (.str x) u ↔ (∃ t,u=.str x t)/\PyData.strOk x=true:=by rw [Rep]
mutual
theorem Rep.go (hs:∀ a o,Z a=some o->Z' a=some o):∀ {d:PyData} {v:Value},Rep S Z d v->Rep S Z' d v
 | .none,_,h=>by rw [Rep] at h ⊢;exact h
 | .bool _,_,h=>by rw [Rep] at h ⊢;exact h
 | .int _,_,h=>by rw [Rep] at h ⊢;exact h
 | .str _,_,h=>by rw [Rep] at h ⊢;exact h
 | .list xs,_,h=>by rw [Rep] at h ⊢;obtain ⟨a,o,us,e,z,q,r⟩:=h;exact ⟨a,o,us,e,hs _ _ z,q,Reps.go hs r⟩
 | .tuple xs,_,h=>by rw [Rep] at h ⊢;obtain ⟨a,o,us,e,z,q,r⟩:=h;exact ⟨a,o,us,e,hs _ _ z,q,Reps.go hs r⟩
 | .dict xs,_,h=>by rw [Rep] at h ⊢;obtain ⟨a,o,us,e,z,q,r⟩:=h;exact ⟨a,o,us,e,hs _ _ z,q,RepKs.go hs r⟩
theorem Reps.go (hs:∀ a o,Z a=some o->Z' a=some o):∀ {ds:List PyData} {vs:List Value},Reps S Z ds vs->Reps S Z' ds vs
 | [],_,h=>by rw [Reps] at h ⊢;exact h
 | x::xs,_,h=>by rw [Reps] at h ⊢;obtain ⟨v,r,e,h1,h2⟩:=h;exact ⟨v,r,e,Rep.go hs h1,Reps.go hs h2⟩
theorem RepKs.go (hs:∀ a o,Z a=some o->Z' a=some o):∀ {ds:List (PyData×PyData)} {vs:List (Key×Value)},RepKs S Z ds vs->RepKs S Z' ds vs
 | [],_,h=>by rw [RepKs] at h ⊢;exact h
 | x::xs,_,h=>by rw [RepKs] at h ⊢;obtain ⟨v,r,e,h1,h2⟩:=h;exact ⟨v,r,e,RepP.go hs h1,RepKs.go hs h2⟩
theorem RepP.go (hs:∀ a o,Z a=some o->Z' a=some o):∀ {p:PyData×PyData} {q:Key×Value},RepP S Z p q->RepP S Z' p q
 | (k,x),q,h=>by rw [RepP] at h ⊢;exact ⟨h.1,Rep.go hs h.2⟩
end
end
def RepW (S:Sx) (M:Mp):W->Value->Prop
 | .d x,u=>Rep S M.Z x u
 | .c i,u=>∃ p,M.m[i]?=some p/\u=.ref p.1
abbrev Reps' (S:Sx) (M:Mp):List PyData->List Value->Prop:=Paired (Rep S M.Z)
abbrev RepWs (S:Sx) (M:Mp):List W->List Value->Prop:=Paired (RepW S M)
structure Le (M M':Mp):Prop where
 z:∀ a o,M.Z a=some o->M'.Z a=some o
 m:∃ n,M'.m=M.m++n
def Le.refl {M:Mp}:Le M M:=⟨fun _ _ e=>e,[],by simp⟩
def Le.trans {M N O:Mp} (a:Le M N) (b:Le N O):Le M O:=⟨fun x o e=>b.z x o (a.z x o e),let ⟨n,e⟩:=a.m;let ⟨k,q⟩:=b.m;⟨n++k,by rw [q,e,List.append_assoc]⟩⟩
def Le.at {M M':Mp} (l:Le M M') {i:Nat} {p:Addr×Addr} (e:M.m[i]?=some p):M'.m[i]?=some p:=by
 obtain ⟨n,q⟩:=l.m;rw [q,List.getElem?_append_left (List.getElem?_eq_some_iff.mp e).1,e]
section
variable {S:Sx} {M M':Mp}
def RepW.go (l:Le M M') {w:W} {u:Value} (r:RepW S M w u):RepW S M' w u:=by
 cases w with
 | d x=>exact Rep.go l.z r
 | c i=>obtain ⟨p,e,q⟩:=r;exact ⟨p,l.at e,q⟩
def RepWs.go (l:Le M M') {w:List W} {u:List Value} (r:RepWs S M w u):RepWs S M' w u:=pE (fun _ _ h=>h.go l) r
def Reps'.go (l:Le M M') {w:List PyData} {u:List Value} (r:Reps' S M w u):Reps' S M' w u:=pE (fun _ _ h=>Rep.go l.z h) r
def RepK.go (l:Le M M') {w:List (PyData×PyData)} {u:List (Key×Value)} (r:RepK S M.Z w u):RepK S M'.Z w u:=pE (fun _ _ h=>⟨h.1,Rep.go l.z h.2⟩) r
end
def RelO (S:Sx) (M:Mp):Option W->Option Value->Prop
 | some v,some u=>RepW S M v u
 | none,none=>True
 | _,_=>False
theorem RelO.go {S:Sx} {M M':Mp} (l:Le M M'):∀ {a:Option W} {b:Option Value},RelO S M a b->RelO S M' a b
 | some _,some _,h=>RepW.go l h
 | none,none,h=>h
 | some _,none,h=>h.elim
 | none,some _,h=>h.elim
end DL

namespace CI
open PySem
mutual
noncomputable def aI:Nat->PyData->Bool
 | _,.none=>true
 | _,.bool _=>true
 | _,.int _=>true
 | _,.str _=>true
 | n+1,.list xs=>plainsB n xs
 | n+1,.tuple xs=>plainsB n xs
 | _,_=>false
noncomputable def plainsB:Nat->List PyData->Bool
 | _,[]=>true
 | n,x::xs=>aI n x&&plainsB n xs
end
mutual
noncomputable def peq:PyData->PyData->Bool
 | .none,.none=>true
 | .bool a,.bool b=>a==b
 | .int a,.int b=>a==b
 | .str a,.str b=>a==b
 | .list a,.list b=>peqs a b
 | .tuple a,.tuple b=>peqs a b
 | _,_=>false
noncomputable def peqs:List PyData->List PyData->Bool
 | [],[]=>true
 | x::a,y::b=>peq x y&&peqs a b
 | _,_=>false
end
end CI
namespace DL
open PySem PySem.Spec PyProof.Rows L2 CI
section
variable {S:Sx}
mutual
theorem Rep.reads {Z:Zm} {hp:Heap} (k:∀ a o,Z a=some o->hp.get? a=some o):∀ {d:PyData} {u:Value} (n:Nat),Rep S Z d u->aI n d=true->(∃ as,Reads hp u d as)/\d.canLay0=true/\d.depth<=n
 | .none,_,n,h,_=>by rw [Rep] at h;subst h;exact ⟨⟨_,Reads.none⟩,by simp [PyData.canLay0,PyData.depth]⟩
 | .bool _,_,n,h,_=>by rw [Rep] at h;subst h;exact ⟨⟨_,Reads.bool _⟩,by simp [PyData.canLay0,PyData.depth]⟩
 | .int _,_,n,h,_=>by rw [Rep] at h;obtain ⟨t,rfl⟩:=h;exact ⟨⟨_,Reads.int _ _⟩,by simp [PyData.canLay0,PyData.depth]⟩
 | .str _,_,n,h,_=>by rw [Rep] at h;obtain ⟨⟨t,rfl⟩,z⟩:=h;exact ⟨⟨_,Reads.str _ _⟩,by simp [PyData.canLay0,PyData.depth,z]⟩
 | .list xs,_,0,_,p=>by cases p
 | .tuple xs,_,0,_,p=>by cases p
 | .list xs,_,n+1,h,p=>by
  rw [Rep] at h;obtain ⟨a,o,us,rfl,z,⟨⟨m,rfl⟩,_⟩,r⟩:=h;obtain ⟨⟨as,q⟩,c,l⟩:=Reps.reads k n r (show plainsB n xs=true from p);exact ⟨⟨_,Reads.list (k _ _ z) rfl rfl (by simpa using q)⟩,by simp [PyData.canLay0,PyData.depth,c,l]⟩
 | .tuple xs,_,n+1,h,p=>by
  rw [Rep] at h;obtain ⟨a,o,us,rfl,z,⟨⟨m,rfl⟩,_⟩,r⟩:=h;obtain ⟨⟨as,q⟩,c,l⟩:=Reps.reads k n r (show plainsB n xs=true from p);exact ⟨⟨_,Reads.tuple (k _ _ z) rfl rfl (by simpa using q)⟩,by simp [PyData.canLay0,PyData.depth,c,l]⟩
 | .dict _,_,n,_,p=>by cases n<;>cases p
theorem Reps.reads {Z:Zm} {hp:Heap} (k:∀ a o,Z a=some o->hp.get? a=some o):∀ {d:List PyData} {u:List Value} (n:Nat),Reps S Z d u->plainsB n d=true->(∃ as,ReadsAll hp u d as)/\PyData.canLayAll0 d=true/\PyData.depthAll d<=n
 | [],_,n,h,_=>by rw [Reps] at h;subst h;exact ⟨⟨_,ReadsAll.nil⟩,by simp [PyData.canLayAll0,PyData.depthAll]⟩
 | x::xs,_,n,h,p=>by
  rw [Reps] at h;obtain ⟨v,r,rfl,h1,h2⟩:=h
  replace p:(aI n x&&plainsB n xs)=true:=p
  rw [Bool.and_eq_true] at p;obtain ⟨⟨as,q1⟩,c1,l1⟩:=Rep.reads k n h1 p.1;obtain ⟨⟨bs,q2⟩,c2,l2⟩:=Reps.reads k n h2 p.2;refine ⟨⟨_,ReadsAll.cons q1 q2⟩,?_⟩;simp [PyData.canLayAll0,PyData.depthAll,c1,c2];omega
end
end
end DL

namespace DL
open PySem PySem.Spec PyProof.Rows L2 CI
mutual
noncomputable def hkB:Nat->PyData->Bool
 | _,.int _=>true
 | _,.str x=>PyData.strOk x
 | n+1,.tuple xs=>hksB n xs
 | _,_=>false
noncomputable def hksB:Nat->List PyData->Bool
 | _,[]=>true
 | n,x::xs=>hkB n x&&hksB n xs
end
theorem nM {n:Nat} {x:PyData}:∀ {xs:List PyData},hksB n xs=true->x∈xs->hkB n x=true
 | y::ys,h,m=>by
  rw [hksB,Bool.and_eq_true] at h;rcases List.mem_cons.mp m with rfl | m
  ·exact h.1
  ·exact nM h.2 m
mutual
theorem fF:∀ {n m:Nat} {a b:PyData},hkB n a=true->hkB m b=true->PyData.eqv a b=peq a b/\(peq a b=true ↔ a=b)
 | _,_,.int i,.int j,_,_=>⟨rfl,by show (i==j)=true ↔ _;simp⟩
 | _,_,.int i,.str j,_,_=>⟨rfl,fun h=>(by cases h),fun h=>(by cases h)⟩
 | _,_,.int i,.tuple j,_,_=>⟨rfl,fun h=>(by cases h),fun h=>(by cases h)⟩
 | _,_,.str i,.int j,_,_=>⟨rfl,fun h=>(by cases h),fun h=>(by cases h)⟩
 | _,_,.str i,.str j,_,_=>⟨rfl,by show (i==j)=true ↔ _;simp⟩
 | _,_,.str i,.tuple j,_,_=>⟨rfl,fun h=>(by cases h),fun h=>(by cases h)⟩
 | _,_,.tuple i,.int j,_,_=>⟨rfl,fun h=>(by cases h),fun h=>(by cases h)⟩
 | _,_,.tuple i,.str j,_,_=>⟨rfl,fun h=>(by cases h),fun h=>(by cases h)⟩
 | n+1,m+1,.tuple i,.tuple j,h1,h2=>by
  rw [hkB] at h1 h2;obtain ⟨e1,e2⟩:=hks_peq h1 h2;exact ⟨e1,by show peqs i j=true ↔ _;rw [e2];simp⟩
 | 0,_,.tuple _,_,h,_=>by simp [hkB] at h
 | _,0,_,.tuple _,_,h=>by simp [hkB] at h
 | _,_,.none,_,h,_=>by simp [hkB] at h
 | _,_,.bool _,_,h,_=>by simp [hkB] at h
 | _,_,.list _,_,h,_=>by simp [hkB] at h
 | _,_,.dict _,_,h,_=>by simp [hkB] at h
 | _,_,_,.none,_,h=>by simp [hkB] at h
 | _,_,_,.bool _,_,h=>by simp [hkB] at h
 | _,_,_,.list _,_,h=>by simp [hkB] at h
 | _,_,_,.dict _,_,h=>by simp [hkB] at h
theorem hks_peq:∀ {n m:Nat} {a b:List PyData},hksB n a=true->hksB m b=true->PyData.eqvAll a b=peqs a b/\(peqs a b=true ↔ a=b)
 | _,_,[],[],_,_=>⟨rfl,fun _=>rfl,fun _=>rfl⟩
 | _,_,[],_::_,_,_=>⟨rfl,fun h=>(by cases h),fun h=>(by cases h)⟩
 | _,_,_::_,[],_,_=>⟨rfl,fun h=>(by cases h),fun h=>(by cases h)⟩
 | n,m,x::xs,y::ys,h1,h2=>by
  rw [hksB,Bool.and_eq_true] at h1 h2;obtain ⟨e1,e2⟩:=fF h1.1 h2.1;obtain ⟨e3,e4⟩:=hks_peq h1.2 h2.2;show (PyData.eqv x y&&PyData.eqvAll xs ys)=(peq x y&&peqs xs ys)/\((peq x y&&peqs xs ys)=true ↔ _);rw [e1,e3];exact ⟨rfl,by rw [Bool.and_eq_true,e2,e4,List.cons.injEq]⟩
end
abbrev HK:={ d:PyData // hkB 4 d=true }
noncomputable instance:DecidableEq HK:=fun x y=>if h:peq x.1 y.1=true then isTrue (Subtype.ext ((fF x.2 y.2).2.mp h)) else isFalse fun e=>h ((fF x.2 y.2).2.mpr (congrArg Subtype.val e))
def aY0 (x y:HK):PyData.eqv x.1 y.1=decide (x=y):=by
 rw [(fF x.2 y.2).1,Bool.eq_iff_iff,(fF x.2 y.2).2,decide_eq_true_iff];exact Subtype.ext_iff.symm
mutual
theorem kI:∀ {n:Nat} {a:PyData},hkB n a=true->aI n a=true
 | _,.int _,_=>by simp [aI]
 | _,.str _,_=>by simp [aI]
 | n+1,.tuple xs,h=>by rw [hkB] at h;rw [aI];exact hks_plain h
 | 0,.tuple _,h=>by simp [hkB] at h
 | _,.none,h=>by simp [hkB] at h
 | _,.bool _,h=>by simp [hkB] at h
 | _,.list _,h=>by simp [hkB] at h
 | _,.dict _,h=>by simp [hkB] at h
theorem hks_plain:∀ {n:Nat} {a:List PyData},hksB n a=true->plainsB n a=true
 | _,[],_=>by simp [plainsB]
 | n,x::xs,h=>by
  rw [hksB,Bool.and_eq_true] at h;rw [plainsB,kI h.1,hks_plain h.2];rfl
end
mutual
noncomputable def hkH (w:World):PyData->Int
 | .int i=>hashInt i
 | .str x=>hashStr w x
 | .tuple xs=>reduceHash (Builtin.Tuple.tupleHashOf (hksH w xs))
 | _=>0
noncomputable def hksH (w:World):List PyData->List Int
 | []=>[]
 | x::xs=>hkH w x::hksH w xs
end
mutual
noncomputable def hkD:PyData->Nat
 | .tuple xs=>hksD xs+1
 | _=>1
noncomputable def hksD:List PyData->Nat
 | []=>0
 | x::xs=>hkD x+hksD xs
end
theorem kJ (w:World) (x:PyData):∀ xs:List PyData,hksH w (xs++[x])=hksH w xs++[hkH w x]
 | []=>by simp [hksH]
 | y::ys=>by rw [List.cons_append,hksH,hksH,kJ w x ys];rfl
theorem kK (x:PyData):∀ xs:List PyData,hksD (xs++[x])=hksD xs+hkD x
 | []=>by simp [hksD]
 | y::ys=>by rw [List.cons_append,hksD,hksD,kK x ys];omega
section
variable {S:Sx} {A:Around} {E:Value->Shared->Prop} {s:Shared}
def nN {Z:Zm} {xs:List PyData} {v:Value} (r:Rep S Z (.tuple xs) v):∃ a n us,v=.ref a/\Z a=some { cls:=.type "tuple",data:=.seq us.toArray n }/\Paired (Rep S Z) xs us:=by
 obtain ⟨a,o,us,rfl,z,⟨⟨n,rfl⟩,_⟩,rr⟩:=rep_t.mp r;exact ⟨a,n,us,rfl,z,rr⟩
def aC0:∀ (n:Nat) {d:PyData} {v:Value} {A:Around} {s:Shared} {Q:Int->Shared->Prop},hkB n d=true->Rep S s.heap.get? d v->A.units+n < cLine->Q (hkH S.w d) { s with toks:=s.toks+hkD d }->wpAny (model S.P S.w) A (pyHash v) Q E s:=by
 intro n;induction n with
 | zero =>
  intro d v A s Q hd r hu h;cases d with
  | int i=>obtain ⟨t,rfl⟩:=rep_i.mp r;exact (bA S.P S.w).pyHash (k:=.inl i) (iS i t) (by simp only [hkD,hkH] at h;exact h)
  | str x=>obtain ⟨⟨t,rfl⟩,_⟩:=rep_s.mp r;exact (bA S.P S.w).pyHash (k:=.inr x) (iU x t) (by simp only [hkD,hkH] at h;exact h)
  | _=>simp [hkB] at hd
 | succ n ih =>
  intro d v A s Q hd r hu h;cases d with
  | int i=>obtain ⟨t,rfl⟩:=rep_i.mp r;exact (bA S.P S.w).pyHash (k:=.inl i) (iS i t) (by simp only [hkD,hkH] at h;exact h)
  | str x=>obtain ⟨⟨t,rfl⟩,_⟩:=rep_s.mp r;exact (bA S.P S.w).pyHash (k:=.inr x) (iU x t) (by simp only [hkD,hkH] at h;exact h)
  | tuple xs =>
   rw [hkB] at hd;obtain ⟨a,k,us,rfl,ho,rr⟩:=nN r;have hT:s.TypeIs (.ref a) "tuple":=⟨_,ho,rfl⟩;unfold pyHash
   first | unfold pyHashByItsType | skip
   first | refine wpAny_bind (wpAny_cRoomFor_or (.inr (by omega)) ?_) | skip
   refine wpAny_bind (wpAny_specialOf hT F.slot_tuple_hash.lookup ?_);show wpAny _ _ (if (some (Value.builtin "tuple.__hash__")==some Value.none)=true then _ else _) Q E s;rw [if_neg (by rw [beq_builtin_none];exact Bool.false_ne_true)];refine wpAny_bind (wpAny_specialOf hT F.slot_tuple_hash.lookup ?_);show wpAny _ _ (callSpecialIfBoundUnlessNone? (.ref a) "__hash__" _ >>= _) Q E s;refine wpAny_bind (wpAny_callSpecialIfBoundUnlessNone?_slot hT F.slot_tuple_hash (wpAny_call_entry F.slot_tuple_hash hT F.entry_tuple_hash ?_ (F.args_tuple_hash_1 _)));show wpAny _ _ (Builtin.Tuple.tupleItemsOf (.ref a) >>= _) _ _ s;refine wpAny_bind (wpAny_tupleItemsOf ho rfl ?_);refine wpAny_bind ?_;rw [<- Array.forIn_toList];refine wpAny_forIn_list _
    (fun rest (b:Array Int) s'=>∃ done left,xs=done++left/\Paired (Rep S s.heap.get?) left rest/\b.toList=hksH S.w done/\s'={ s with toks:=s.toks+hksD done })
    _ ?_ ?_ _ _ ⟨[],xs,rfl,rr,by simp [hksH],by simp [hksD]⟩
   ·rintro x rest b s' ⟨done,left,rfl,hl,hb,rfl⟩;cases hl with
    | @cons y _ ys _ h1 hl' =>
     refine wpAny_bind (ih (nM hd (by simp)) h1 (by first | exact Nat.lt_of_le_of_lt (Nat.le_of_eq (by show A.units+1+n=A.units+(n+1);omega)) hu | omega) ?_)
     first
      | exact wpAny_pure ⟨done++[y],ys,by simp,hl',by rw [kJ];simp [hb],by rw [kK,Nat.add_assoc]⟩
      | exact wpAny_bind (wpAny_pure (wpAny_pure ⟨done++[y],ys,by simp,hl',by rw [kJ];simp [hb],by rw [kK,Nat.add_assoc]⟩))
   ·rintro b s' ⟨done,left,rfl,hl,hb,rfl⟩;cases hl;rw [List.append_nil] at h;show wpAny _ _ (retInt (Builtin.Tuple.tupleHashOf b.toList)) _ _ _;rw [hb];refine wpAny_ret_mkInt ?_;show wpAny _ _ (if (decide (-(2:Int)^63<=Builtin.Tuple.tupleHashOf (hksH S.w done))&&decide (Builtin.Tuple.tupleHashOf (hksH S.w done) < 2^63))=true then _ else _) Q E _;rw [hkH,hkD] at h;unfold reduceHash at h
    by_cases hr:(decide (-(2:Int)^63<=Builtin.Tuple.tupleHashOf (hksH S.w done))&&decide (Builtin.Tuple.tupleHashOf (hksH S.w done) < 2^63))=true
    ·rw [if_pos hr];rw [if_pos hr] at h;exact wpAny_pure (by simpa [Nat.add_assoc] using h)
    ·rw [if_neg hr];rw [if_neg hr] at h;exact wpAny_bind (wpAny_rule (wpAny_pure (by simpa [Nat.add_assoc] using h)))
  | _=>simp [hkB] at hd
def wI:∀ (n m:Nat) {d:PyData} {v:Value} {s:Shared} {Q:Bool->Shared->Prop},n<=m->hkB n d=true->Rep S s.heap.get? d v->Q true s->wpAny (model S.P S.w) A (eqIsQuiet m v) Q E s:=by
 intro n;induction n with
 | zero =>
  intro m d v s Q _ hd r h;cases d with
  | int i=>obtain ⟨t,rfl⟩:=rep_i.mp r;rw [eqIsQuiet_byValue _ rfl];exact wpAny_pure h
  | str x=>obtain ⟨⟨t,rfl⟩,_⟩:=rep_s.mp r;rw [eqIsQuiet_byValue _ rfl];exact wpAny_pure h
  | _=>simp [hkB] at hd
 | succ n ih =>
  intro m d v s Q hm hd r h;cases d with
  | int i=>obtain ⟨t,rfl⟩:=rep_i.mp r;rw [eqIsQuiet_byValue _ rfl];exact wpAny_pure h
  | str x=>obtain ⟨⟨t,rfl⟩,_⟩:=rep_s.mp r;rw [eqIsQuiet_byValue _ rfl];exact wpAny_pure h
  | tuple xs =>
   rw [hkB] at hd;obtain ⟨a,k,us,rfl,ho,rr⟩:=nN r;have hT:s.TypeIs (.ref a) "tuple":=⟨_,ho,rfl⟩;obtain ⟨m,rfl⟩:∃ k,m=k+1:=⟨m - 1,by omega⟩;unfold eqIsQuiet;refine wpAny_bind (wpAny_specialOf hT F.slot_tuple_eq.lookup ?_);show wpAny _ _ (isInstance (.ref a) (.type "tuple") >>= _) _ _ s;refine wpAny_bind (wpAny_isInstance hT isSubtype_tuple_tuple ?_);simp only [Bool.not_true,Bool.false_eq_true,if_false];refine wpAny_bind (wpAny_seqItems ho rfl ?_);refine wpAny_bind ?_;show wpAny _ _ (forIn us.toArray _ _) _ _ s;rw [<- Array.forIn_toList];refine wpAny_forIn_list _ (fun rest r s'=>r.1=none/\s'=s/\∃ done left,xs=done++left/\Paired (Rep S s.heap.get?) left rest) _ ?_ ?_ _ _ ⟨rfl,rfl,[],xs,rfl,rr⟩
   ·rintro v rest r s' ⟨hr,rfl,done,left,rfl,hl⟩;cases hl with
    | @cons y _ ys _ h1 hl' =>
     refine wpAny_bind (ih m (by omega) (nM hd (by simp)) h1 ?_);simp only [Bool.not_true,Bool.false_eq_true,if_false];exact wpAny_pure ⟨rfl,rfl,done++[y],ys,by simp,hl'⟩
   ·rintro ⟨r1,r2⟩ s' ⟨hr,rfl,_⟩;simp only at hr;subst hr;exact wpAny_pure h
  | _=>simp [hkB] at hd
def aC1 {Z Z':Zm} (k:∀ a o us n,Z a=some o->o.data=.seq us n->Z' a=some o):∀ (n:Nat) {d:PyData} {v:Value},hkB n d=true->Rep S Z d v->Rep S Z' d v:=by
 intro n;induction n with
 | zero =>
  intro d v hd r;cases d with
  | int i=>exact rep_i.mpr (rep_i.mp r)
  | str x=>exact rep_s.mpr (rep_s.mp r)
  | _=>simp [hkB] at hd
 | succ n ih =>
  intro d v hd r;cases d with
  | int i=>exact rep_i.mpr (rep_i.mp r)
  | str x=>exact rep_s.mpr (rep_s.mp r)
  | tuple xs =>
   rw [hkB] at hd;obtain ⟨a,o,us,rfl,z,⟨⟨m,rfl⟩,hz⟩,rr⟩:=rep_t.mp r;refine rep_t.mpr ⟨a,_,us,rfl,k _ _ _ _ z rfl,⟨⟨m,rfl⟩,hz⟩,?_⟩;clear r z hz;induction rr with
   | nil=>exact .nil
   | cons h1 _ ih2 =>
    rw [hksB,Bool.and_eq_true] at hd;exact .cons (ih hd.1 h1) (ih2 hd.2)
  | _=>simp [hkB] at hd
def aK8 {Z:Zm}:∀ (n m:Nat) {a b:PyData} {v:Value},hkB n a=true->hkB m b=true->Rep S Z a v->Rep S Z b v->a=b:=by
 intro n;induction n with
 | zero =>
  intro m a b v ha hb ra rb;cases a with
  | int i =>
   obtain ⟨t,rfl⟩:=rep_i.mp ra;cases b with
   | int j=>obtain ⟨t',e⟩:=rep_i.mp rb;cases e;rfl
   | str x=>obtain ⟨⟨t',e⟩,_⟩:=rep_s.mp rb;cases e
   | tuple x=>obtain ⟨_,_,_,e,_⟩:=rep_t.mp rb;cases e
   | _=>simp [hkB] at hb
  | str x =>
   obtain ⟨⟨t,rfl⟩,_⟩:=rep_s.mp ra;cases b with
   | int j=>obtain ⟨t',e⟩:=rep_i.mp rb;cases e
   | str x=>obtain ⟨⟨t',e⟩,_⟩:=rep_s.mp rb;cases e;rfl
   | tuple x=>obtain ⟨_,_,_,e,_⟩:=rep_t.mp rb;cases e
   | _=>simp [hkB] at hb
  | _=>simp [hkB] at ha
 | succ n ih =>
  intro m a b v ha hb ra rb;cases a with
  | int i =>
   obtain ⟨t,rfl⟩:=rep_i.mp ra;cases b with
   | int j=>obtain ⟨t',e⟩:=rep_i.mp rb;cases e;rfl
   | str x=>obtain ⟨⟨t',e⟩,_⟩:=rep_s.mp rb;cases e
   | tuple x=>obtain ⟨_,_,_,e,_⟩:=rep_t.mp rb;cases e
   | _=>simp [hkB] at hb
  | str x =>
   obtain ⟨⟨t,rfl⟩,_⟩:=rep_s.mp ra;cases b with
   | int j=>obtain ⟨t',e⟩:=rep_i.mp rb;cases e
   | str x=>obtain ⟨⟨t',e⟩,_⟩:=rep_s.mp rb;cases e;rfl
   | tuple x=>obtain ⟨_,_,_,e,_⟩:=rep_t.mp rb;cases e
   | _=>simp [hkB] at hb
  | tuple xs =>
   obtain ⟨a,k,us,rfl,z,rr⟩:=nN ra;cases b with
   | int j=>obtain ⟨t',e⟩:=rep_i.mp rb;cases e
   | str x=>obtain ⟨⟨t',e⟩,_⟩:=rep_s.mp rb;cases e
   | tuple ys =>
    cases m with
    | zero=>simp [hkB] at hb
    | succ m =>
     rw [hkB] at ha hb;obtain ⟨a',k',us',e,z',rr'⟩:=nN rb;cases e;rw [z] at z';injection z' with z'
     injection z' with _ _ z' _
     injection z' with z' _
     have e2:us=us':=by have:=congrArg Array.toList z';simpa using this
     subst e2;clear z z' ra rb
     congr 1
     induction rr generalizing ys with
     | nil=>cases rr';rfl
     | cons h1 _ ih2 =>
      cases rr' with
      | cons h2 t2 =>
       rw [hksB,Bool.and_eq_true] at ha hb;rw [ih m ha.1 hb.1 h1 h2,ih2 ha.2 _ hb.2 t2]
   | _=>simp [hkB] at hb
  | _=>simp [hkB] at ha
def fG (S:Sx):HeapKind S.P S.w HK where
 is:=fun h k a=>Rep S h.get? k.1 (.ref a)
 hash:=fun k=>hkH S.w k.1
 draws:=fun k=>hkD k.1
 room:=fun A=>A.units+5 < cLine
 inj:=fun {h a x y} hx hy=>Subtype.ext (aK8 4 4 x.2 y.2 hx hy)
 keeps:=fun {h h' k a d o es ep} hk ho hd hs=>aC1 (fun b ob us n e q=>(hs.2 b fun z=>by rw [z,ho] at e;cases e;rw [hd] at q;cases q).trans e) 4 k.2 hk
 pyHash:=fun {A E s k a Q} hu hk h=>aC0 4 k.2 hk (by omega) h
 eqBool:=fun {A E s x y a b Q} hu hx hy h=>by
  obtain ⟨⟨as,r1⟩,c1,d1⟩:=Rep.reads (hp:=s.heap) (fun _ _ e=>e) 4 hx (kI x.2);obtain ⟨⟨bs,r2⟩,c2,d2⟩:=Rep.reads (hp:=s.heap) (fun _ _ e=>e) 4 hy (kI y.2);exact SeqAt.eqBoolOverData _ _ A E s _ _ _ _ as bs Q r1 r2 c1 c2 (by have:=Nat.min_le_left x.1.depth y.1.depth;omega) (by rw [aY0];exact h)
 quiet:=fun {A E s k a Q} hk h=>wI 4 8 (by decide) k.2 hk h
end
end DL

namespace DL
open PySem PySem.Spec PyProof.Rows L2
noncomputable def aY1:List (Pos×Str)->List Addr->List Value
 | q::qs,c::cs=>rawInt q.1.line::rawInt q.1.col::.ref c::aY1 qs cs
 | _,_=>[]
def aY2 (Z:Zm) (q:Pos×Str) (c:Addr):Prop:=∃ o vs t,Z c=some o/\o.data=.fields vs/\vs[1]?=some (.str q.2 t)
def NdO (S:Sx) (h:Heap) (d:Addr) (xs:List (HK×Addr×Value)):Prop:=∃ o es ep,h.get? d=some o/\o.ExactDict/\o.data=.dict es ep/\es.toList=xs.map (entryOfKey (fG S))/\(xs.map (·.1)).Nodup
def gH (S:Sx) (Z:Zm):List (PyData×PyData)->List (HK×Addr×Value)->Prop:=Paired fun q x=>q.1=x.1.1/\Rep S Z q.1 (.ref x.2.1)/\Rep S Z q.2 x.2.2
abbrev bX (us:List Value) (n:Nat):Obj:={ cls:=.type "list",data:=.seq us.toArray n }
def CellOk (S:Sx) (M:Mp) (h:Heap) (p:Addr×Addr):Cell->Prop
 | .l xs=>∃ us n,h.get? p.1=some (bX us n)/\us.length<=sizeLine/\Reps' S M xs us
 | .r is=>∃ us n,h.get? p.1=some (bX us n)/\us.length<=sizeLine/\RepWs S M (is.map .c) us
 | .k kvs=>∃ vs,h.DictOf (bA S.P S.w) p.1 vs/\RepK S M.Z kvs vs/\(p.1==sysModules)=false/\vs.length<=sizeLine
 | .n kvs=>∃ xs,NdO S h p.1 xs/\gH S M.Z kvs xs/\(p.1==sysModules)=false/\xs.length<=sizeLine
 | .t qs=>∃ cs,h.get? p.1=some { cls:=.none,data:=.fields (S.tb++(aY1 qs cs).toArray) }/\Paired (aY2 M.Z) qs cs/\p=(S.tp,S.tp)
 | .o C fs=>p.2≠p.1/\fs.length<=1000/\h.get? p.1=some (PySem.W.instObj C p.2)/\∃ mA,h.Ns1 p.2 mA/\(∀ f,RelO S M (fs.lookup f) (mA f))/\PySem.Within mA (fs.map (·.1))
def CellOk.go {S:Sx} {M M':Mp} {h h':Heap} {p:Addr×Addr} {c:Cell} (l:Le M M') (k:∀ a o,(a=p.1\/a=p.2)->h.get? a=some o->h'.get? a=some o) (x:CellOk S M h p c):CellOk S M' h' p c:=by
 cases c with
 | l xs=>obtain ⟨us,n,e,z,r⟩:=x;exact ⟨us,n,k _ _ (.inl rfl) e,z,r.go l⟩
 | r xs=>obtain ⟨us,n,e,z,r⟩:=x;exact ⟨us,n,k _ _ (.inl rfl) e,z,r.go l⟩
 | k xs=>obtain ⟨vs,⟨o,es,ep,e,q⟩,r,z⟩:=x;exact ⟨vs,⟨o,es,ep,k _ _ (.inl rfl) e,q⟩,r.go l,z⟩
 | t qs=>obtain ⟨cs,e,r,ep⟩:=x;exact ⟨cs,k _ _ (.inl rfl) e,pE (fun _ _ ⟨o,vs,t,a,b⟩=>⟨o,vs,t,l.z _ _ a,b⟩) r,ep⟩
 | n xs=>obtain ⟨vs,⟨o,es,ep,e,q⟩,r,z⟩:=x;exact ⟨vs,⟨o,es,ep,k _ _ (.inl rfl) e,q⟩,pE (fun _ _ t=>⟨t.1,Rep.go l.z t.2.1,Rep.go l.z t.2.2⟩) r,z⟩
 | o C fs=>obtain ⟨a,b,e,mA,⟨o,es,ep,e2,q⟩,r,z⟩:=x;exact ⟨a,b,k _ _ (.inl rfl) e,mA,⟨o,es,ep,k _ _ (.inr rfl) e2,q⟩,fun f=>(r f).go l,z⟩
def bH (κ:Kp) (M:Mp) (a:Addr):Prop:=M.Z a=none/\κ a=none/\∀ p∈M.m,p.1≠a/\p.2≠a
structure Mem (S:Sx) (κ:Kp) (M:Mp) (h:aA) (s:Shared):Prop where
 z:∀ a o,M.Z a=some o->s.heap.get? a=some o
 k:∀ a b o,κ a=some (b,o)->(b=true->s.heap.get? a=some o)/\(∃ sl,s.heap.get? a=some { o with slots:=sl })/\M.Z a=none
 len:M.m.length=h.length
 ap:∀ (i j:Nat) (p q:Addr×Addr),M.m[i]?=some p->M.m[j]?=some q->i≠j->p.1≠q.1/\p.1≠q.2/\p.2≠q.1/\p.2≠q.2
 off:∀ p∈M.m,∀ a,a=p.1\/a=p.2->M.Z a=none/\κ a=none/\∃ o,s.heap.get? a=some o
 cel:∀ (i:Nat) p c,M.m[i]?=some p->h[i]?=some c->CellOk S M s.heap p c
 base:∀ a o,S.base.get? a=some o->M.Z a=some o
 bare:AllBare s.gens
 os:s.os=S.os
section
variable {S:Sx} {κ:Kp} {M M':Mp} {h:aA} {s s':Shared} {h':Heap} {a:Addr} {o:Obj}
def Mem.bk (R:Mem S κ M h s):∀ b o,S.base.get? b=some o->s.heap.get? b=some o:=fun b o e=>R.z b o (R.base b o e)
def Mem.new (R:Mem S κ M h s) (e:s.heap.get? a=none):bH κ M a:=by
 refine ⟨?_,?_,fun p hp=>?_⟩
 ·cases q:M.Z a with
  | none=>rfl
  | some o=>rw [R.z a o q] at e;cases e
 ·cases q:κ a with
  | none=>rfl
  | some x=>obtain ⟨_,⟨_,z⟩,_⟩:=R.k a x.1 x.2 q;rw [z] at e;cases e
 ·refine ⟨fun z=>?_,fun z=>?_⟩
  ·obtain ⟨_,_,_,q⟩:=R.off p hp a (.inl z.symm);rw [q] at e;cases e
  ·obtain ⟨_,_,_,q⟩:=R.off p hp a (.inr z.symm);rw [q] at e;cases e
def Mem.size (R:Mem S κ M h s):bH κ M s.heap.objs.size:=R.new (Heap.get?_none_of_le (Nat.le_refl _))
def Mem.keep (R:Mem S κ M h s) (k:∀ b o,s.heap.get? b=some o->¬ bH κ M b->s'.heap.get? b=some o) (hg:AllBare s'.gens) (ho:s'.os=s.os):Mem S κ M h s' where
 z:=fun b o e=>k b o (R.z b o e) fun f=>by rw [f.1] at e;cases e
 k:=fun b t o e=>by
  have nf:¬ bH κ M b:=fun f=>by rw [f.2.1] at e;cases e
  obtain ⟨h1,⟨sl,h2⟩,h3⟩:=R.k b t o e;exact ⟨fun z=>k b o (h1 z) nf,⟨sl,k b _ h2 nf⟩,h3⟩
 len:=R.len
 ap:=R.ap
 off:=fun p hp b hb=>by
  obtain ⟨h1,h2,o,h3⟩:=R.off p hp b hb;exact ⟨h1,h2,o,k b o h3 fun f=>by rcases hb with e | e;exact (f.2.2 p hp).1 e.symm;exact (f.2.2 p hp).2 e.symm⟩
 cel:=fun i p c e1 e2=>(R.cel i p c e1 e2).go .refl fun b o hb q=>k b o q fun f=>by
  have hp:=List.mem_of_getElem? e1;rcases hb with e | e;exact (f.2.2 p hp).1 e.symm;exact (f.2.2 p hp).2 e.symm
 base:=R.base
 bare:=hg
 os:=ho.trans R.os
def Mem.kept {t:Nat} (R:Mem S κ M h s) (k:∀ b o,s.heap.get? b=some o->h'.get? b=some o):Mem S κ M h { s with heap:=h',toks:=t }:=R.keep (fun b o e _=>k b o e) R.bare rfl
def Mem.tok (R:Mem S κ M h s) (t:Nat):Mem S κ M h { s with toks:=t }:=R.kept (h':=s.heap) fun _ _ e=>e
noncomputable def Mp.add (M:Mp) (a:Addr) (o:Obj):Mp:=⟨fun b=>if b=a then some o else M.Z b,M.m⟩
def kM:(M.add a o).Z a=some o:=if_pos rfl
def Le.add (f:M.Z a=none):Le M (M.add a o):=⟨fun b u e=>by
 show (if b=a then some o else M.Z b)=some u;rw [if_neg (fun z=>by rw [z,f] at e;cases e)];exact e,[],by simp [Mp.add]⟩
def Mem.frz (R:Mem S κ M h s) (f:bH κ M a) (e:s.heap.get? a=some o):Mem S κ (M.add a o) h s where
 z:=fun b u q=>by
  by_cases hb:b=a
  ·subst hb;rw [kM] at q;cases q;exact e
  ·exact R.z b u (by rw [<- q];exact (if_neg hb).symm)
 k:=fun b t u q=>by
  obtain ⟨h1,h2,h3⟩:=R.k b t u q;refine ⟨h1,h2,?_⟩;show (if b=a then some o else M.Z b)=none;rw [if_neg (fun z=>by rw [z,f.2.1] at q;cases q)];exact h3
 len:=R.len
 ap:=R.ap
 off:=fun p hp b hb=>by
  obtain ⟨h1,h2,h3⟩:=R.off p hp b hb;refine ⟨?_,h2,h3⟩;show (if b=a then some o else M.Z b)=none;rw [if_neg (fun z=>by rcases hb with e | e;exact (f.2.2 p hp).1 (e.symm.trans z);exact (f.2.2 p hp).2 (e.symm.trans z))];exact h1
 cel:=fun i p c e1 e2=>(R.cel i p c e1 e2).go (.add f.1) fun _ _ _ q=>q
 base:=fun b u q=>(Le.add f.1).z b u (R.base b u q)
 bare:=R.bare
 os:=R.os
noncomputable def Mp.cel (M:Mp) (p:Addr×Addr):Mp:=⟨M.Z,M.m++[p]⟩
def Le.cel {p:Addr×Addr}:Le M (M.cel p):=⟨fun _ _ e=>e,[p],rfl⟩
def snoc_at {α:Type} {l:List α} {x y:α} {i:Nat} (e:(l++[x])[i]?=some y):l[i]?=some y\/(i=l.length/\y=x):=by
 by_cases hi:i < l.length
 ·rw [List.getElem?_append_left hi] at e;exact .inl e
 ·rw [List.getElem?_append_right (by omega)] at e;have:i - l.length=0:=by
   have:=(List.getElem?_eq_some_iff.mp e).1;simp at this;omega
  rw [this] at e;exact .inr ⟨by omega,by simpa using e.symm⟩
def Mem.add {p:Addr×Addr} {c:Cell} (R:Mem S κ M h s) (f:bH κ M p.1) (g:bH κ M p.2) (ep:(∃ o,s.heap.get? p.1=some o)/\∃ o,s.heap.get? p.2=some o) (x:CellOk S (M.cel p) s.heap p c):Mem S κ (M.cel p) (h++[c]) s where
 z:=R.z
 k:=R.k
 len:=by show (M.m++[p]).length=_;simp [R.len]
 ap:=fun i j q r e1 e2 ne=>by
  rcases snoc_at (show (M.m++[p])[i]?=some q from e1) with z1 | ⟨z1,y1⟩<;>rcases snoc_at (show (M.m++[p])[j]?=some r from e2) with z2 | ⟨z2,y2⟩
  ·exact R.ap i j q r z1 z2 ne
  ·have hq:=List.mem_of_getElem? z1;rw [y2];exact ⟨(f.2.2 q hq).1,(g.2.2 q hq).1,(f.2.2 q hq).2,(g.2.2 q hq).2⟩
  ·have hq:=List.mem_of_getElem? z2;rw [y1];exact ⟨(f.2.2 r hq).1.symm,(f.2.2 r hq).2.symm,(g.2.2 r hq).1.symm,(g.2.2 r hq).2.symm⟩
  ·omega
 off:=fun q hq b hb=>by
  rcases List.mem_append.mp (show q∈M.m++[p] from hq) with hq | hq
  ·exact R.off q hq b hb
  ·rw [List.mem_singleton.mp hq] at hb;rcases hb with e | e
   ·subst e;exact ⟨f.1,f.2.1,ep.1⟩
   ·subst e;exact ⟨g.1,g.2.1,ep.2⟩
 cel:=fun i q d e1 e2=>by
  rcases snoc_at (show (M.m++[p])[i]?=some q from e1) with e3 | ⟨e3,rfl⟩
  ·rw [List.getElem?_append_left (by rw [<- R.len];exact (List.getElem?_eq_some_iff.mp e3).1)] at e2;exact (R.cel i q d e3 e2).go .cel fun _ _ _ q=>q
  ·rcases snoc_at e2 with e2 | ⟨e2,rfl⟩
   ·have:=(List.getElem?_eq_some_iff.mp e2).1;rw [<- R.len] at this;omega
   ·exact x
 base:=R.base
 bare:=R.bare
 os:=R.os
def Mem.wr {i:Nat} {p:Addr×Addr} {c:Cell} (R:Mem S κ M h s) (ei:M.m[i]?=some p) (k:∀ b o,b≠p.1->b≠p.2->s.heap.get? b=some o->s'.heap.get? b=some o) (ep:(∃ o,s'.heap.get? p.1=some o)/\∃ o,s'.heap.get? p.2=some o)
  (hg:AllBare s'.gens) (ho:s'.os=s.os) (x:CellOk S M s'.heap p c):Mem S κ M (h.set i c) s':=by
 have hp:=List.mem_of_getElem? ei;have o1:=R.off p hp p.1 (.inl rfl);have o2:=R.off p hp p.2 (.inr rfl);refine ⟨fun b u e=>k b u (fun z=>?_) (fun z=>?_) (R.z b u e),fun b t u e=>?_,by rw [List.length_set];exact R.len,R.ap,fun q hq b hb=>?_,fun j q d e1 e2=>?_,R.base,hg,ho.trans R.os⟩
 ·rw [z,o1.1] at e;cases e
 ·rw [z,o2.1] at e;cases e
 ·obtain ⟨h1,⟨sl,h2⟩,h3⟩:=R.k b t u e;have n1:b≠p.1:=fun z=>by rw [z,o1.2.1] at e;cases e
  have n2:b≠p.2:=fun z=>by rw [z,o2.2.1] at e;cases e
  exact ⟨fun z=>k b u n1 n2 (h1 z),⟨sl,k b _ n1 n2 h2⟩,h3⟩
 ·obtain ⟨h1,h2,u,h3⟩:=R.off q hq b hb;refine ⟨h1,h2,?_⟩
  by_cases z1:b=p.1
  ·rw [z1];exact ep.1
  by_cases z2:b=p.2
  ·rw [z2];exact ep.2
  exact ⟨u,k b u z1 z2 h3⟩
 ·by_cases ij:i=j
  ·subst ij;rw [ei] at e1;cases e1;rw [List.getElem?_set_self (by rw [<- R.len];exact (List.getElem?_eq_some_iff.mp ei).1)] at e2;cases e2;exact x
  ·rw [List.getElem?_set_ne ij] at e2;obtain ⟨a1,a2,a3,a4⟩:=R.ap i j p q ei e1 ij;refine (R.cel j q d e1 e2).go .refl fun b u hb e=>k b u ?_ ?_ e
   ·rcases hb with z | z;exact fun y=>a1 (y.symm.trans z);exact fun y=>a2 (y.symm.trans z)
   ·rcases hb with z | z;exact fun y=>a3 (y.symm.trans z);exact fun y=>a4 (y.symm.trans z)
def Mem.less {κ':Kp} (R:Mem S κ' M h s) (k:∀ a x,κ a=some x->κ' a=some x):Mem S κ M h s :=
 ⟨R.z,fun a b o e=>R.k a b o (k a _ e),R.len,R.ap,fun p hp a ha=>(by
  obtain ⟨h1,h2,h3⟩:=R.off p hp a ha;refine ⟨h1,?_,h3⟩;cases q:κ a with
  | none=>rfl
  | some x=>rw [k a x q] at h2;cases h2),R.cel,R.base,R.bare,R.os⟩
noncomputable def Kp.up (κ:Kp) (a:Addr) (x:Bool×Obj):Kp:=fun b=>if b=a then some x else κ b
def gW {x:Bool×Obj}:κ.up a x a=some x:=if_pos rfl
def cD {x:Bool×Obj} {b:Addr} (h:b≠a):κ.up a x b=κ b:=if_neg h
def Mem.more {b:Bool} (R:Mem S κ M h s) (f:M.Z a=none/\∀ p∈M.m,p.1≠a/\p.2≠a) (e:s.heap.get? a=some o):Mem S (κ.up a (b,o)) M h s :=
 ⟨R.z,fun c t u q=>by
  by_cases hc:c=a
  ·subst hc;rw [gW] at q;cases q;exact ⟨fun _=>e,⟨_,e⟩,f.1⟩
  ·rw [cD hc] at q;exact R.k c t u q,R.len,R.ap,fun p hp c hc=>(by
  obtain ⟨h1,h2,h3⟩:=R.off p hp c hc;refine ⟨h1,?_,h3⟩;rw [cD fun z=>?_];exact h2;rcases hc with q | q;exact (f.2 p hp).1 (q.symm.trans z);exact (f.2 p hp).2 (q.symm.trans z)),R.cel,R.base,R.bare,R.os⟩
def Mem.kc {x:Bool×Obj} (R:Mem S κ M h s) (ea:κ a=some x):∀ p∈M.m,p.1≠a/\p.2≠a:=fun p hp =>
 have t:∀ b,b=p.1\/b=p.2->b≠a:=fun b hb z=>by
  have:=(R.off p hp b hb).2.1;rw [z,ea] at this;cases this
 ⟨t _ (.inl rfl),t _ (.inr rfl)⟩
def Mem.own {x:Bool×Obj} {b:Bool} (R:Mem S κ M h s) (ea:κ a=some x) (k:∀ b o,b≠a->s.heap.get? b=some o->s'.heap.get? b=some o) (e:s'.heap.get? a=some o) (hg:AllBare s'.gens) (ho:s'.os=s.os):Mem S (κ.up a (b,o)) M h s':=by
 have za:=(R.k a x.1 x.2 ea).2.2;have ca:∀ p∈M.m,p.1≠a/\p.2≠a:=R.kc ea;refine ⟨fun c u q=>k c u (fun z=>by rw [z,za] at q;cases q) (R.z c u q),fun c t u q=>?_,R.len,R.ap,fun p hp c hc=>?_,fun i p d e1 e2=>?_,R.base,hg,ho.trans R.os⟩
 ·by_cases hc:c=a
  ·subst hc;rw [gW] at q;cases q;exact ⟨fun _=>e,⟨_,e⟩,za⟩
  ·rw [cD hc] at q;obtain ⟨h1,⟨sl,h2⟩,h3⟩:=R.k c t u q;exact ⟨fun z=>k c u hc (h1 z),⟨sl,k c _ hc h2⟩,h3⟩
 ·obtain ⟨h1,h2,u,h3⟩:=R.off p hp c hc;have hca:c≠a:=by rcases hc with q | q;exact q ▸ (ca p hp).1;exact q ▸ (ca p hp).2
  exact ⟨h1,by rw [cD hca];exact h2,u,k c u hca h3⟩
 ·have hp:=List.mem_of_getElem? e1;refine (R.cel i p d e1 e2).go .refl fun c u hc q=>k c u ?_ q;rcases hc with q | q;exact q ▸ (ca p hp).1;exact q ▸ (ca p hp).2
end
end DL

namespace L2
open PySem
noncomputable def eD (s:Stmt):Arguments:=match s with
 | .FunctionDef _ a _ _ _ _ _ _ _ _=>a
 | _=>{ posonlyargs:=[],args:=[],vararg:=none,kwonlyargs:=[],kw_defaults:=[],kwarg:=none,defaults:=[] }
noncomputable def aX (s:Stmt):List Stmt:=match s with
 | .FunctionDef _ _ b _ _ _ _ _ _ _=>b
 | _=>[]
noncomputable def defScope (s:Stmt):Scope:=match s with
 | .FunctionDef _ _ _ _ _ _ sc _ _ _=>sc
 | _=>{ kind:=.module,names:=[],isGenerator:=false,isCoroutine:=false,more:=[] }
noncomputable def ixN (n:Nat) (i:Int):Option Nat:=if 0<=i then (if i < n then some i.toNat else none) else if -(n:Int)<=i then some (i+n).toNat else none
def atI {α:Type} (xs:List α) (i:Int):Option α:=(ixN xs.length i).bind fun j=>xs[j]?
end L2
namespace ST
open PySem PyProof.Rows
noncomputable def dd (ns:List Int):List Int:=ns.foldl step_dedup []
noncomputable def srt (ns:List Int):List Int:=ns.mergeSort fun a b=>decide (a<=b)
end ST
namespace DL
open PySem PySem.Spec PyProof.Rows L2
noncomputable def ref (h:aA):W->Option PyData
 | .d x=>some x
 | .c i=>match h[i]? with
  | some (.l xs)=>some (.list xs)
  | some (.k kvs)=>some (.dict kvs)
  | _=>none
noncomputable def aY3:W->List Nat
 | .c i=>[i]
 | _=>[]
def cRefs:Cell->List Nat
 | .o _ fs=>(fs.map fun p=>aY3 p.2).flatten
 | .r is=>is
 | _=>[]
def okP (h h1:aA):Prop:=∀ (i:Nat) (c:Cell),i < h.length->h1[i]?=some c->(∀ j∈cRefs c,j < h.length)\/h[i]?=some c
noncomputable def isSame:PyData->PyData->Option Bool
 | .none,.none=>some true
 | .bool a,.bool b=>some (a==b)
 | .none,.bool _=>some false
 | .bool _,.none=>some false
 | .int _,.none=>some false
 | .int _,.bool _=>some false
 | .str _,.none=>some false
 | .str _,.bool _=>some false
 | .list _,.none=>some false
 | .list _,.bool _=>some false
 | .tuple _,.none=>some false
 | .tuple _,.bool _=>some false
 | _,_=>none
noncomputable def dE:List PyData->Option (List Bool)
 | []=>some []
 | .bool b::r=>(dE r).map (b::·)
 | _::_=>none
noncomputable def dG:PyData->String
 | .none=>"NoneType"
 | .bool _=>"bool"
 | .int _=>"int"
 | .str _=>"str"
 | .list _=>"list"
 | .tuple _=>"tuple"
 | .dict _=>"dict"
def isi (d:PyData) (T:String):Bool:=dG d==T||(dG d=="bool"&&T=="int")
def nO (kvs:List (PyData×PyData)) (k v:PyData):List (PyData×PyData) :=
 if (kvs.any fun p=>decide (cR p.1=cR k))=true then kvs.map (fun p=>if cR p.1=cR k then (p.1,v) else p) else kvs++[(k,v)]
def kN (kvs:List (PyData×PyData)) (k v:PyData):List (PyData×PyData) :=
 if (kvs.any fun p=>CI.peq p.1 k)=true then kvs.map (fun p=>if CI.peq p.1 k=true then (p.1,v) else p) else kvs++[(k,v)]
noncomputable def fH:PyData->Bool
 | .tuple _=>true
 | _=>false
noncomputable def gI (f:Str) (w:W):List (Str×W)->List (Str×W)
 | []=>[(f,w)]
 | (g,x)::r=>if g=f then (g,w)::r else (g,x)::gI f w r
def cut (xs:List PyData) (lo hi:Option Int):List PyData:=(xs.drop (HT.sIx xs.length 0 lo)).take (HT.sIx xs.length xs.length hi - HT.sIx xs.length 0 lo)
noncomputable def aU (ixs:List (Option Nat)) (δ:DSt):DSt:=ixs.map fun o=>o.bind fun i=>(δ[i]?).bind id
noncomputable def cF (N:List Str) (ws:List W):DSt:=ws.map some++List.replicate (N.length - ws.length) none
noncomputable def rng (lo:Int) (n:Nat):List PyData:=(List.range n).map fun (i:Nat)=>.int (lo+(i:Int))
noncomputable def gX:W->Option (List PyData)
 | .d (.list xs)=>some xs
 | .d (.tuple xs)=>some xs
 | _=>none
noncomputable def eY (xs ys:List PyData):List PyData:=List.zipWith (fun x y=>.tuple [x,y]) xs ys
noncomputable def enumF (k:Nat):List PyData->List PyData
 | []=>[]
 | x::r=>.tuple [.int k,x]::enumF (k+1) r
def bB (xs:List PyData):List PyData:=enumF 0 xs
noncomputable def cS:List PyData->Option (List Int)
 | []=>some []
 | .int i::r=>(cS r).map (i::·)
 | _=>none
noncomputable def fI:List W->Option (List PyData)
 | []=>some []
 | .d x::r=>(fI r).map (x::·)
 | _::_=>none
end DL

namespace CI
open PySem PySem.Spec PyProof.Rows L2 DL ST

abbrev XR (α:Type):=DSt->aA->Option (α×aA)
set_option genInjectivity true in
inductive Fl where
 | nx (δ:DSt) | rt (w:W) | bk (δ:DSt) | ct (δ:DSt)
abbrev XS:=DSt->aA->Option (Fl×aA)
abbrev XG:=W->DSt->aA->Option (DSt×aA)
abbrev XF:=List W->aA->Option (PyData×aA)
abbrev XFW:=List W->aA->Option (W×aA)
structure ObS where
 fnW:Str->Option XFW
 cls:Str->Option (Addr×XFW)
 om:Str->Option (Addr×XFW)
 fo:Addr->Str->Bool
noncomputable def xno {α:Type}:XR α:=fun _ _=>none
noncomputable def aD {α:Type} (a:α):XR α:=fun _ h=>some (a,h)
noncomputable def xb {α β:Type} (x:XR α) (f:α->XR β):XR β:=fun δ h=>(x δ h).bind fun p=>f p.1 δ p.2
structure Sta where
 bl:List Str
 gc:Str->Option PyData
 tk:Str->Option (Str->Option PyData)
 fn:Str->Option XF
 ac:Str->List Nat
 cv:List Str
 N:List Str
 S:Scope
 top:Bool
 fuel:Nat
 ob:ObS
 qn:Option (Str×Pos)
structure Evs where
 E:Sta->Expr->XR W
 T:Sta->Expr->XR Bool
 F:Sta->Expr->XR (List PyData)
 G:Sta->Expr->XG
 S:Sta->Stmt->XS
def Evs.no:Evs:=⟨fun _ _=>xno,fun _ _=>xno,fun _ _=>xno,fun _ _ _ _ _=>none,fun _ _ _ _=>none⟩

noncomputable def aW (x:Str):Bool:=!(x==("__debug__":Str))&&(!(x==("__classdict__":Str))&&!(x==("__name__":Str)))
noncomputable def aK9 (S:Scope) (x:Str):Bool:=match S.names.lookup x with
 | some .local=>true
 | some .cell=>true
 | some .free=>true
 | _=>false
noncomputable def nP (S:Scope) (x:Str):Bool:=match S.names.lookup x with
 | some .local=>true
 | some .cell=>true
 | _=>false
noncomputable def cO (S:Scope) (x:Str):Bool:=match S.names.lookup x with
 | some .local=>true
 | _=>false
noncomputable def glB (S:Scope) (x:Str):Bool:=match S.names.lookup x with
 | some .globalImplicit=>true
 | _=>false
noncomputable def slot (st:Sta) (x:Str):Option Nat:=st.N.findIdx? (·==x)
noncomputable def aB (i:Nat):XR W:=fun δ h=>match δ[i]? with
 | some (some w)=>some (w,h)
 | _=>none
def cE (st:Sta) (x:Str):Bool:=aW x&&glB st.S x
def wJ (st:Sta) (x:Str):XR W:=if aW x=true then
  (match slot st x with
   | some i=>if aK9 st.S x=true then aB i else xno
   | none=>(match st.gc x with
    | some d=>if glB st.S x=true then aD (.d d) else xno
    | none=>xno))
 else xno
def wK:Const->XR W
 | .none=>aD (.d .none)
 | .bool b=>aD (.d (.bool b))
 | .int i=>aD (.d (.int i))
 | .str x=>if PyData.strOk x=true then aD (.d (.str x)) else xno
 | _=>xno

noncomputable def cM (i j:Int):Bool:=(decide (-(2^64) < i)&&decide (i < 2^64))||(decide (-(2^64) < j)&&decide (j < 2^64))
noncomputable def aP (j:Int):Bool:=decide (0 < j)&&(decide (j < 1073741824)||decide (j.natAbs.log2 < 8000))
noncomputable def pF (i j:Int):Bool:=decide (0<=j)&&(decide (j<=1000000)&&decide (i.natAbs < 2^64))
def aC2 (u w:W) (h:aA):Option (W×aA):=match u,w with
 | .d (.int i),.d (.int j)=>some (.d (.int (i+j)),h)
 | .d (.tuple xs),.d (.tuple ys)=>if xs.length+ys.length<=sizeLine then some (.d (.tuple (xs++ys)),h) else none
 | _,_=>(match ref h u,ref h w with
  | some (.list xs),some (.list ys)=>if xs.length+ys.length<=sizeLine then some (.d (.list (xs++ys)),h) else none
  | _,_=>none)
def aC3 (u w:W) (h:aA):Option (W×aA):=match u,w with
 | .d (.int i),.d (.int j)=>if cM i j=true then some (.d (.int (i*j)),h) else none
 | .d (.tuple xs),.d (.int k)=>if xs≠[]/\1 < k/\k < 2^63/\xs.length*k.toNat<=sizeLine then some (.d (.tuple (List.replicate k.toNat xs).flatten),h) else none
 | _,_=>none
def cW (op:Operator) (u w:W) (h:aA):Option (W×aA):=match op with
 | .Add=>aC2 u w h
 | .Mult=>aC3 u w h
 | _=>(match u,w with
  | .d (.int i),.d (.int j)=>(match op with
   | .Sub=>some (.d (.int (i - j)),h)
   | .FloorDiv=>if aP j=true then some (.d (.int (i / j)),h) else none
   | .Mod=>if 0 < j then some (.d (.int (i%j)),h) else none
   | .Pow=>if pF i j=true then some (.d (.int (i^j.toNat)),h) else none
   | .RShift=>if 0<=j then some (.d (.int (i / 2^j.toNat)),h) else none
   | .BitAnd=>some (.d (.int (Builtin.bitAnd i j)),h)
   | _=>none)
  | _,_=>none)
noncomputable def bR1:CmpOp->Option (Int->Int->Bool)
 | .Lt=>some fun i j=>decide (i < j)
 | .LtE=>some fun i j=>decide (i<=j)
 | .Gt=>some fun i j=>decide (j < i)
 | .GtE=>some fun i j=>decide (j<=i)
 | _=>none
def xEq (u w:W) (h:aA):Option Bool:=match ref h u,ref h w with
 | some a,some b=>if (aI 64 a&&aI 64 b)=true then some (PyData.eqv a b) else none
 | _,_=>none
def xIs (u w:W):Option Bool:=match u,w with
 | .d a,.d b=>DL.isSame a b
 | _,_=>none
noncomputable def qW (w:W) (h:aA):Option (List (PyData×PyData)):=match w with
 | .c j=>(match h[j]? with
  | some (.n kvs)=>some kvs
  | _=>none)
 | _=>none
def aY4 (d:PyData) (w:W) (h:aA):Option Bool:=(qW w h).bind fun kvs=>if (fH d&&hkB 4 d)=true then some (kvs.any fun p=>peq p.1 d) else none
def bR2 (d:PyData) (w:W) (h:aA):Option (W×aA):=(qW w h).bind fun kvs=>if (fH d&&hkB 4 d)=true then (kvs.find? fun p=>peq p.1 d).map fun p=>(.d p.2,h) else none
def xIn (u w:W) (h:aA):Option Bool:=match ref h u,ref h w with
 | some d,some (.list xs)=>if (aI 64 (.list xs)&&aI 64 d)=true then some (xs.any fun z=>PyData.eqv z d) else none
 | some d,some (.tuple xs)=>if (aI 64 (.tuple xs)&&aI 64 d)=true then some (xs.any fun z=>PyData.eqv z d) else none
 | some d,some (.dict kvs)=>(match cR d with
  | some k=>some (kvs.any fun p=>decide (cR p.1=some k))
  | none=>if (kvs.isEmpty&&(fH d&&hkB 4 d))=true then some false else none)
 | some d,none=>aY4 d w h
 | _,_=>none
def dH (op:CmpOp) (u w:W) (h:aA):Option (Bool×aA):=match op with
 | .Eq=>(xEq u w h).map fun b=>(b,h)
 | .NotEq=>(xEq u w h).map fun b=>(!b,h)
 | .Is=>(xIs u w).map fun b=>(b,h)
 | .IsNot=>(xIs u w).map fun b=>(!b,h)
 | .In=>(xIn u w h).map fun b=>(b,h)
 | .NotIn=>(xIn u w h).map fun b=>(!b,h)
 | _=>(match u,w with
  | .d (.int i),.d (.int j)=>(bR1 op).map fun p=>(p i j,h)
  | _,_=>none)
noncomputable def asW (p:Bool×aA):W×aA:=(.d (.bool p.1),p.2)
def xIr (u:W) (k:Int) (h:aA):Option (W×aA):=match u with
 | .c j=>(match h[j]? with
  | some (.r is)=>(atI is k).map fun m=>(.c m,h)
  | _=>none)
 | _=>none
def xIx (u w:W) (h:aA):Option (W×aA):=match ref h u,w with
 | some (.list xs),.d (.int i)=>(atI xs i).map fun v=>(.d v,h)
 | some (.tuple xs),.d (.int i)=>(atI xs i).map fun v=>(.d v,h)
 | some (.dict kvs),.d d=>(match cR d with
  | some k=>(kvs.find? fun p=>decide (cR p.1=some k)).map fun p=>(.d p.2,h)
  | none=>none)
 | none,.d (.int k)=>xIr u k h
 | none,.d (.tuple ks)=>bR2 (.tuple ks) u h
 | _,_=>none
def xSl (u:W) (lo hi:Option Int) (h:aA):Option (W×aA):=match u with
 | .d (.tuple xs)=>some (.d (.tuple (cut xs lo hi)),h)
 | _=>(match ref h u with
  | some (.list xs)=>some (.d (.list (cut xs lo hi)),h)
  | _=>none)

noncomputable def aY5 (w:W) (h:aA):Option Nat:=match w with
 | .c j=>(match h[j]? with
  | some (.r is)=>some is.length
  | some (.n kvs)=>some kvs.length
  | _=>none)
 | _=>none
def bN:List W->aA->Option (W×aA)
 | [w],h=>(match ref h w with
  | some (.list xs)=>some (.d (.int xs.length),h)
  | some (.tuple xs)=>some (.d (.int xs.length),h)
  | none=>(aY5 w h).map fun n=>(.d (.int n),h)
  | _=>none)
 | _,_=>none
def bS:List W->aA->Option (W×aA)
 | [w],h=>(match ref h w with
  | some (.list xs)=>some (.d (.tuple xs),h)
  | some (.tuple xs)=>some (.d (.tuple xs),h)
  | _=>none)
 | _,_=>none
def fX:List W->aA->Option (W×aA)
 | [w],h=>(match ref h w with
  | some (.list xs)=>(dE xs).map fun bs=>(.d (.bool (bs.all id)),h)
  | _=>none)
 | _,_=>none
noncomputable def wL:List W->aA->Option (W×aA)
 | [.d (.bool b)],h=>some (.d (.int (if b then 1 else 0)),h)
 | _,_=>none
noncomputable def pdS:(x:PyData)->Option {y:Int×PyData // x=.tuple [.int y.1,y.2]}
 | .tuple [.int k,v]=>some ⟨(k,v),rfl⟩
 | _=>none
def nQ:List PyData->Option (List (PyData×PyData))
 | []=>some []
 | x::r=>(pdS x).bind fun y=>(nQ r).map ((.int y.1.1,y.1.2)::·)
def wM (kvs:List (PyData×PyData)):List (PyData×PyData):=kvs.foldl (fun a p=>nO a p.1 p.2) []
noncomputable def xMx (ws:List W) (h:aA):Option (W×aA):=match ws with
 | [.d (.int a),.d (.int b)]=>some (.d (.int (max a b)),h)
 | _=>none
noncomputable def xMn (ws:List W) (h:aA):Option (W×aA):=match ws with
 | [.d (.int a),.d (.int b)]=>some (.d (.int (min a b)),h)
 | _=>none
def aL0 (x:Str):Option (List W->aA->Option (W×aA)) :=
 if x="len" then some bN else if x="tuple" then some bS else if x="all" then some fX else if x="int" then some wL else if x="max" then some xMx else if x="min" then some xMn else none
noncomputable def aC4 (T:Str):Option String :=
 if T="int" then some "int" else if T="bool" then some "bool" else if T="str" then some "str" else if T="tuple" then some "tuple" else if T="list" then some "list" else none

abbrev Cw:=Option (Nat×Bool)
def condB:Cw->List PyData->aA->Bool
 | none,_,_=>true
 | some (i,e),xs,h=>(match h[i]? with
  | some (.l ys)=>peqs (if e=true then bB ys else ys) xs
  | _=>false)
def lU (u:W) (h:aA):Option ((List PyData×Cw)×aA):=match gX u with
 | some xs=>some ((bB xs,none),h)
 | none=>(match u with
  | .c i=>(match h[i]? with
   | some (.l xs)=>some ((bB xs,some (i,true)),h)
   | _=>none)
  | _=>none)

def bR (g:XG) (tb:XS) (c:Cw) (all:List PyData):List PyData->DSt->aA->Option (Fl×aA)
 | [],δ,h=>if condB c all h=true then some (.nx δ,h) else none
 | x::r,δ,h=>if condB c all h=true then
   (g (.d x) δ h).bind fun p=>(tb p.1 p.2).bind fun q=>(match q.1 with
    | .nx δ'=>bR g tb c all r δ' q.2
    | .ct δ'=>bR g tb c all r δ' q.2
    | .bk δ'=>some (.nx δ',q.2)
    | .rt w=>some (.rt w,q.2))
  else none
def aR (g:XG) (tt:XR Bool) (te:XR W) (c:Cw) (all:List PyData):List PyData->DSt->aA->List PyData->Option (List PyData×aA)
 | [],_,h,ac=>if condB c all h=true then some (ac,h) else none
 | x::r,δ,h,ac=>if condB c all h=true then
   (g (.d x) δ h).bind fun p=>(tt p.1 p.2).bind fun q=>if q.1=true then
     (te p.1 q.2).bind fun y=>(match y.1 with
      | .d z=>aR g tt te c all r p.1 y.2 (ac++[z])
      | _=>none)
    else aR g tt te c all r p.1 q.2 ac
  else none

noncomputable def aH:Expr->Bool
 | .Starred _ _=>false
 | _=>true
noncomputable def aV (x:XR (List PyData)):XR W:=fun δ h=>(x δ h).bind fun p=>some (.c p.2.length,p.2++[.l p.1])
noncomputable def aM (x:XR (List PyData)):XR W:=fun δ h=>(x δ h).bind fun p=>some (.d (.list p.1),p.2)
def gY (f:Str->Option PyData) (x:XR W):XR Bool:=xb x fun w=>(match w with
 | .d (.str s)=>aD (!(f s).isSome)
 | .d .none=>aD true
 | _=>xno)
def xC1 (op:CmpOp) (x y:XR W):XR Bool:=xb x fun u=>xb y fun w=>fun _ h=>dH op u w h
def xC2 (op op':CmpOp) (x y z:XR W):XR Bool:=xb x fun u=>xb y fun w=>fun δ h=>(dH op u w h).bind fun p=>if p.1=true then (z δ p.2).bind fun q=>dH op' w q.1 q.2 else some (false,p.2)
def xC3 (op op' op'':CmpOp) (x y z t:XR W):XR Bool:=xb x fun u=>xb y fun w=>fun δ h=>(dH op u w h).bind fun p =>
 if p.1=true then (z δ p.2).bind fun q=>(dH op' w q.1 q.2).bind fun p'=>if p'.1=true then (t δ p'.2).bind fun q'=>dH op'' q.1 q'.1 q'.2 else some (false,p'.2) else some (false,p.2)
def cN (x:XR Bool):XR W:=fun δ h=>(x δ h).map asW
noncomputable def iV:List XG->List PyData->DSt->aA->Option (DSt×aA)
 | [],[],δ,h=>some (δ,h)
 | g::gs,x::xs,δ,h=>(g (.d x) δ h).bind fun p=>iV gs xs p.1 p.2
 | _,_,_,_=>none
def bU (gs:List XG):XG:=fun w δ h=>(match w with
 | .d (.tuple xs)=>iV gs xs δ h
 | _=>none)
section
variable (v:Evs) (st:Sta)
def aQ:List Expr->XR (List W)
 | []=>aD []
 | e::es=>if aH e=true then xb (v.E st e) fun w=>xb (aQ es) fun ws=>aD (w::ws) else xno
noncomputable def wN:Expr->Bool
 | .Name _ _=>true
 | _=>false
def gJ (l:List Nat):Nat->List Expr->XR (List W)
 | _,[]=>aD []
 | n,e::es=>if aH e=true then xb (if (l.contains n&&!wN e)=true then aV (v.F st e) else v.E st e) fun w=>xb (gJ l (n+1) es) fun ws=>aD (w::ws) else xno
def iW:Option Expr->XR (Option Int)
 | none=>aD none
 | some e=>xb (v.E st e) fun w=>(match w with
  | .d (.int i)=>aD (some i)
  | _=>xno)
def wO:List Expr->XR W
 | []=>xno
 | [a]=>v.E st a
 | a::b::r=>xb (v.E st a) fun w=>(match w with
  | .d (.bool true)=>wO (b::r)
  | .d (.bool false)=>aD (.d (.bool false))
  | _=>xno)
def aL1:List Expr->XR W
 | []=>xno
 | [a]=>v.E st a
 | a::b::r=>xb (v.E st a) fun w=>(match w with
  | .d (.bool true)=>aD (.d (.bool true))
  | .d (.bool false)=>aL1 (b::r)
  | _=>xno)
def wP:List Expr->XR Bool
 | []=>xno
 | [a]=>v.T st a
 | a::b::r=>xb (v.T st a) fun c=>if c=true then wP (b::r) else aD false
def aL2:List Expr->XR Bool
 | []=>xno
 | [a]=>v.T st a
 | a::b::r=>xb (v.T st a) fun c=>if c=true then aD true else aL2 (b::r)
def gZ:Expr->Option (Str->Option PyData)
 | .Name x _=>if cE st x&&(slot st x).isNone then st.tk x else none
 | _=>none
def eU (a:Expr) (ops:List CmpOp) (cs:List Expr):XR Bool:=match ops,cs with
 | [op],[b]=>(match gZ st b with
  | some f=>if op=.NotIn then gY f (v.E st a) else xno
  | none=>if behindInMarks op b=true then xno else xC1 op (v.E st a) (v.E st b))
 | [op,op'],[b,c]=>if lastMarks [op,op'] [b,c]=true then xno else xC2 op op' (v.E st a) (v.E st b) (v.E st c)
 | _,_=>xno
def iX (a:Expr) (ops:List CmpOp) (cs:List Expr):XR Bool:=match ops,cs with
 | [op,op',op''],[b,c,d]=>if lastMarks [op,op',op''] [b,c,d]=true then xno else xC3 op op' op'' (v.E st a) (v.E st b) (v.E st c) (v.E st d)
 | _,_=>eU v st a ops cs
noncomputable def fY (i j:Int):Bool:=decide (j - i<=16000000)&&(decide (-(2^62)<=i)&&(decide (i < 2^62)&&(decide (-(2^62)<=j)&&decide (j < 2^62))))
def bK (x:XR W):XR (List PyData×Cw):=xb x fun w=>fun _ h=>(match w with
 | .d (.list xs)=>some ((xs,none),h)
 | .d (.tuple xs)=>some ((xs,none),h)
 | .c i=>(match h[i]? with
  | some (.l xs)=>some ((xs,some (i,false)),h)
  | _=>none)
 | _=>none)
noncomputable def hG:Expr->Bool
 | .Set _ _ _=>true
 | _=>false
noncomputable def sT:Expr->Bool
 | .Tuple _ _ _=>true
 | _=>false
noncomputable def itS:(e:Expr)->Option {y:Str×Expr×Option Expr // ∃ p q,e=.Call (.Name y.1 p) (y.2.1::y.2.2.toList) [] q}
 | .Call (.Name x p) [a] [] q=>some ⟨(x,a,none),p,q,rfl⟩
 | .Call (.Name x p) [a,b] [] q=>some ⟨(x,a,some b),p,q,rfl⟩
 | _=>none
def mF (tg e:Expr):XR (List PyData×Cw):=match itS e with
 | some ⟨(x,a,none),_⟩=>if x="range" then (if cE st x&&(slot st x).isNone&&st.bl.contains x&&aH a then xb (v.E st a) fun w=>fun _ h=>(match w with
   | .d (.int j)=>if fY 0 j=true then some ((rng 0 j.toNat,none),h) else none
   | _=>none) else xno)
  else if x="enumerate" then (if cE st x&&(slot st x).isNone&&st.bl.contains x&&aH a&&sT tg then xb (v.E st a) fun u=>fun _ h=>lU u h else xno)
  else bK (v.E st e)
 | some ⟨(x,a,some b),_⟩=>if x="range" then (if cE st x&&(slot st x).isNone&&st.bl.contains x&&aH a&&aH b then xb (v.E st a) fun u=>xb (v.E st b) fun w=>fun _ h=>(match u,w with
   | .d (.int i),.d (.int j)=>if fY i j=true then some ((rng i (j - i).toNat,none),h) else none
   | _,_=>none) else xno)
  else if x="zip" then (if cE st x&&(slot st x).isNone&&st.bl.contains x&&aH a&&aH b&&sT tg then xb (v.E st a) fun u=>xb (v.E st b) fun w=>fun _ h=>(match gX u,gX w with
   | some xs,some ys=>some ((eY xs ys,none),h)
   | _,_=>none) else xno)
  else bK (v.E st e)
 | none=>if hG e=true then xno else bK (v.E st e)
noncomputable def uI (sc:Scope):List Str:=(sc.names.filter fun p=>(p.2==.local||p.2==.free)&&!(p.1==(".0":Str))).map (·.1)
def mG (N:List Str) (sc:Scope):List (Option Nat):=(uI sc).map fun x=>if sc.names.lookup x=some .free then N.findIdx? (·==x) else none
noncomputable def aL3 (sc S:Scope):Scope:={ sc with names:=sc.names.map fun (n,k)=>if (k==.free&&S.kind==.function&&S.names.lookup n==some .cell) then (n,.cell) else (n,k) }
def pG (N:List Str) (sc S:Scope):Bool :=
 decide (sc.kind=.function)&&((sc.names.all fun y=>!(y.2==.cell))&&((sc.names.all fun y=>!(y.2==.local)||(sc.names.lookup y.1==some .local)) &&
  ((sc.names.all fun y=>!(y.2==.free)||(S.names.lookup y.1==some .cell||S.names.lookup y.1==some .free))&&(decide (uI sc).Nodup &&
   (((mG N sc).zip (uI sc)).all fun p=>match p.1 with
    | none=>true
    | some i=>decide (N[i]?=some p.2)&&decide (sc.names.lookup p.2=some NameKind.free))))))
def Sta.blk (sc:Scope):Sta:={ st with N:=uI sc,S:=aL3 sc st.S,top:=false,qn:=none }
def aC5:List Expr->XR Bool
 | []=>aD true
 | [c]=>v.T st c
 | _=>xno
def jK (elt tg iter:Expr) (ifs:List Expr) (sc:Scope):XR (List PyData) :=
 if pG st.N sc st.S&&!hG iter then xb (mF v st tg iter) fun p=>fun δ h=>aR (v.G (st.blk sc) tg) (aC5 v (st.blk sc) ifs) (v.E (st.blk sc) elt) p.2 p.1 p.1 (aU (mG st.N sc) δ) h [] else xno
def aL4:List W->aA->Option (List PyData×aA)
 | [w],h=>(match ref h w with
  | some (.list xs)=>(cS xs).bind fun ns=>if ns.length < 64 then some ((ST.srt ns).map .int,h) else none
  | some (.tuple xs)=>(cS xs).bind fun ns=>if ns.length < 64 then some ((ST.srt ns).map .int,h) else none
  | _=>none)
 | _,_=>none
def xPl (x:XR (List W)):XR (List PyData):=xb x fun ws=>fun _ h=>(match fI ws with
 | some xs=>if xs.length<=sizeLine then some (xs,h) else none
 | none=>none)
noncomputable def rgS:(l:List Expr)->Option {b:Expr // ∃ p q,l=[.Call (.Name "range" p) [b] [] q]}
 | [.Call (.Name y p) [b] [] q]=>if h:y="range" then some ⟨b,p,q,by rw [h]⟩ else none
 | _=>none
def rgA (l:List Expr):Option Expr:=(rgS l).map (·.1)
def okC (x:Str):Bool:=cE st x&&(slot st x).isNone&&st.bl.contains x
def bV (e:Expr):XR (List PyData):=match e with
 | .List es _=>xPl (aQ v st es)
 | .ListComp elt [⟨tg,iter,ifs,a⟩] sc _=>if a=0 then jK v st elt tg iter ifs sc else xno
 | .Subscript a (.Slice lo hi none _) _=>xb (v.E st a) fun x=>xb (iW v st lo) fun l=>xb (iW v st hi) fun u=>fun _ h=>(match ref h x with
  | some (.list xs)=>some (cut xs l u,h)
  | _=>none)
 | .Subscript a (.Slice none none (some k) _) _=>xb (v.E st a) fun x=>xb (iW v st (some k)) fun o=>fun _ h=>(match ref h x with
  | some (.list xs)=>if o=some (-1) then some (xs.reverse,h) else none
  | _=>none)
 | .BinOp a .Add b _=>xb (v.E st a) fun u=>xb (v.E st b) fun w=>fun _ h=>(match ref h u,ref h w with
  | some (.list xs),some (.list ys)=>if xs.length+ys.length<=sizeLine then some (xs++ys,h) else none
  | _,_=>none)
 | .BinOp (.List es p) .Mult b _=>xb (aV (xPl (aQ v st es))) fun u=>xb (v.E st b) fun w=>fun _ h=>(match u,w with
  | .c i,.d (.int k)=>(match h[i]? with
   | some (.l xs)=>if -(2^63)<=k/\k < 2^63/\xs.length*k.toNat<=sizeLine then some ((List.replicate k.toNat xs).flatten,h) else none
   | _=>none)
  | _,_=>none)
 | .Call (.Name x _) (a::es) [] _=>if x="list" then (match rgA (a::es) with
  | some b=>if okC st x&&okC st "range"&&aH b then xb (aQ v st [b]) fun ws=>fun _ h=>(match ws with
   | [.d (.int j)]=>if -(2^62)<=j/\j < 2^62/\j<=16000000 then some (rng 0 j.toNat,h) else none
   | _=>none) else xno
  | none=>if cE st x&&(slot st x).isNone&&st.bl.contains x then xb (aQ v st (a::es)) fun ws=>fun _ h=>(match ws with
  | [w]=>(match ref h w with
   | some (.list xs)=>some (xs,h)
   | some (.tuple xs)=>some (xs,h)
   | _=>none)
  | _=>none) else xno) else if x="sorted" then (if okC st x then xb (aQ v st (a::es)) fun ws=>fun _ h=>aL4 ws h else xno) else xno
 | _=>xno
noncomputable def qY:Expr->Bool
 | .Slice _ _ _ _=>true
 | _=>false
noncomputable def fJ:Expr->Bool
 | .Call _ _ _ _=>false
 | _=>true
noncomputable def fZ (o:W) (ws:List W) (h:aA):Option (W×aA):=match o,ws with
 | .c j,[.d x]=>(match h[j]? with
  | some (.l xs)=>if xs.length < sizeLine then some (.d .none,h.set j (.l (xs++[x]))) else none
  | _=>none)
 | .c j,[.c k]=>(match h[j]? with
  | some (.r is)=>if is.length < sizeLine then some (.d .none,h.set j (.r (is++[k]))) else none
  | _=>none)
 | _,_=>none
def aL5 (m:Str):Option (W->List W->aA->Option (W×aA)) :=
 if m="append" then some fZ
 else if m="index" then some fun o ws h=>(match o,ws with
  | .d (.list xs),[.d d]=>if (aI 64 (.list xs)&&aI 64 d)=true then (xs.findIdx? (fun z=>PyData.eqv z d)).map fun (j:Nat)=>(.d (.int j),h) else none
  | _,_=>none)
 else none
noncomputable def uJ (m:Str) (w:W) (h:aA):Bool:=if m="append" then (match w with
  | .c j=>(match h[j]? with
   | some (.l _)=>true
   | some (.r _)=>true
   | _=>false)
  | _=>false) else true
def aI5 (o:Expr) (m:Str) (g:W->List W->aA->Option (W×aA)) (args:List Expr):XR W:=xb (v.E st o) fun w=>fun δ h=>if uJ m w h=true then (aQ v st args δ h).bind fun p=>g w p.1 p.2 else none
def aL6 (j:Nat) (ws:List W) (h:aA):Option (W×aA):=match ws,h[j]? with
 | [.d (.int i)],some (.l xs)=>(ixN xs.length i).bind fun n=>(xs[n]?).bind fun x=>if -(2^63)<=i/\i < 2^63 then some (.d x,h.set j (.l (xs.eraseIdx n))) else none
 | _,_=>none
def aY6 (o a:Expr):XR W:=xb (v.E st o) fun w=>fun δ h=>match w with
 | .c j=>(match h[j]? with
  | some (.l _)=>(aQ v st [a] δ h).bind fun p=>aL6 j p.1 p.2
  | _=>none)
 | _=>none
def aY7 (o a:Expr):XR W:=xb (v.E st o) fun w=>fun δ h=>match w with
 | .c j=>(match h[j]? with
  | some (.l _)=>(v.F st a δ h).bind fun p=>(match p.2[j]? with
   | some (.l xs)=>if xs.length+p.1.length<=sizeLine then some (.d .none,p.2.set j (.l (xs++p.1))) else none
   | _=>none)
  | _=>none)
 | _=>none
noncomputable def wQ:Expr->Bool
 | .Name _ _=>true
 | .Call (.Name _ _) (_::_) [] _=>true
 | _=>false
noncomputable def xMk (C:Addr) (m:XFW) (ws:List W) (h:aA):Option (W×aA):=(m (.c h.length::ws) (h++[.o C []])).bind fun p=>match p.1 with
 | .d .none=>some (.c h.length,p.2)
 | _=>none
def xMo (o:Expr) (m:Str) (C:Addr) (g:XFW) (args:List Expr):XR W:=xb (v.E st o) fun w=>fun δ h=>match w with
 | .c j=>(match h[j]? with
  | some (.o C' fs)=>if C'=C/\fs.lookup m=none then (aQ v st args δ h).bind fun p=>g (.c j::p.1) p.2 else none
  | _=>none)
 | _=>none
def aY8 (o:Expr) (f:Str):XR W:=xb (v.E st o) fun w=>fun _ h=>match w with
 | .c j=>(match h[j]? with
  | some (.o C fs)=>if st.ob.fo C f=true then (fs.lookup f).map fun w=>(w,h) else none
  | _=>none)
 | _=>none
noncomputable def aY9:(l:List Expr)->Option {y:Expr×Str // ∃ p,l=[y.1,.Name y.2 p]}
 | [e,.Name T p]=>some ⟨(e,T),p,rfl⟩
 | _=>none
noncomputable def aZ0:(l:List Expr)->Option {y:Expr // ∃ p q k r,l=[y,.Tuple [.Name "list" p,.Name "tuple" q] k r]}
 | [e,.Tuple [.Name T p,.Name T' q] k r]=>if h:T="list"/\T'="tuple" then some ⟨e,p,q,k,r,by rw [h.1,h.2]⟩ else none
 | _=>none
def aL7 (args:List Expr):XR W:=match aY9 args with
 | some ⟨(e,T),_⟩=>if aH e&&cE st T&&(slot st T).isNone&&st.bl.contains T then (match aC4 T with
   | some Ts=>xb (v.E st e) fun w=>fun _ h=>(ref h w).bind fun d=>some (.d (.bool (isi d Ts)),h)
   | none=>xno) else xno
 | none=>(match aZ0 args with
  | some ⟨e,_⟩=>if aH e&&okC st "list"&&okC st "tuple" then xb (v.E st e) fun w=>fun _ h=>(ref h w).bind fun d=>some (.d (.bool (isi d "list"||isi d "tuple")),h) else xno
  | none=>xno)
def aL8 (o:Expr) (m:Str) (apos pos:Pos) (args:List Expr):XR W:=if fJ o&&(apos.endLine==pos.line) then
   (match args with
    | []=>xno
    | a::es=>if m="pop" then (match es with
      | []=>if aH a=true then aY6 v st o a else xno
      | _=>xno)
     else if m="extend" then (match es with
      | []=>if aH a=true then aY7 v st o a else xno
      | _=>xno)
     else if decide (args.length < 29) then (match aL5 m with
     | some g=>aI5 v st o m g args
     | none=>xno) else xno)
   else xno
def sU (f:Expr) (args:List Expr) (pos:Pos):XR W:=match f with
 | .Name x _=>if cE st x&&(slot st x).isNone then
   (match st.ob.fnW x with
   | some m=>(match args with
     | []=>xno
     | _::_=>xb (aQ v st args) fun ws=>fun _ h=>m ws h)
   | none=>match st.ob.cls x with
   | some (C,m)=>(match args with
     | []=>xno
     | _::_=>xb (aQ v st args) fun ws=>fun _ h=>xMk C m ws h)
   | none=>match st.fn x with
    | some m=>(match args with
     | []=>xno
     | _::_=>xb (if (st.ac x).isEmpty=true then aQ v st args else gJ v st (st.ac x) 0 args) fun ws=>fun _ h=>(m ws h).bind fun p=>some (.d p.1,p.2))
    | none=>if st.bl.contains x then
      (match aL0 x with
       | some g=>(match args with
        | []=>xno
        | _::_=>xb (aQ v st args) fun ws=>fun _ h=>g ws h)
       | none=>if x="isinstance" then aL7 v st args
        else aM (bV v st (.Call f args [] pos)))
     else xno)
   else xno
 | .Attribute o m apos=>match st.ob.om m with
  | some (C,g)=>(match args with
    | []=>xno
    | _::_=>if wQ o&&(apos.endLine==pos.line)&&decide (args.length < 29)&&args.all aH then xMo v st o m C g args else xno)
  | none=>aL8 v st o m apos pos args
 | _=>xno
def xLS:List W->aA->Option (W×aA)
 | [.d (.tuple xs)],h=>(match cS xs with
  | some ns=>if ns.length<=62 then some (.d (.int (ST.dd ns).length),h) else none
  | none=>none)
 | [.d (.list xs)],h=>(match cS xs with
  | some ns=>if ns.length<=62 then some (.d (.int (ST.dd ns).length),h) else none
  | none=>none)
 | _,_=>none
def okB (x:Str):Bool:=cE st x&&(slot st x).isNone&&st.bl.contains x&&(st.fn x).isNone
noncomputable def fuS:(f:Expr)->(l:List Expr)->Option {a:Expr // ∃ p p2 q,f=.Name "len" p/\l=[.Call (.Name "set" p2) [a] [] q]}
 | .Name x p,[.Call (.Name y p2) [a] [] q]=>if h:x="len"/\y="set" then some ⟨a,p,p2,q,by rw [h.1],by rw [h.2]⟩ else none
 | _,_=>none
def wR (f:Expr) (args:List Expr) (pos:Pos):XR W:=match fuS f args with
 | some ⟨a,_⟩=>if okB st "len"&&okB st "set"&&aH a then xb (aQ v st [a]) fun ws=>fun _ h=>xLS ws h else xno
 | none=>sU v st f args pos
def pH (e:Expr):XR W:=match e with
 | .Name x _=>wJ st x
 | .Constant c _ _=>wK c
 | .BinOp a op b _=>(match a,op with
  | .List es p,.Mult=>aM (bV v st (.BinOp (.List es p) .Mult b p))
  | _,_=>xb (v.E st a) fun u=>xb (v.E st b) fun w=>fun _ h=>cW op u w h)
 | .Compare a ops cs _=>cN (iX v st a ops cs)
 | .BoolOp .And vs _=>wO v st vs
 | .BoolOp .Or vs _=>aL1 v st vs
 | .UnaryOp .Not a _=>xb (v.E st a) fun w=>(match w with
  | .d (.bool b)=>aD (.d (.bool (!b)))
  | _=>xno)
 | .UnaryOp .USub a _=>xb (v.E st a) fun w=>(match w with
  | .d (.int i)=>aD (.d (.int (-i)))
  | _=>xno)
 | .IfExp c a b _=>xb (v.T st c) fun t=>if t=true then v.E st a else v.E st b
 | .Tuple es _ _=>xb (xPl (aQ v st es)) fun xs=>aD (.d (.tuple xs))
 | .List es p=>aM (bV v st (.List es p))
 | .ListComp elt gs sc p=>aM (bV v st (.ListComp elt gs sc p))
 | .Subscript a s _=>(match s with
  | .Slice lo hi none _=>xb (v.E st a) fun x=>xb (iW v st lo) fun l=>xb (iW v st hi) fun u=>fun _ h=>xSl x l u h
  | .Slice none none (some k) p=>aM (bV v st (.Subscript a (.Slice none none (some k) p) p))
  | _=>if qY s=true then xno else (match gZ st a with
   | some f=>xb (v.E st s) fun w=>(match w with
    | .d (.str z)=>(match f z with
     | some i=>aD (.d i)
     | none=>xno)
    | _=>xno)
   | none=>xb (v.E st a) fun x=>xb (v.E st s) fun y=>fun _ h=>xIx x y h))
 | .Call f args [] p=>wR v st f args p
 | .Attribute o f _=>if fJ o=true then aY8 v st o f else xno
 | .Dict [] [] _=>aD (.d (.dict []))
 | _=>xno
def aI6 (e:Expr):XR Bool:=match e with
 | .UnaryOp .Not a _=>xb (v.T st a) fun b=>aD (!b)
 | .BoolOp .And vs _=>wP v st vs
 | .BoolOp .Or vs _=>aL2 v st vs
 | .Compare a ops cs _=>eU v st a ops cs
 | .IfExp _ _ _ _=>xno
 | _=>xb (v.E st e) fun w=>(match w with
  | .d (.bool b)=>aD b
  | _=>xno)
noncomputable def jL:List Expr->List XG
 | []=>[]
 | e::es=>v.G st e::jL es
def wT (es:List Expr) (xs:List PyData) (δ:DSt) (h:aA):Option (DSt×aA):=iV (jL v st es) xs δ h
def pI (j:Nat) (y x:PyData) (δ:DSt) (h:aA):Option (DSt×aA):=match h[j]?,y with
   | some (.l xs),.int k=>(ixN xs.length k).map fun n=>(δ,h.set j (.l (xs.set n x)))
   | some (.k kvs),_=>if (cR y).isSome=true/\kvs.length < sizeLine then some (δ,h.set j (.k (nO kvs y x))) else none
   | some (.n kvs),_=>if (fH y&&hkB 4 y)=true/\kvs.length < sizeLine then some (δ,h.set j (.n (kN kvs y x))) else none
   | _,_=>none
def pJ (e:Expr):XG:=match e with
 | .Name x _=>(match slot st x with
  | some i=>if nP st.S x&&(st.top||cO st.S x) then fun w δ h=>some (δ.set i (some w),h) else fun _ _ _=>none
  | none=>fun _ _ _=>none)
 | .Tuple es _ _=>if es.all aH=true then bU (jL v st es) else fun _ _ _=>none
 | .Subscript o i _=>if qY i=true then fun _ _ _=>none else fun w δ h=>(v.E st o δ h).bind fun p=>(v.E st i δ p.2).bind fun q=>(match p.1,q.1,w with
  | .c j,.d y,.d x=>pI j y x δ q.2
  | _,_,_=>none)
 | _=>fun _ _ _=>none
def gK (g:XG) (tt:XR Bool) (te:XR W) (c:Cw) (all:List PyData):List PyData->DSt->aA->List Nat->Option (List Nat×aA)
 | [],_,h,ac=>if condB c all h=true then some (ac,h) else none
 | x::r,δ,h,ac=>if condB c all h=true then
   (g (.d x) δ h).bind fun p=>(tt p.1 p.2).bind fun q=>if q.1=true then
     (te p.1 q.2).bind fun y=>(match y.1 with
      | .c j=>gK g tt te c all r p.1 y.2 (ac++[j])
      | _=>none)
    else gK g tt te c all r p.1 q.2 ac
  else none
def wU (tg iter:Expr) (ifs:List Expr) (sc:Scope):XR W :=
 if pG st.N sc st.S&&!hG iter then xb (mF v st tg iter) fun p=>fun δ h=>(gK (v.G (st.blk sc) tg) (aC5 v (st.blk sc) ifs) (aV (xPl (aD []))) p.2 p.1 p.1 (aU (mG st.N sc) δ) h []).bind fun q=>some (.c q.2.length,q.2++[.r q.1]) else xno
noncomputable def lcS:(e:Expr)->Option {y:Expr×Expr×List Expr×Int×Scope // ∃ p q,e=.ListComp (.List [] p) [⟨y.1,y.2.1,y.2.2.1,y.2.2.2.1⟩] y.2.2.2.2 q}
 | .ListComp (.List [] p) [⟨tg,iter,ifs,a⟩] sc q=>some ⟨(tg,iter,ifs,a,sc),p,q,rfl⟩
 | _=>none
def aL9 (e:Expr):XR W:=match lcS e with
 | some ⟨(tg,iter,ifs,a,sc),_⟩=>if a=0 then wU v st tg iter ifs sc else xno
 | none=>v.E st e
def aZ1 (o:Expr) (f:Str) (e:Expr):XS:=fun δ h=>(aL9 v st e δ h).bind fun p=>(v.E st o δ p.2).bind fun q=>match q.1 with
 | .c j=>(match q.2[j]? with
  | some (.o C fs)=>if st.ob.fo C f=true/\fs.length < 1000 then some (.nx δ,q.2.set j (.o C (gI f p.1 fs))) else none
  | _=>none)
 | _=>none
noncomputable def gL:Expr->Bool
 | .ListComp _ _ _ _=>true
 | .SetComp _ _ _ _=>true
 | .DictComp _ _ _ _ _=>true
 | _=>false
def aC6 (e tg:Expr):Bool:=sT e&&(match tg with
 | .Tuple _ _ _=>true
 | .List _ _=>true
 | _=>false)
noncomputable def xSs:List Stmt->XS
 | [],δ,h=>some (.nx δ,h)
 | s::r,δ,h=>(v.S st s δ h).bind fun p=>(match p.1 with
  | .nx δ'=>xSs r δ' p.2
  | f=>some (f,p.2))
noncomputable def bR3:Expr->Bool
 | .Dict [] [] _=>true
 | _=>false
noncomputable def aI7:XR W:=fun _ h=>some (.c h.length,h++[.k []])
noncomputable def wfC:Expr->Bool
 | .Call (.Name f _) _ [] _=>(st.ob.fnW f).isSome
 | _=>false
noncomputable def pnS:(x:PyData)->Option {y:List PyData×PyData // x=.tuple [.tuple y.1,y.2]}
 | .tuple [.tuple k,v]=>some ⟨(k,v),rfl⟩
 | _=>none
def kO:List PyData->Option (List (PyData×PyData))
 | []=>some []
 | x::r=>(pnS x).bind fun y=>if hkB 4 (.tuple y.1.1)=true then (kO r).map ((.tuple y.1.1,y.1.2)::·) else none
def iY (ds:List (PyData×PyData)):List (PyData×PyData):=ds.foldl (fun a p=>kN a p.1 p.2) []
def sV:List W->aA->Option (W×aA)
 | [w],h=>(match ref h w with
  | some (.list xs)=>if xs.length<=1000 then (match nQ xs with
   | some ds=>some (.c h.length,h++[.k (wM ds)])
   | none=>(kO xs).map fun ds=>(.c h.length,h++[.n (iY ds)])) else none
  | _=>none)
 | _,_=>none
noncomputable def dcS:(e:Expr)->Option {a:Expr // ∃ p q,e=.Call (.Name "dict" p) [a] [] q}
 | .Call (.Name x p) [a] [] q=>if h:x="dict" then some ⟨a,p,q,by rw [h]⟩ else none
 | _=>none
def dcA (e:Expr):Option Expr:=(dcS e).map (·.1)
def aC7 (e:Expr):XR W:=match dcA e with
 | some a=>if okC st "dict"=true then xb (aQ v st [a]) fun ws=>fun _ h=>sV ws h else xno
 | none=>aV (v.F st e)
noncomputable def aN (i:Nat) (x:XR W):XS:=fun δ h=>(x δ h).bind fun p=>some (.nx (δ.set i (some p.1)),p.2)
def swB (e:Expr) (x:Str) (px:Pos):Bool:=match e with
 | .ListComp _ _ sc p=>cO st.S x&&(px.line==p.line)&&!(sc.names.any fun (n,k)=>n==x&&(k==.local||k==.cell))
 | _=>false
def pK (s:Stmt):XS:=match s with
 | .Return (some e) _=>fun δ h=>((if st.cv.contains "return"=true then aC7 v st e else v.E st e) δ h).bind fun p=>some (.rt p.1,p.2)
 | .If c a b _=>fun δ h=>(v.T st c δ h).bind fun p=>if p.1=true then xSs v st a δ p.2 else xSs v st b δ p.2
 | .Expr e _=>if gL e=true then fun _ _=>none else fun δ h=>(v.E st e δ h).bind fun p=>some (.nx δ,p.2)
 | .Pass _=>fun δ h=>some (.nx δ,h)
 | .Break _=>fun δ h=>some (.bk δ,h)
 | .Continue _=>fun δ h=>some (.ct δ,h)
 | .For tg iter body [] _=>if hG iter=true then fun _ _=>none else fun δ h=>(mF v st tg iter δ h).bind fun p=>bR (v.G st tg) (xSs v st body) p.1.2 p.1.1 p.1.1 δ p.2
 | .Assign [.Name x px] e _=>(match slot st x with
  | some i=>if nP st.S x&&(st.top||cO st.S x) then
    (if gL e=true then (if (swB st e x px||!(cO st.S x))=true then aN i (if st.cv.contains x=true then aV (bV v st e) else aM (bV v st e)) else fun _ _=>none)
    else if (st.cv.contains x&&bR3 e)=true then aN i aI7
    else if (st.cv.contains x&&!(wN e||wfC st e))=true then aN i (aV (v.F st e)) else aN i (v.E st e))
   else fun _ _=>none
  | none=>fun _ _=>none)
 | .Assign [.Attribute o f _] e _=>aZ1 v st o f e
 | .Assign [tg] e _=>if (gL e||aC6 e tg||!(aH tg))=true then fun _ _=>none else fun δ h=>(v.E st e δ h).bind fun p=>(v.G st tg p.1 δ p.2).bind fun q=>some (.nx q.1,q.2)
 | _=>fun _ _=>none
end
def aZ2 (v:Evs):Evs:=⟨pH v,aI6 v,bV v,pJ v,pK v⟩
def evs:Nat->Evs
 | 0=>.no
 | n+1=>aZ2 (evs n)

def parsOf (s:Stmt):List Str:=(eD s).args.map (·.arg)
def bL (s:Stmt):List Str:=parsOf s++((defScope s).names.filter fun p=>(p.2==.local||p.2==.cell)&&!((parsOf s).contains p.1)).map (·.1)
def fnB (s:Stmt):Bool:=decide ((defScope s).kind=.function)&&(!(defScope s).isCoroutine&&(!(defScope s).isGenerator&&(decide (bL s).Nodup&&(((parsOf s).all fun x=>nP (defScope s) x)&&((defScope s).names.all fun y=>!(y.2==.free))))))
open Classical in
noncomputable def aO (h0:aA) (p:Fl×aA):Option (PyData×aA):=if okP h0 p.2 then (match p.1 with
 | .nx _=>some (.none,p.2.take h0.length)
 | .rt (.d z)=>some (z,p.2.take h0.length)
 | .rt (.c i)=>(match p.2[i]? with
  | some (.l xs)=>if h0.length<=i then some (.list xs,p.2.take h0.length) else none
  | some (.k kvs)=>if h0.length<=i then some (.dict kvs,p.2.take h0.length) else none
  | _=>none)
 | _=>none) else none
noncomputable def sW (p:Fl×aA):Option (W×aA):=match p.1 with
 | .nx _=>some (.d .none,p.2)
 | .rt w=>some (w,p.2)
 | _=>none
structure Top where
 bl:List Str
 gc:Str->Option PyData
 tk:Str->Option (Str->Option PyData)
 defs:Str->Option Stmt
 ac:Str->List Nat
 cv:Str->List Str
 fuel:Nat
 deep:Nat
 wf:Str->Bool
 ini:Str->Option (Addr×Stmt)
 mt:Str->Option (Addr×Stmt)
 fo:Addr->Str->Bool
 qn:Str->Option (Str×Pos)
def Top.sta (t:Top) (fn:Str->Option XF) (ob:ObS) (x:Str) (s:Stmt):Sta:=⟨t.bl,t.gc,t.tk,fn,t.ac,t.cv x,bL s,defScope s,true,t.fuel,ob,t.qn x⟩
def jM (t:Top) (fn:Str->Option XF) (ob:ObS) (x:Str) (s:Stmt):XF:=fun ws h =>
 if fnB s=true/\ws.length=(parsOf s).length then (xSs (evs t.deep) (t.sta fn ob x s) (aX s) (cF (bL s) ws) h).bind (aO h) else none
def gB (t:Top) (fn:Str->Option XF) (ob:ObS) (x:Str) (s:Stmt):XFW:=fun ws h =>
 if fnB s=true/\ws.length=(parsOf s).length then (xSs (evs t.deep) (t.sta fn ob x s) (aX s) (cF (bL s) ws) h).bind sW else none
abbrev fnT (t:Top) (D:Str->XF):Str->Option XF:=fun y=>(t.defs y).map fun _=>D y
abbrev obT (t:Top) (W I M:Str->XFW):ObS:=⟨fun y=>if t.wf y=true then (t.defs y).map fun _=>W y else none,fun y=>(t.ini y).map fun p=>(p.1,I y),fun y=>(t.mt y).map fun p=>(p.1,M y),t.fo⟩
mutual
noncomputable def aE (t:Top):Nat->Str->XF
 | 0,_=>fun _ _=>none
 | d+1,x=>(match t.defs x with
  | some s=>jM t (fnT t fun y=>aE t d y) (obT t (fun y=>callW t d y) (fun y=>callI t d y) fun y=>callM t d y) x s
  | none=>fun _ _=>none)
noncomputable def callW (t:Top):Nat->Str->XFW
 | 0,_=>fun _ _=>none
 | d+1,x=>(match t.defs x with
  | some s=>gB t (fnT t fun y=>aE t d y) (obT t (fun y=>callW t d y) (fun y=>callI t d y) fun y=>callM t d y) x s
  | none=>fun _ _=>none)
noncomputable def callM (t:Top):Nat->Str->XFW
 | 0,_=>fun _ _=>none
 | d+1,x=>(match t.mt x with
  | some (_,s)=>gB t (fnT t fun y=>aE t d y) (obT t (fun y=>callW t d y) (fun y=>callI t d y) fun y=>callM t d y) x s
  | none=>fun _ _=>none)
noncomputable def callI (t:Top):Nat->Str->XFW
 | 0,_=>fun _ _=>none
 | 1,_=>fun _ _=>none
 | d+2,x=>(match t.ini x with
  | some (_,s)=>gB t (fnT t fun y=>aE t d y) (obT t (fun y=>callW t d y) (fun y=>callI t d y) fun y=>callM t d y) x s
  | none=>fun _ _=>none)
end
end CI

namespace CI
def bind_some {α β:Type} {x:Option α} {f:α->Option β} {b:β} (e:x.bind f=some b):∃ a,x=some a/\f a=some b:=Option.bind_eq_some_iff.mp e
def map_some {α β:Type} {x:Option α} {f:α->β} {b:β} (e:x.map f=some b):∃ a,x=some a/\f a=b:=Option.map_eq_some_iff.mp e
def aF {α:Type} {c:Prop} [Decidable c] {x:Option α} {b:α} (e:(if c then x else none)=some b):c/\x=some b:=by
 by_cases h:c
 ·rw [if_pos h] at e;exact ⟨h,e⟩
 ·rw [if_neg h] at e;cases e
end CI
namespace DL
open PySem PySem.Spec PyProof.Rows L2 CI
def thn {α:Type} {t:Sem α} {Q Q':α->Shared->Prop} {M:Model} {A:Around} {E:Value->Shared->Prop} {s:Shared} (h:wpAny M A t Q E s) (hQ:∀ a s,Q a s->Q' a s):wpAny M A t Q' E s:=wpAny_mono h hQ fun _ _ x=>x
abbrev Wp (S:Sx) (A:Around) {α:Type} (t:Sem α) (Q:α->Shared->Prop) (E:Value->Shared->Prop) (s:Shared):Prop:=wpAny (model S.P S.w) A t Q E s
def Pw (S:Sx) (κ:Kp) (M:Mp) (h:aA) (w:W) (u:Value) (s:Shared):Prop:=∃ M',Le M M'/\Mem S κ M' h s/\RepW S M' w u
def Pf (S:Sx) (κ:Kp) (M:Mp) (h:aA) (xs:List PyData) (u:Value) (s:Shared):Prop :=
 ∃ M',Le M M'/\Mem S κ M' h s/\∃ a us n,u=.ref a/\s.heap.get? a=some (bX us n)/\bH κ M' a/\us.length<=sizeLine/\Reps' S M' xs us
structure Room (k:Nat) (A:Around):Prop where
 hd:A.handled=none
 dp:A.depth+3*k+5 < recursionLimit
 un:A.units+16*k+200 < cLine
section
variable {S:Sx} {κ:Kp} {M:Mp} {h h':aA} {s:Shared} {A:Around} {E:Value->Shared->Prop} {x y w:W} {u v:Value} {d:Nat}
def wi {i:Int}:RepW S M (.d (.int i)) u ↔ ∃ t,u=.int i t:=rep_i (S:=S) (Z:=M.Z)
def wb {i:Bool}:RepW S M (.d (.bool i)) u ↔ u=.bool i:=rep_b (S:=S) (Z:=M.Z)
def wn:RepW S M (.d .none) u ↔ u=.none:=aX9 (S:=S) (Z:=M.Z)
def Pw.go {M':Mp} (l:Le M M') (p:Pw S κ M' h w u s):Pw S κ M h w u s:=let ⟨N,a,b⟩:=p;⟨N,l.trans a,b⟩
def Mem.pw (R:Mem S κ M h s) (r:RepW S M w u):Pw S κ M h w u s:=⟨M,.refl,R,r⟩
def Mem.pi (R:Mem S κ M h s) {i:Int} {t t':Nat}:Pw S κ M h (.d (.int i)) (.int i t) { s with toks:=t' }:=(R.tok t').pw (wi.mpr ⟨_,rfl⟩)
def Mem.pb (R:Mem S κ M h s) {b:Bool}:Pw S κ M h (.d (.bool b)) (.bool b) s:=R.pw (wb.mpr rfl)
def Mem.pn (R:Mem S κ M h s):Pw S κ M h (.d .none) .none s:=R.pw (wn.mpr rfl)
def nR {xs:List PyData} (p:Pf S κ M h xs u s):Pw S κ M h (.d (.list xs)) u s:=by
 obtain ⟨N,l,R,a,us,n,rfl,e,f,z,r⟩:=p;exact ⟨N.add a (bX us n),l.trans (.add f.1),R.frz f e,rep_l.mpr ⟨a,_,us,rfl,kM,⟨⟨n,rfl⟩,z⟩,r.go (.add f.1)⟩⟩
def wV {xs:List PyData} (p:Pf S κ M h xs u s):Pw S κ M (h++[.l xs]) (.c h.length) u s:=by
 obtain ⟨N,l,R,a,us,n,rfl,e,f,z,r⟩:=p;exact ⟨N.cel (a,a),l.trans .cel,R.add f f ⟨⟨_,e⟩,_,e⟩ ⟨us,n,e,z,r.go .cel⟩,(a,a),by show (N.m++[(a,a)])[h.length]?=_;rw [<- R.len];simp,rfl⟩
def Mem.tup {xs:List PyData} {us:List Value} {t:Nat} (R:Mem S κ M h s) (r:Reps' S M xs us) (z:us.length<=sizeLine):Pw S κ M h (.d (.tuple xs)) (.ref s.heap.objs.size) { s with heap:=s.heap.push { cls:=.type "tuple",data:=.seq us.toArray },toks:=t }:=by
 have R1:Mem S κ M h { s with heap:=s.heap.push { cls:=.type "tuple",data:=.seq us.toArray },toks:=t }:=R.kept fun b o e=>Heap.get?_push_of_some _ e;exact ⟨_,.add R.size.1,R1.frz R.size (Heap.get?_push_size _ rfl),rep_t.mpr ⟨_,_,us,rfl,kM,⟨⟨_,rfl⟩,z⟩,r.go (.add R.size.1)⟩⟩
def Mem.lst {h2:Heap} {xs:List PyData} {us:List Value} {n t:Nat} (R:Mem S κ M h s) (k:∀ b o,s.heap.get? b=some o->h2.get? b=some o) (e:h2.get? s.heap.objs.size=some (bX us n)) (r:Reps' S M xs us) (z:us.length<=sizeLine) :
  Pf S κ M h xs (.ref s.heap.objs.size) { s with heap:=h2,toks:=t }:=⟨M,.refl,R.kept k,_,us,n,rfl,e,R.size,z,r⟩
def Mem.lstP {xs:List PyData} {us:List Value} {n t:Nat} (R:Mem S κ M h s) (r:Reps' S M xs us) (z:us.length<=sizeLine):Pf S κ M h xs (.ref s.heap.objs.size) { s with heap:=s.heap.push (bX us n),toks:=t } :=
 R.lst (fun b o e=>Heap.get?_push_of_some _ e) (Heap.get?_push_size _ rfl) r z
def ref_l {xs:List PyData} (R:Mem S κ M h s) (r:RepW S M w u) (e:ref h w=some (.list xs)):∃ a us n,u=.ref a/\s.heap.get? a=some (bX us n)/\us.length<=sizeLine/\Reps' S M xs us:=by
 cases w with
 | d y =>
  cases e;obtain ⟨a,o,us,e,z,⟨⟨n,rfl⟩,l⟩,r⟩:=rep_l.mp (show Rep S M.Z (.list xs) u from r);exact ⟨a,us,n,e,R.z a _ z,l,r⟩
 | c i =>
  obtain ⟨p,e1,rfl⟩:=r;dsimp only [DL.ref] at e;cases q:h[i]? with
  | none=>rw [q] at e;cases e
  | some c =>
   cases c with
   | l ys=>rw [q] at e;cases e;obtain ⟨us,n,a,b,c⟩:=R.cel i p _ e1 q;exact ⟨_,us,n,rfl,a,b,c⟩
   | _=>rw [q] at e;cases e
def eW {xs:List PyData} (R:Mem S κ M h s) (r:RepW S M w u) (e:ref h w=some (.tuple xs)):∃ a us n,u=.ref a/\M.Z a=some { cls:=.type "tuple",data:=.seq us.toArray n }/\us.length<=sizeLine/\Reps' S M xs us:=by
 cases w with
 | d y =>
  cases e;obtain ⟨a,o,us,e,z,⟨⟨n,rfl⟩,l⟩,r⟩:=rep_t.mp (show Rep S M.Z (.tuple xs) u from r);exact ⟨a,us,n,e,z,l,r⟩
 | c i =>
  dsimp only [DL.ref] at e;cases q:h[i]? with
  | none=>rw [q] at e;cases e
  | some c=>cases c<;>(rw [q] at e;cases e)
def sX {kvs:List (PyData×PyData)} (R:Mem S κ M h s) (r:RepW S M w u) (e:ref h w=some (.dict kvs)):∃ a vs,u=.ref a/\s.heap.DictOf (bA S.P S.w) a vs/\RepK S M.Z kvs vs/\(a==sysModules)=false/\vs.length<=sizeLine:=by
 cases w with
 | d y =>
  cases e;obtain ⟨a,o,vs,e,z,q,r⟩:=rep_d.mp (show Rep S M.Z (.dict kvs) u from r);exact ⟨a,vs,e,q.2.2 _ (R.z a o z),r,q.1,q.2.1⟩
 | c i =>
  obtain ⟨p,e1,rfl⟩:=r;dsimp only [DL.ref] at e;cases q:h[i]? with
  | none=>rw [q] at e;cases e
  | some c =>
   cases c with
   | k ys=>rw [q] at e;cases e;obtain ⟨vs,a,b,c⟩:=R.cel i p _ e1 q;exact ⟨_,vs,rfl,a,b,c⟩
   | _=>rw [q] at e;cases e
def cA {a:Addr} {us:List Value} {n:Nat} (e:s.heap.get? a=some (bX us n)):PlainL s.heap a us.toArray:=⟨_,n,e,rfl,rfl,rfl⟩
def eE {hp:Heap} {a:Addr} {us:List Value} {n:Nat} (e:hp.get? a=some { cls:=.type "tuple",data:=.seq us.toArray n }):IsTup hp a us.toArray:=⟨_,e,rfl,n,rfl⟩
def lV {x:W} {d:PyData} (R:Mem S κ M h s) (r:RepW S M x u) (e:ref h x=some d) (p:aI 64 d=true):(∃ as,Reads s.heap u d as)/\SeqAt.shaped d=true:=by
 have go:(∃ as,Reads s.heap u d as)/\d.canLay0=true/\d.depth<=64:=by
  cases x with
  | d y=>cases e;exact Rep.reads R.z 64 r p
  | c i =>
   cases d with
   | list xs =>
    obtain ⟨a,us,n,rfl,ho,_,rr⟩:=ref_l R r e;obtain ⟨⟨as,q⟩,c,l⟩:=Reps.reads R.z 63 (reps_iff.mpr rr) (by simpa [aI] using p);exact ⟨⟨_,Reads.list ho rfl rfl (by simpa using q)⟩,by simp [PyData.canLay0,PyData.depth,c,l]⟩
   | dict _=>simp [aI] at p
   | _ =>
    dsimp only [DL.ref] at e;cases q:h[i]? with
    | none=>rw [q] at e;cases e
    | some c=>cases c<;>(rw [q] at e;cases e)
 exact ⟨go.1,by unfold SeqAt.shaped;rw [go.2.1];simpa using go.2.2⟩
def aM0 {j:Int} (h:aP j=true):0 < j/\j.natAbs.log2 < 9000:=by
 unfold aP at h;simp only [Bool.and_eq_true,Bool.or_eq_true,decide_eq_true_eq] at h;refine ⟨h.1,?_⟩;rcases h.2 with z | z
 ·have h0:j.natAbs≠0:=by omega
  have:=(Nat.log2_lt h0 (k:=30)).mpr (by omega);omega
 ·omega
def qZ (k:Nat):(0:Int)<=2^k:=by rw [two_pow_cast];exact Int.natCast_nonneg _
def aM1 {i j:Int} (h:cM i j=true):IntMulOk i j:=by
 unfold cM at h;simp only [Bool.and_eq_true,Bool.or_eq_true,decide_eq_true_eq] at h;rcases h with ⟨h1,h2⟩ | ⟨h1,h2⟩
 ·exact .of_left (intBits_le_64 h1 h2)
 ·exact .of_right (intBits_le_64 h1 h2)
def aM2 (R:Mem S κ M h s) (ra:RepW S M x u) (rb:RepW S M y v) (e:aC2 x y h=some (w,h')):Wp S A (binaryOp .Add u v) (Pw S κ M h' w) E s:=by
 unfold aC2 at e;split at e
 ·cases e;obtain ⟨t,rfl⟩:=wi.mp ra;obtain ⟨t',rfl⟩:=wi.mp rb;exact add_int R.pi
 ·obtain ⟨hz,e⟩:=aF e;cases e;obtain ⟨a,us,n,rfl,ea,la,ra'⟩:=eW (h:=h) R ra rfl;obtain ⟨b,vs,m,rfl,eb,lb,rb'⟩:=eW (h:=h) R rb rfl;have l1:=ra'.length;have l2:=rb'.length
  by_cases e1:us=[]
  ·subst e1;cases ra';refine concat_meets ⟨_,R.z _ _ ea,rfl⟩ ⟨_,R.z _ _ eb,rfl⟩ noFill_tuple_add seq_tuple_add PySem.F.slot_tuple_add PySem.F.entry_tuple_add (PySem.F.args_tuple_add_2 _ _) (tuple_addW0 a b _ _ n m none none #[] #[] rfl) ⟨R.z _ _ ea,R.z _ _ eb,?_⟩;exact R.pw rb
  ·refine HT.cat_tup (eE (R.z _ _ ea)) (eE (R.z _ _ eb)) e1 (fun z=>?_) (fun _=>?_) (by omega)
   ·subst z;cases rb';rw [List.append_nil];exact R.pw ra
   ·exact R.tup (t:=s.toks) (uH ra' rb') (by rw [List.length_append];omega)
 ·split at e
  ·rename_i ha hb;obtain ⟨hz,e⟩:=aF e;cases e;obtain ⟨a,us,n,rfl,ea,la,ra'⟩:=ref_l R ra ha;obtain ⟨b,vs,m,rfl,eb,lb,rb'⟩:=ref_l R rb hb;have l1:=ra'.length;have l2:=rb'.length;refine PySem.P.add_list ea eb ?_ (by rw [List.size_toArray,List.size_toArray];omega);have ea:us.toArray++vs.toArray=(us++vs).toArray:=by simp
   rw [ea];exact nR (R.lstP (t:=s.toks) (uH ra' rb') (by rw [List.length_append];omega))
  ·cases e
theorem iZ (its:List Value):∀ (k:Nat) (acc:List Value),List.foldl (fun x1 x2=>x1++x2) acc.toArray (List.replicate k its.toArray)=(acc++(List.replicate k its).flatten).toArray
 | 0,acc=>by simp
 | k+1,acc=>by
  have e:acc.toArray++its.toArray=(acc++its).toArray:=by simp
  have e2:(acc++its)++(List.replicate k its).flatten=acc++(List.replicate (k+1) its).flatten:=by
   rw [List.replicate_succ,List.flatten_cons,List.append_assoc]
  rw [<- e2,<- iZ its k (acc++its),<- e,List.replicate_succ,List.foldl_cons]
def nS {α:Type} (xs:List α) (k:Nat):(List.replicate k xs).flatten.length=k*xs.length:=by
 induction k with
 | zero=>simp
 | succ k ih=>rw [List.replicate_succ,List.flatten_cons,List.length_append,ih,Nat.succ_mul,Nat.add_comm]
theorem aM3 {S:Sx} {M:Mp} {xs:List PyData} {us:List Value} (r:Reps' S M xs us):∀ k,Reps' S M (List.replicate k xs).flatten (List.replicate k us).flatten
 | 0=>.nil
 | k+1=>by rw [List.replicate_succ,List.replicate_succ,List.flatten_cons,List.flatten_cons];exact uH r (aM3 r k)
def kP:fillsNumberSlot (.type "tuple") "mul"=pure false :=
 PySem.fillsNumberSlot_seq (id:="tuple.__mul__") (r:=some (.builtin "tuple.__rmul__")) PySem.F.slot_tuple_mul.lookup (by decide +kernel) PySem.F.slot_tuple_rmul.lookup (by decide +kernel)
def lW:seqRepeat? (.type "tuple")=pure (some (.builtin "tuple.__mul__")):=by
 unfold seqRepeat?;rw [PySem.seqSlot_of (T:="tuple") (name:="__mul__") (id:="tuple.__mul__") PySem.F.slot_tuple_mul.lookup (by decide +kernel),PySem.seqSlot_of (T:="tuple") (name:="__rmul__") (id:="tuple.__rmul__") PySem.F.slot_tuple_rmul.lookup (by decide +kernel)];rfl
def kQ (a:Int) (t:Tok) (l:Addr) (items:Array Value) (n:Nat) (dd:Option Addr) (sl:Array (Option Value)) :
  Meets (Builtin.«int.__rmul__» ⟨[.int a t,.ref l],[]⟩) (fun _ R s=>s.heap.get? l=some { cls:=.type "tuple",dict:=dd,data:=.seq items n,slots:=sl }/\R (.ok (.ret Value.notImplemented)) s) :=
 .of_wp fun prog w A R s h=>by
  obtain ⟨hp,g,d,tk,os⟩:=s;obtain ⟨hl,h⟩:=h
  wp_walk
  exact ⟨_,rfl,h⟩
def pL (l:Addr) (items:Array Value) (n:Nat) (dd:Option Addr) (sl:Array (Option Value)) (k:Int) (u:Tok) (h1:¬ (k < -(2^63)||k ≥ 2^63)=true) (h2:¬ (items.isEmpty||k==1)=true) (h3:¬ (decide (k<=0)||items.isEmpty)=true)
  (h4:¬ (items.size*k > (2^63 - 1) / 8)) (h6:¬ Builtin.Tuple.tupleTooMany (items.size*k)=true) (h5:¬ ((List.replicate k.toNat items).foldl (·++·) #[]).size > sizeLine) :
  Meets (Builtin.«tuple.__mul__» ⟨[.ref l,.int k u],[]⟩) (fun _ R s=>s.heap.get? l=some { cls:=.type "tuple",dict:=dd,data:=.seq items n,slots:=sl } /\
   R (.ok (.ret (.ref s.heap.objs.size))) { s with heap:=s.heap.push { cls:=.type "tuple",data:=.seq ((List.replicate k.toNat items).foldl (·++·) #[]) 0 } }) :=
 .of_wp fun prog w A R s h=>by
  obtain ⟨hp,g,d,tk,os⟩:=s;obtain ⟨hl,h⟩:=h;have f2:=AutoSeq1.sub_tuple_tuple
  wp_walk
  refine wpAny_ite_false (decide_eq_false h1) ?_
  wp_walk using wpAny_loadPart' hl
  refine wpAny_ite_false (decide_eq_false h4) ?_
  wp_walk
  exact ⟨_,rfl,h⟩
def aZ3 {xs:List PyData} {k:Int} (R:Mem S κ M h s) (ra:RepW S M (.d (.tuple xs)) u) (rb:RepW S M (.d (.int k)) v) (hc:xs≠[]/\1 < k/\k < 2^63/\xs.length*k.toNat<=sizeLine):Wp S A (binaryOp .Mult u v) (Pw S κ M h (.d (.tuple (List.replicate k.toNat xs).flatten))) E s:=by
 obtain ⟨hne,k1,k2,hz⟩:=hc;obtain ⟨t,rfl⟩:=wi.mp rb;obtain ⟨l,its,n,rfl,z,_,r⟩:=eW (h:=h) R ra rfl;have ho:=R.z _ _ z;have hl:=r.length;have he:its.toArray.isEmpty=false:=by
  cases its with
  | nil=>cases r;exact absurd rfl hne
  | cons=>rfl
 have hf:(List.replicate k.toNat its.toArray).foldl (·++·) #[]=(List.replicate k.toNat its).flatten.toArray:=by
  have:=iZ its k.toNat [];rw [List.nil_append] at this;exact this
 have hm:(its.length:Int)*k=((its.length*k.toNat:Nat):Int):=by
  rw [Int.natCast_mul,Int.toNat_of_nonneg (by omega)]
 have hz':its.length*k.toNat<=sizeLine:=by rw [<- hl];exact hz
 have hsl:(sizeLine:Int)<=(2^63 - 1) / 8:=by decide
 refine wpAny_binaryOp_repeat_ref (T:="tuple") (U:="int") (by decide) ⟨_,ho,rfl⟩ (fun s'=>typeIs_int s' k t) kP PySem.F.fills_int_mul PySem.F.slot_int_rmul lW PySem.F.slot_int_index.lookup
  (call_meets PySem.F.slot_int_rmul (typeIs_int s k t) PySem.F.entry_int_rmul (PySem.F.args_int_rmul_2 _ _) (kQ k t l its.toArray n none #[])
   ⟨ho,rfl,⟨_,ho,rfl⟩,call_meets PySem.F.slot_tuple_mul ⟨_,ho,rfl⟩ PySem.F.entry_tuple_mul (PySem.F.args_tuple_mul_2 _ _) (pL l its.toArray n none #[] k t ?_ ?_ ?_ ?_ ?_ ?_) ⟨ho,?_⟩⟩)
 ·simp;omega
 ·rw [he];simp;omega
 ·rw [he];simp;omega
 ·rw [List.size_toArray,hm];omega
 ·unfold Builtin.Tuple.tupleTooMany;rw [List.size_toArray,hm,decide_eq_true_eq];omega
 ·rw [hf,List.size_toArray,nS,Nat.mul_comm];omega
 ·rw [hf];exact R.tup (t:=s.toks) (aM3 r k.toNat) (by rw [nS,Nat.mul_comm];exact hz')
def aM4 {op:Operator} (R:Mem S κ M h s) (ra:RepW S M x u) (rb:RepW S M y v) (e:cW op x y h=some (w,h')):Wp S A (binaryOp op u v) (Pw S κ M h' w) E s:=by
 unfold cW at e;split at e
 ·exact aM2 R ra rb e
 ·unfold aC3 at e;split at e
  ·obtain ⟨hm,e⟩:=aF e;cases e;obtain ⟨t,rfl⟩:=wi.mp ra;obtain ⟨t',rfl⟩:=wi.mp rb;exact mul_int R.pi (aM1 hm)
  ·obtain ⟨hm,e⟩:=aF e;cases e;exact aZ3 R ra rb hm
  ·cases e
 ·split at e
  ·rename_i i j;obtain ⟨t,rfl⟩:=wi.mp ra;obtain ⟨t',rfl⟩:=wi.mp rb;split at e
   ·cases e;exact sub_int R.pi
   ·obtain ⟨hm,e⟩:=aF e;cases e;obtain ⟨h1,h2⟩:=aM0 hm;exact floordiv_int (by omega) (by rw [Int.fdiv_eq_ediv_of_nonneg i (by omega)];exact R.pi) (.inl (PyProof.noPylong_of_log2 h2))
   ·obtain ⟨hm,e⟩:=aF e;cases e;exact mod_int' (by omega) (by rw [Int.fmod_eq_emod_of_nonneg i (by omega)];exact R.pi)
   ·obtain ⟨hm,e⟩:=aF e;cases e;unfold pF at hm;simp only [Bool.and_eq_true,decide_eq_true_eq] at hm;exact pow_int_small hm.1 hm.2.1 hm.2.2 R.pi
   ·obtain ⟨hm,e⟩:=aF e;cases e;exact rshift_int hm (by rw [Int.fdiv_eq_ediv_of_nonneg i (qZ _)];exact R.pi)
   ·cases e;exact and_int R.pi
   ·cases e
  ·cases e
def aM5 {i:Int} (R:Mem S κ M h s) (ra:RepW S M (.d (.int i)) u):Wp S A (unaryOp .USub u) (Pw S κ M h (.d (.int (-i)))) E s:=by
 obtain ⟨t,rfl⟩:=wi.mp ra;exact neg_int R.pi
def kR {Z:Zm} {a b:PyData} {k:Bool} (ra:Rep S Z a u) (rb:Rep S Z b v) (e:isSame a b=some k):plainIs u v=true/\(u==v)=k:=by
 cases b with
 | none =>
  rw [Rep] at rb;subst rb;cases a with
  | none=>rw [Rep] at ra;subst ra;cases e;exact ⟨rfl,rfl⟩
  | bool c=>rw [Rep] at ra;subst ra;cases e;exact ⟨rfl,rfl⟩
  | int c=>rw [Rep] at ra;obtain ⟨t,rfl⟩:=ra;cases e;exact ⟨rfl,rfl⟩
  | str c=>rw [Rep] at ra;obtain ⟨⟨t,rfl⟩,_⟩:=ra;cases e;exact ⟨rfl,rfl⟩
  | list c=>rw [Rep] at ra;obtain ⟨p,o,vs,rfl,_⟩:=ra;cases e;exact ⟨rfl,rfl⟩
  | tuple c=>rw [Rep] at ra;obtain ⟨p,o,vs,rfl,_⟩:=ra;cases e;exact ⟨rfl,rfl⟩
  | dict c=>cases e
 | bool b =>
  rw [Rep] at rb;subst rb;cases a with
  | none=>rw [Rep] at ra;subst ra;cases e;exact ⟨rfl,rfl⟩
  | bool c=>rw [Rep] at ra;subst ra;cases e;cases b<;>cases c<;>exact ⟨rfl,rfl⟩
  | int c=>rw [Rep] at ra;obtain ⟨t,rfl⟩:=ra;cases e;exact ⟨rfl,rfl⟩
  | str c=>rw [Rep] at ra;obtain ⟨⟨t,rfl⟩,_⟩:=ra;cases e;exact ⟨rfl,rfl⟩
  | list c=>rw [Rep] at ra;obtain ⟨p,o,vs,rfl,_⟩:=ra;cases e;exact ⟨rfl,rfl⟩
  | tuple c=>rw [Rep] at ra;obtain ⟨p,o,vs,rfl,_⟩:=ra;cases e;exact ⟨rfl,rfl⟩
  | dict c=>cases e
 | _=>cases a<;>cases e
end
end DL

namespace DL
open PySem PySem.Spec PyProof.Rows L2 CI
section
variable {S:Sx} {κ:Kp} {M:Mp} {h h':aA} {s:Shared} {A:Around} {E:Value->Shared->Prop} {x y w:W} {u v:Value} {d:Nat} {b:Bool}
def Room.mono {j k:Nat} (r:Room k A) (h:j<=k):Room j A:=⟨r.hd,by have:=r.dp;omega,by have:=r.un;omega⟩
def Room.u64 (r:Room d A):A.units+64 < cLine:=by have:=r.un;omega
def Room.u65 (r:Room d A):A.units+65 < cLine:=by have:=r.un;omega
def rA {z:PyData} {k:Key} {Z:Zm} (e:cR z=some k) (r:Rep S Z z u):(bA S.P S.w).is k u=true:=by
 cases z with
 | int i=>cases e;obtain ⟨t,rfl⟩:=rep_i.mp r;exact jJ _ _ i t
 | str z =>
  unfold cR at e;obtain ⟨_,e⟩:=aF e;cases e;obtain ⟨⟨t,rfl⟩,_⟩:=rep_s.mp r;exact pC _ _ z t
 | _=>cases e
def mH {Z:Zm} (k:Key) {kvs:List (PyData×PyData)} {vs:List (Key×Value)} (r:RepK S Z kvs vs) :
  (∀ p,(kvs.find? fun p=>decide (cR p.1=some k))=some p->∃ v,valueAt vs k=some v/\Rep S Z p.2 v)/\((kvs.find? fun p=>decide (cR p.1=some k))=none->valueAt vs k=none):=by
 unfold valueAt;induction r with
 | nil=>exact ⟨fun p e=>(nomatch e),fun _=>rfl⟩
 | @cons p q ps qs hp _ ih =>
  by_cases e:q.1=k
  ·have a1:decide (cR p.1=some k)=true:=by rw [hp.1,e];simp
   simp only [List.find?_cons,a1,decide_eq_true e];exact ⟨fun _ ep=>by cases ep;exact ⟨_,rfl,hp.2⟩,fun ep=>by cases ep⟩
  ·have a1:decide (cR p.1=some k)=false:=by rw [hp.1];simpa using e
   simp only [List.find?_cons,a1,decide_eq_false e];exact ih
theorem pM {α:Type} (p:α->Bool):∀ xs:List α,xs.any p=(xs.find? p).isSome
 | []=>rfl
 | x::r=>by
  rw [List.any_cons];cases e:p x with
  | true=>rw [List.find?_cons_of_pos e];rfl
  | false=>rw [List.find?_cons_of_neg (by rw [e];exact Bool.false_ne_true),<- pM p r];rfl
def wW {Z:Zm} (k:Key) {kvs:List (PyData×PyData)} {vs:List (Key×Value)} (r:RepK S Z kvs vs):(kvs.any fun p=>decide (cR p.1=some k))=(valueAt vs k).isSome:=by
 rw [pM];obtain ⟨f1,f2⟩:=mH k r;cases q:kvs.find? fun p=>decide (cR p.1=some k) with
 | none=>rw [f2 q];rfl
 | some p=>obtain ⟨v,e,_⟩:=f1 p q;rw [e];rfl
def sY {z:PyData} {k:Key} (R:Mem S κ M h s) (r:RepW S M x u) (e:ref h x=some z) (ek:cR z=some k):(bA S.P S.w).is k u=true:=by
 cases x with
 | d y=>cases e;exact rA ek r
 | c i =>
  dsimp only [DL.ref] at e;cases q:h[i]? with
  | none=>rw [q] at e;cases e
  | some c=>cases c<;>(rw [q] at e;cases e)<;>cases ek
def wX {kvs:List (PyData×PyData)} (R:Mem S κ M h s) (r:RepW S M x u) (e:qW x h=some kvs):∃ i p xs,x=.c i/\M.m[i]?=some p/\h[i]?=some (.n kvs)/\u=.ref p.1/\s.heap.DictOfH (fG S) p.1 xs/\gH S M.Z kvs xs/\(p.1==sysModules)=false/\xs.length<=sizeLine:=by
 unfold qW at e;split at e
 ·rename_i i;split at e
  ·rename_i kv ei;cases e;obtain ⟨p,ep,rfl⟩:=r;obtain ⟨xs,⟨o,es,epo,h1,h2,h3,h4,h5⟩,rr,hs,hz⟩:=R.cel i p _ ep ei;refine ⟨i,p,xs,rfl,ep,ei,rfl,⟨o,es,epo,h1,h2,h3,h4,fun x hx=>?_,h5⟩,rr,hs,hz⟩;obtain ⟨j,hj⟩:=List.getElem?_of_mem hx;have:∀ {l:List (PyData×PyData)} {r:List (HK×Addr×Value)},gH S M.Z l r->x∈r->Rep S M.Z x.1.1 (.ref x.2.1):=fun {l r} q hx=>by
    unfold gH at q;induction q with
    | nil=>simp at hx
    | cons a _ ih =>
     rcases List.mem_cons.mp hx with rfl | hx
     ·rw [<- a.1];exact a.2.1
     ·exact ih hx
   exact Rep.go R.z (this rr hx)
  ·cases e
 ·cases e
def nT {d:PyData} (R:Mem S κ M h s) (r:RepW S M x u) (e:ref h x=some d) (hd:(fH d&&hkB 4 d)=true):∃ (hk:hkB 4 d=true) (a:Addr),u=.ref a/\(fG S).is s.heap ⟨d,hk⟩ a/\Rep S M.Z d (.ref a):=by
 rw [Bool.and_eq_true] at hd;cases d with
 | tuple ys =>
  have hx:x=.d (.tuple ys):=by
   cases x with
   | d z=>cases e;rfl
   | c i =>
    dsimp only [DL.ref] at e;cases q:h[i]? with
    | none=>rw [q] at e;cases e
    | some c=>cases c<;>(rw [q] at e;cases e)
  subst hx;obtain ⟨a,o,us,rfl,rest⟩:=rep_t.mp (show Rep S M.Z _ _ from r);exact ⟨hd.2,a,rfl,Rep.go R.z (show Rep S M.Z _ _ from r),r⟩
 | _=>simp [fH] at hd
def wY {d:PyData} (hk:hkB 4 d=true) {Z:Zm}:∀ {kvs:List (PyData×PyData)} {xs:List (HK×Addr×Value)},gH S Z kvs xs->(kvs.any fun p=>peq p.1 d)=(atKey xs ⟨d,hk⟩).isSome:=by
 intro kvs xs r;unfold gH at r;unfold atKey;rw [Option.isSome_map];induction r with
 | nil=>rfl
 | @cons q x _ _ a _ ih =>
  have e:peq q.1 d=decide (x.1=⟨d,hk⟩):=by
   rw [a.1,Bool.eq_iff_iff,(fF x.1.2 hk).2,decide_eq_true_iff];exact (Subtype.ext_iff (a1:=x.1) (a2:=⟨d,hk⟩)).symm
  rw [List.any_cons,List.find?_cons,e,ih];cases decide (x.1=⟨d,hk⟩)<;>rfl
def aC8 {d:PyData} (hk:hkB 4 d=true) {Z:Zm} {p:PyData×PyData}:∀ {kvs:List (PyData×PyData)} {xs:List (HK×Addr×Value)},gH S Z kvs xs->(kvs.find? fun p=>peq p.1 d)=some p->∃ v,atKey xs ⟨d,hk⟩=some v/\Rep S Z p.2 v.2:=by
 intro kvs xs r e;unfold gH at r;unfold atKey;induction r with
 | nil=>cases e
 | @cons q x _ _ a _ ih =>
  have eq:peq q.1 d=decide (x.1=⟨d,hk⟩):=by
   rw [a.1,Bool.eq_iff_iff,(fF x.1.2 hk).2,decide_eq_true_iff];exact (Subtype.ext_iff (a1:=x.1) (a2:=⟨d,hk⟩)).symm
  rw [List.find?_cons,eq] at e;rw [List.find?_cons];cases hd:decide (x.1=⟨d,hk⟩) with
  | true=>rw [hd] at e;cases e;exact ⟨x.2,rfl,a.2.2⟩
  | false=>rw [hd] at e;exact ih e
def Room.nd (hr:Room d A):(fG S).room A.in1:=by
 have:=hr.un;show A.units+1+5 < cLine;omega
def aM6 {neg:Bool} {z:PyData} (hr:Room d A) (R:Mem S κ M h s) (ra:RepW S M x u) (rb:RepW S M y v) (ea:ref h x=some z) (e:aY4 z y h=some b):Wp S A (compareOp (if neg then .NotIn else .In) u v) (Pw S κ M h (.d (.bool (neg ^^ b)))) E s:=by
 obtain ⟨kvs,e1,e⟩:=bind_some (show (qW y h).bind _=_ from e);obtain ⟨hz,e⟩:=aF e;cases e;obtain ⟨i,p,xs,rfl,ep,ei,rfl,dd,rr,hs,_⟩:=wX R rb e1;obtain ⟨hk,a,rfl,ik,_⟩:=nT R ra ea hz;rw [wY hk rr];cases neg
 ·exact wpAny_in_heap hr.nd ik hs dd (by simpa using (R.tok _).pb)
 ·exact wpAny_notIn_heap hr.nd ik hs dd (by simpa using (R.tok _).pb)
def aI8 {neg:Bool} (hr:Room d A) (R:Mem S κ M h s) (ra:RepW S M x u) (rb:RepW S M y v) (e:xIn x y h=some b):Wp S A (compareOp (if neg then .NotIn else .In) u v) (Pw S κ M h (.d (.bool (neg ^^ b)))) E s:=by
 unfold xIn at e;split at e
 ·rename_i z xs ea eb;obtain ⟨hp,e⟩:=aF e;cases e;rw [Bool.and_eq_true] at hp;obtain ⟨⟨bs,z2⟩,q2⟩:=lV R rb eb hp.1;obtain ⟨⟨as,z1⟩,q1⟩:=lV R ra ea hp.2;cases neg
  ·exact SeqAt.in_list_reads z2 z1 (SeqAt.canLay_of_shaped q2) (SeqAt.canLay_of_shaped q1) (room_in_shaped q1 hr.u65) (by simpa using R.pb)
  ·exact SeqAt.notIn_list_reads z2 z1 (SeqAt.canLay_of_shaped q2) (SeqAt.canLay_of_shaped q1) (room_in_shaped q1 hr.u65) (by simpa using R.pb)
 ·rename_i z xs ea eb;obtain ⟨hp,e⟩:=aF e;cases e;rw [Bool.and_eq_true] at hp;obtain ⟨⟨bs,z2⟩,q2⟩:=lV R rb eb hp.1;obtain ⟨⟨as,z1⟩,q1⟩:=lV R ra ea hp.2;cases neg
  ·exact SeqAt.in_tuple_reads z2 z1 (SeqAt.canLay_of_shaped q2) (SeqAt.canLay_of_shaped q1) (room_in_shaped q1 hr.u65) (by simpa using R.pb)
  ·exact SeqAt.notIn_tuple_reads z2 z1 (SeqAt.canLay_of_shaped q2) (SeqAt.canLay_of_shaped q1) (room_in_shaped q1 hr.u65) (by simpa using R.pb)
 ·rename_i z kvs ea eb;split at e
  ·rename_i k ek;cases e;obtain ⟨a,vs,rfl,dd,rk,hd,_⟩:=sX R rb eb;rw [wW k rk];cases neg
   ·exact wpAny_in_of (sY R ra ea ek) hd dd.mapOf (by simpa using (R.tok _).pb)
   ·exact wpAny_notIn_of (sY R ra ea ek) hd dd.mapOf (by simpa using (R.tok _).pb)
  ·obtain ⟨hz,e⟩:=aF e;cases e;rw [Bool.and_eq_true,List.isEmpty_iff] at hz;obtain ⟨rfl,hz⟩:=hz;obtain ⟨a,vs,rfl,⟨o,es,ep,h1,h2,h3,_,h5,_⟩,rk,hd,_⟩:=sX R rb eb;cases rk;have ees:es.toList=[]:=by generalize es.toList=l at h5;cases h5;rfl
   obtain ⟨hk,ka,rfl,ik,_⟩:=nT R ra ea hz;have dd:s.heap.DictOfH (fG S) a []:=⟨o,es,ep,h1,h2,h3,ees,fun _ z=>(by cases z),List.nodup_nil⟩;cases neg
   ·exact wpAny_in_heap hr.nd ik hd dd (by simpa [atKey] using (R.tok _).pb)
   ·exact wpAny_notIn_heap hr.nd ik hd dd (by simpa [atKey] using (R.tok _).pb)
 ·rename_i z ea eb;exact aM6 hr R ra rb ea e
 ·cases e
def fK {op:CmpOp} {p:Bool×aA} (hr:Room d A) (R:Mem S κ M h s) (ra:RepW S M x u) (rb:RepW S M y v) (e:dH op x y h=some p):p.2=h/\Wp S A (compareOp op u v) (Pw S κ M h (.d (.bool p.1))) E s:=by
 unfold dH at e;split at e
 ·obtain ⟨b,e1,rfl⟩:=map_some e;refine ⟨rfl,?_⟩;unfold xEq at e1;split at e1
  ·rename_i ea eb;obtain ⟨hp,e1⟩:=aF e1;cases e1;rw [Bool.and_eq_true] at hp;obtain ⟨⟨as,z1⟩,q1⟩:=lV R ra ea hp.1;obtain ⟨⟨bs,z2⟩,q2⟩:=lV R rb eb hp.2;exact eq_dataH z1 z2 q1 q2 hr.u64 R.pb
  ·cases e1
 ·obtain ⟨b,e1,rfl⟩:=map_some e;refine ⟨rfl,?_⟩;unfold xEq at e1;split at e1
  ·rename_i ea eb;obtain ⟨hp,e1⟩:=aF e1;cases e1;rw [Bool.and_eq_true] at hp;obtain ⟨⟨as,z1⟩,q1⟩:=lV R ra ea hp.1;obtain ⟨⟨bs,z2⟩,q2⟩:=lV R rb eb hp.2;exact ne_dataH z1 z2 q1 q2 hr.u64 R.pb
  ·cases e1
 ·obtain ⟨b,e1,rfl⟩:=map_some e;unfold xIs at e1;split at e1
  ·obtain ⟨h1,h2⟩:=kR ra rb e1;exact ⟨rfl,wpAny_is_plain h1 (by rw [h2];exact R.pb)⟩
  ·cases e1
 ·obtain ⟨b,e1,rfl⟩:=map_some e;unfold xIs at e1;split at e1
  ·obtain ⟨h1,h2⟩:=kR ra rb e1;exact ⟨rfl,wpAny_isNot_plain h1 (by rw [h2];exact R.pb)⟩
  ·cases e1
 ·obtain ⟨b,e1,rfl⟩:=map_some e;exact ⟨rfl,by simpa using aI8 (neg:=false) (A:=A) (E:=E) hr R ra rb e1⟩
 ·obtain ⟨b,e1,rfl⟩:=map_some e;exact ⟨rfl,by simpa using aI8 (neg:=true) (A:=A) (E:=E) hr R ra rb e1⟩
 ·split at e
  ·obtain ⟨f,e1,rfl⟩:=map_some e;obtain ⟨t,rfl⟩:=wi.mp ra;obtain ⟨t',rfl⟩:=wi.mp rb;refine ⟨rfl,?_⟩;cases op<;>cases e1
   ·exact lt_int R.pb
   ·exact le_int R.pb
   ·exact gt_int R.pb
   ·exact ge_int R.pb
  ·cases e
def nU {n:Nat} {i:Int} {j:Nat} (h:ixN n i=some j):seqIndex? i n=some j/\j < n/\-(n:Int)<=i/\i < n:=by
 unfold ixN at h
 by_cases h0:0<=i
 ·rw [if_pos h0] at h;obtain ⟨h1,h⟩:=aF h;cases h;exact ⟨seqIndex_of h0 h1,by omega,by omega,h1⟩
 ·rw [if_neg h0] at h;obtain ⟨h1,h⟩:=aF h;cases h;exact ⟨seqIndex_neg (by omega) h1,by omega,h1,by omega⟩
def nV {α β:Type} {F:α->β->Prop} {l:List α} {r:List β} {i:Int} {a:α} (p:Paired F l r) (e:atI l i=some a):∃ j b,seqIndex? i r.length=some j/\r[j]?=some b/\F a b/\-(r.length:Int)<=i/\i < r.length:=by
 obtain ⟨j,h1,h2⟩:=bind_some e;obtain ⟨b,h3,h4⟩:=kH p h2;rw [p.length] at h1;obtain ⟨q1,_,q3,q4⟩:=nU h1;exact ⟨j,b,q1,h3,h4,q3,q4⟩
def nW:(sizeLine:Nat) < 2^62:=by decide
def wZ {us:List Value} {n:Nat} {a:Addr} {i:Int} {t:Tok} {j:Nat} {c:Value} {value slice:Expr} {Q:Value->Shared->Prop} (ho:s.heap.get? a=some (bX us n)) (hz:us.length<=sizeLine) (h1:seqIndex? i us.length=some j) (h2:us[j]?=some c) (h3:-(us.length:Int)<=i) (h4:i < us.length)
  (hs:subscripted slice false (.ref a) (.int i t)=operate [.ref a,.int i t] (getItem (.ref a) (.int i t))) (q:Q c s):Wp S A (subscriptTail value slice (.ref a) (.int i t)) Q E s:=by
 have hn:=nW
 by_cases h0:0<=i
 ·have hj:i.toNat=j:=by rw [seqIndex_of h0 h4] at h1;exact Option.some.inj h1
  exact item_listR (cA ho).isList h0 (by omega) (by rw [hj];simpa using h2) q hs
 ·have hj:(i+(us.toArray.size:Int)).toNat=j:=by rw [seqIndex_neg (by omega) h3] at h1;rw [List.size_toArray];exact Option.some.inj h1
  exact subscriptTail_builtinR (x:=c) (cA ho).isList.typeIs slot_list_getitem.lookup
   (wpAny_getItem_list_neg (Q:=fun r s'=>r=c/\Q r s') (cA ho).isList (by omega) (by rw [List.size_toArray]<;>omega) (by omega) (by rw [hj];simpa using h2) ⟨rfl,q⟩) hs
def nX {T id:String} {o i:Value} {value slice:Expr} {Q:Value->Shared->Prop} (hT:s.TypeIs o T) (hl:typeLookup (.type T) "__getitem__"=pure (some (.builtin id))) (hs:subscripted slice false o i=operate [o,i] (getItem o i)) (h:Wp S A (getItem o i) Q E s):Wp S A (subscriptTail value slice o i) Q E s:=by
 unfold subscriptTail;refine wpAny_bind ?_;rw [getitemInPython_of_ne hT.not_modules];refine wpAny_bind (wpAny_specialOf hT hl ?_);have fin:Wp S A (subscripted slice false o i) (fun r s₃=>Wp S A (letTemporaryGo value o r >>= fun _=>pure r) Q E s₃) E s:=by
  rw [hs];exact wpAny_operating (wpAny_mono h (fun r s₃ h₃=>wpAny_bind (wpAny_letTemporaryGo (wpAny_pure h₃))) fun _ _ x=>x)
 first
  | exact wpAny_pure (wpAny_bind fin)
  | exact wpAny_bind (wpAny_pure (wpAny_bind fin))
  | exact wpAny_bind fin
def aZ4 {value slice:Expr} (hr:Room d A) (R:Mem S κ M h s) (ra:RepW S M x u) (rb:RepW S M y v) (e:xIx x y h=some (w,h')) (hs:∀ o i,subscripted slice false o i=operate [o,i] (getItem o i)):Wp S A (subscriptTail value slice u v) (Pw S κ M h' w) E s:=by
 unfold xIx at e;cases ea:ref h x with
 | none =>
  rw [ea] at e;cases y with
  | c _=>cases e
  | d y =>
   cases y with
   | int k =>
    replace e:xIr x k h=some (w,h'):=e
    unfold xIr at e;split at e
    ·rename_i i;split at e
     ·rename_i is ei;obtain ⟨z,ez,e⟩:=map_some e;cases e;obtain ⟨t,rfl⟩:=wi.mp rb;obtain ⟨p,ep,rfl⟩:=ra;obtain ⟨us,n,ho,hz,rr⟩:=R.cel i p _ ep ei;obtain ⟨j,c,h1,h2,h3,h4,h5⟩:=nV (sS rr) ez;exact wZ ho hz h1 h2 h4 h5 (hs _ _) (R.pw h3)
     ·cases e
    ·cases e
   | tuple ks =>
    obtain ⟨kvs,e1,e⟩:=bind_some (show (qW x h).bind _=_ from e);obtain ⟨hz,e⟩:=aF e;obtain ⟨q,eq,e⟩:=map_some e;cases e;obtain ⟨i,p,xs,rfl,ep,ei,rfl,dd,rr,hsm,_⟩:=wX R ra e1;obtain ⟨hk,a,rfl,ik,_⟩:=nT (h:=h) R rb rfl hz;obtain ⟨c,hc,rc⟩:=aC8 hk rr eq;exact nX dd.typeIs PySem.F.slot_dict_getitem.lookup (hs _ _) (wpAny_getItem_heap hr.nd ik dd hc ((R.tok _).pw rc))
   | _=>cases e
 | some t =>
  rw [ea] at e;cases t with
  | list xs =>
   cases y with
   | c _=>cases e
   | d y =>
    cases y with
    | int i =>
     obtain ⟨z,ez,e⟩:=map_some e;cases e;obtain ⟨t,rfl⟩:=wi.mp rb;obtain ⟨a,us,n,rfl,ho,hz,rr⟩:=ref_l R ra ea;obtain ⟨j,c,h1,h2,h3,h4,h5⟩:=nV rr ez;exact wZ ho hz h1 h2 h4 h5 (hs _ _) (R.pw h3)
    | _=>cases e
  | tuple xs =>
   cases y with
   | c _=>cases e
   | d y =>
    cases y with
    | int i =>
     obtain ⟨z,ez,e⟩:=map_some e;cases e;obtain ⟨t,rfl⟩:=wi.mp rb;obtain ⟨a,us,n,rfl,ho,hz,rr⟩:=eW R ra ea;obtain ⟨j,c,h1,h2,h3,h4,h5⟩:=nV rr ez;have pl:=eE (R.z _ _ ho);have hn:=nW;exact subscriptTail_builtinR (x:=c) pl.typeIs slot_tuple_getitem.lookup (getItem_tuple (j:=j) (Q:=fun r s'=>r=c/\Pw S κ M h (.d z) r s') pl (by omega) (by omega) (by rw [List.size_toArray];exact h1) (by simpa using h2) ⟨rfl,R.pw h3⟩) (hs _ _)
    | _=>cases e
  | dict kvs =>
   cases y with
   | c _=>cases e
   | d z =>
    dsimp only at e;cases ek:cR z with
    | none=>rw [ek] at e;cases e
    | some k =>
     rw [ek] at e;obtain ⟨p,ep,e⟩:=map_some e;cases e;obtain ⟨a,vs,rfl,dd,rk,hd,_⟩:=sX R ra ea;obtain ⟨c,hc,rc⟩:=(mH k rk).1 p ep;exact nX dd.typeIs PySem.F.slot_dict_getitem.lookup (hs _ _) (wpAny_getItem_of (rA ek rb) dd.mapOf hc ((R.tok _).pw rc))
  | _=>cases e
end
end DL

namespace DL
open PySem PySem.Spec PyProof.Rows L2 CI
section
variable {S:Sx} {κ:Kp} {M:Mp} {h h':aA} {s:Shared} {A:Around} {E:Value->Shared->Prop} {x y w:W} {u v:Value} {d:Nat} {b:Bool} {ws:List W} {us:List Value}
def xA {α:Type} (xs:List α) (lo hi:Option Int):((xs.drop (HT.sIx xs.length 0 lo)).take (HT.sIx xs.length xs.length hi - HT.sIx xs.length 0 lo)).length<=xs.length:=by rw [List.length_take,List.length_drop];omega
def nY (lo hi:Option Int) (n:Nat):(sliceBounds lo hi none n).1=((HT.sIx n 0 lo:Nat):Int)/\(sliceBounds lo hi none n).2.1=((HT.sIx n n hi:Nat):Int)/\(sliceBounds lo hi none n).2.2=1:=by
 refine ⟨?_,?_,rfl⟩
 ·cases lo with
  | none=>simp [sliceBounds,HT.sIx]
  | some i =>
   simp only [sliceBounds,HT.sIx,Option.getD_none,show (1:Int) > 0 by decide,if_true]
   by_cases h:i < 0
   ·simp only [h,if_true]<;>omega
   ·simp only [h,if_false]<;>omega
 ·cases hi with
  | none=>simp [sliceBounds,HT.sIx]
  | some i =>
   simp only [sliceBounds,HT.sIx,Option.getD_none,show (1:Int) > 0 by decide,if_true]
   by_cases h:i < 0
   ·simp only [h,if_true]<;>omega
   ·simp only [h,if_false]<;>omega
def lX (its:List Value) (lo hi:Option Int):slicePick its.toArray lo hi none=((its.drop (HT.sIx its.length 0 lo)).take (HT.sIx its.length its.length hi - HT.sIx its.length 0 lo)).toArray:=by
 obtain ⟨h1,h2,h3⟩:=nY lo hi its.toArray.size;unfold slicePick;rw [h1,h2,h3];simp only [sliceRange_one,pick_run,List.size_toArray]<;>rfl
def uK {prog:Program} {w:World} {A:Around} {E:Value->Shared->Prop} {s:Shared} {t sl:Addr} {items:Array Value} {vl vu:Value} {lo hi:Option Int} {Q:Value->Shared->Prop} (ht:IsTup s.heap t items) (hs:s.heap.IsSliceOf sl vl vu .none) (pl:IsPart vl lo) (pu:IsPart vu hi)
  (hw:HT.sIx items.size 0 lo=0/\HT.sIx items.size items.size hi=items.size) (h:Q (.ref t) s):wpAny (model prog w) A (getItem (.ref t) (.ref sl)) Q E s:=by
 obtain ⟨os,hos,hcs,hds⟩:=id hs;have hTs:s.TypeIs (.ref sl) "slice":=⟨os,hos,hcs⟩;unfold getItem;try with_reducible refine wpAny_holding ?_
 first | refine wpAny_bind (wpAny_pure ?_) | skip
 refine wpAny_bind (wpAny_sequenceKey ht.typeIs (by decide) ?_);refine wpAny_bind (wpAny_callSpecial?_slot (name:=Str.ofString "__getitem__") ht.typeIs PyProof.Rows.slot_tuple_getitem
  (wpAny_call_entry PyProof.Rows.slot_tuple_getitem ht.typeIs entry_tuple_getitem ?_ (args_tuple_getitem _ _)))
 show wpAny _ _ (Builtin.Tuple.tupleItemsOf (.ref t) >>= _) _ _ s;refine wpAny_bind (tupleItemsOf_ ht (wpAny_bind (wpAny_typeOf hTs ?_)));rw [if_pos (by decide)];refine wpAny_bind (HT.sliceApplied_gen hs pl pu ?_);have hy:(((HT.sIx items.size 0 lo:Nat):Int)==0&&(1:Int)==1&&(HT.sIx items.size items.size hi - HT.sIx items.size 0 lo)==items.size)=true:=by
  rw [hw.1,hw.2];simp
 show wpAny _ _ (if (((HT.sIx items.size 0 lo:Nat):Int)==0&&(1:Int)==1&&(HT.sIx items.size items.size hi - HT.sIx items.size 0 lo)==items.size)=true then _ else _) _ _ s;rw [if_pos hy];refine wpAny_bind (wpAny_bind (wpAny_typeOf ht.typeIs (wpAny_pure ?_)));rw [if_pos (by decide)];exact wpAny_bind (wpAny_rule (wpAny_pure ⟨_,rfl,wpAny_pure h⟩))
def sl_l {xs:List PyData} {vl vu:Value} {lo hi:Option Int} {sl:Addr} (R:Mem S κ M h s) (ra:RepW S M x u) (e:ref h x=some (.list xs)) (hs:s.heap.IsSliceOf sl vl vu .none) (pl:IsPart vl lo) (pu:IsPart vu hi):s.TypeIs u "list"/\Wp S A (getItem u (.ref sl)) (Pf S κ M h (cut xs lo hi)) E s:=by
 obtain ⟨a,us,n,rfl,ho,hz,rr⟩:=ref_l R ra e;refine ⟨(cA ho).isList.typeIs,wpAny_getItem_list_slice (cA ho).isList hs pl pu .none (by simp) ?_ (by rw [List.size_toArray]<;>omega)⟩;rw [lX];unfold cut;rw [rr.length];exact R.lstP (t:=s.toks) (n:=0) (wE _ (wF _ rr)) (Nat.le_trans (xA us lo hi) hz)
def sl_t {xs:List PyData} {vl vu:Value} {lo hi:Option Int} {sl:Addr} (R:Mem S κ M h s) (ra:RepW S M (.d (.tuple xs)) u) (hs:s.heap.IsSliceOf sl vl vu .none) (pl:IsPart vl lo) (pu:IsPart vu hi):s.TypeIs u "tuple"/\Wp S A (getItem u (.ref sl)) (Pw S κ M h (.d (.tuple (cut xs lo hi)))) E s:=by
 obtain ⟨a,us,n,rfl,ho,hz,rr⟩:=eW (h:=h) R ra rfl;have ht:=eE (R.z _ _ ho);have hl:=rr.length;have hlen:us.toArray.size=us.length:=List.size_toArray;refine ⟨ht.typeIs,?_⟩
 by_cases hw:HT.sIx us.length 0 lo=0/\HT.sIx us.length us.length hi=us.length
 ·refine uK ht hs pl pu (by rw [hlen];exact hw) ?_;have ec:cut xs lo hi=xs:=by
   unfold cut;rw [hl,hw.1,hw.2,List.drop_zero,Nat.sub_zero,<- hl,List.take_length]
  rw [ec];exact R.pw ra
 ·refine HT.getItem_tuple_cut ht hs pl pu (by rw [hlen];exact hw) ?_ (by rw [hlen];exact hz);rw [hlen];unfold cut;rw [hl];exact R.tup (t:=s.toks) (wE _ (wF _ rr)) (Nat.le_trans (xA us lo hi) hz)
def w1 (r:RepWs S M [x] us):∃ u,us=[u]/\RepW S M x u:=by cases r with | cons a b=>cases b;exact ⟨_,rfl,a⟩
def w2 (r:RepWs S M [x,y] us):∃ u v,us=[u,v]/\RepW S M x u/\RepW S M y v:=by cases r with | cons a b=>obtain ⟨v,rfl,c⟩:=w1 b;exact ⟨_,v,rfl,a,c⟩
def BfS (S:Sx) (f:Value) (g:List W->aA->Option (W×aA)):Prop:=∀ {κ:Kp} {M:Mp} {h h':aA} {s:Shared} {A:Around} {E:Value->Shared->Prop} {ws:List W} {us:List Value} {w:W} {d:Nat},Room d A->S.K.In S.base->(s.heap.objs.size==sysModules)=false->Mem S κ M h s->RepWs S M ws us->g ws h=some (w,h')->Wp S A (call f us) (Pw S κ M h' w) E s
def aM7 {d:Addr} {xs:List (HK×Addr×Value)} {Q:Value->Shared->Prop} (hd:(d==sysModules)=false) (hm:NdO S s.heap d xs) (hfit:(xs.length:Int) < 2^63)
  (h:Q (.int xs.length (s.toks+1)) { s with toks:=s.toks+1+1 }):Wp S A (call (.builtin "len") [.ref d]) Q E s:=by
 obtain ⟨o,es,ep,ho,hc,hdat,he,hn⟩:=hm;have hT:s.TypeIs (.ref d) "dict":=⟨o,ho,hc.1⟩;have hes:es.size=xs.length:=size_of_entries he;refine Calls.call_function_entry kind_len plain_len entry_len (args_len1 _) ?_;have M:MeetsIn S.P S.w (Builtin.«dict.__len__» ⟨[.ref d],[]⟩) (fun _ R s=>∃ o es ep,s.heap.get? d=some o/\o.data=.dict es ep/\R (.ok (.ret (.int es.size s.toks))) { s with toks:=s.toks+1 }):=.of_wp fun A R s ⟨o,es,ep,ho,hdat,h⟩=>by
  show wpAny _ _ (dictSize d >>= _) _ _ s;unfold dictSize;refine wpAny_bind (wpAny_bind (wpAny_dictEntries ho hdat (wpAny_pure ?_)));show wpAny _ _ (Builtin.Dict.pendingCount d >>= _) _ _ s;refine wpAny_bind (wpAny_pendingCount_other hd ?_);refine wpAny_ret_mkInt ?_;rw [Nat.add_zero];exact h
 refine wpAny_bind (m:=oneArg "len" _) (wpAny_pure ?_);refine wpAny_bind (m:=callSpecial? (.ref d) (Str.ofString "__len__")) (wpAny_callSpecial?_slot (name:=Str.ofString "__len__") hT F.slot_dict_len
  (call_meetsIn F.slot_dict_len hT F.entry_dict_len (F.args_dict_len_1 _) M ⟨o,es,ep,ho,hdat,?_⟩))
 show wpAny _ _ _ _ _ { s with toks:=s.toks+1 };rw [hes];refine wpAny_bind (wpAny_holding (wpAny_pure ?_));refine wpAny_bind (wpAny_letGo ?_);show wpAny _ _ (if ((xs.length:Nat):Int) < 0 then _ else _) _ _ _;rw [if_neg (by omega)];show wpAny _ _ (if ((xs.length:Nat):Int) ≥ 2^63 then _ else _) _ _ _;rw [if_neg (by omega)];exact wpAny_bind (wpAny_mkInt (wpAny_pure ⟨_,rfl,h⟩))
def aZ5:BfS S (.builtin "len") bN:=by
 intro κ M h h' s A E ws us w d hr hK hsm R r e;have hn:=nW;unfold bN at e;split at e
 ·obtain ⟨u,rfl,ra⟩:=w1 r;split at e
  ·rename_i ea;cases e;obtain ⟨a,vs,n,rfl,ho,hz,rr⟩:=ref_l R ra ea;refine Calls.call_len_list (cA ho).isList (by simp only [List.size_toArray]<;>omega) ?_;rw [List.size_toArray,rr.length];exact R.pi
  ·rename_i ea;cases e;obtain ⟨a,vs,n,rfl,ho,hz,rr⟩:=eW R ra ea;refine len_tuple (eE (R.z _ _ ho)) (by simp only [List.size_toArray]<;>omega) ?_;rw [List.size_toArray,rr.length];exact R.pi
  ·rename_i ea;obtain ⟨k,ek,e⟩:=map_some e;cases e;rename_i x;unfold aY5 at ek;split at ek
   ·rename_i j;obtain ⟨p,ep,rfl⟩:=ra;split at ek
    ·rename_i is ei;cases ek;obtain ⟨vs,n,ho,hz,rr⟩:=R.cel j p _ ep ei;have hl:=rr.length;rw [List.length_map] at hl;refine Calls.call_len_list (cA ho).isList (by simp only [List.size_toArray]<;>omega) ?_;rw [List.size_toArray,<- hl];exact R.pi
    ·rename_i kvs ei;cases ek;obtain ⟨xs,nd,rr,hs,hz⟩:=R.cel j p _ ep ei;have hl:=rr.length;exact aM7 hs nd (by omega) (by rw [<- hl];exact (R.tok _).pi)
    ·cases ek
   ·cases ek
  ·cases e
 ·cases e
def aC9:BfS S (.type "tuple") bS:=by
 intro κ M h h' s A E ws us w d hr hK hsm R r e;unfold bS at e;split at e
 ·obtain ⟨u,rfl,ra⟩:=w1 r;split at e
  ·rename_i ea;cases e;obtain ⟨a,vs,n,rfl,ho,hz,rr⟩:=ref_l R ra ea;refine call_tuple_list (cA ho).isList (fun h2 kp=>?_) (by simp only [List.size_toArray]<;>omega);exact (R.kept (t:=s.toks) kp).tup (t:=s.toks) rr hz
  ·rename_i ea;cases e;obtain ⟨a,vs,n,rfl,ho,hz,rr⟩:=eW R ra ea;exact call_tuple_same (eE (R.z _ _ ho)) (R.pw (rep_t.mpr ⟨a,_,vs,rfl,ho,⟨⟨n,rfl⟩,hz⟩,rr⟩))
  ·cases e
 ·cases e
theorem mI {Z:Zm}:∀ {xs:List PyData} {bs:List Bool} {us:List Value},dE xs=some bs->Paired (Rep S Z) xs us->us=bs.map .bool
 | [],_,_,e,h=>by cases e;cases h;rfl
 | x::r,bs,us,e,h=>by
  cases h with
  | cons a t =>
   cases x with
   | bool b =>
    unfold dE at e;obtain ⟨cs,q,rfl⟩:=map_some e;rw [rep_b.mp a,mI q t];rfl
   | _=>cases e
def uL {f:Nat->Bool} (bs:List Bool) (h:∀ i b,bs[i]?=some b->f i=b):(List.range bs.length).all f=bs.all id:=by
 rw [Bool.eq_iff_iff,List.all_eq_true,List.all_eq_true];constructor
 ·intro z b hb;obtain ⟨i,hi,e⟩:=List.mem_iff_getElem.mp hb;have:=z i (by simpa using hi);rw [h i b (by simp [hi,e])] at this;exact this
 ·intro z i hi;have hi':i < bs.length:=by simpa using hi
  rw [h i bs[i] (by simp [hi'])];exact z _ (List.getElem_mem hi')
def aZ6:BfS S (.builtin "all") fX:=by
 intro κ M h h' s A E ws us w d hr hK hsm R r e;unfold fX at e;split at e
 ·obtain ⟨u,rfl,ra⟩:=w1 r;split at e
  ·rename_i ea;obtain ⟨bs,eb,e⟩:=map_some e;cases e;obtain ⟨p,vs,n,rfl,ho,hz,rr⟩:=ref_l R ra ea;have ev:=mI eb rr;subst ev;have pl:=(cA ho).isList;refine call_all_walk (wpAny_pyIter_list pl ?_);refine ⟨s.heap.objs.size,_,_,(bs.map Value.bool).toArray.size,_,_,fun i=>(bs[i]?).getD true,rfl,Walks.list (A:=A.in1) hr.hd s.heap.objs.size p (Nat.ne_of_lt (Heap.lt_size ho)) (bs.map Value.bool).toArray,⟨⟨_,Heap.get?_push_size _ rfl,rfl,rfl⟩,?_⟩,fun i v s' Q' E' hP hQ=>?_,fun h2 tk hk=>?_⟩
   ·obtain ⟨o,ho,r⟩:=pl;exact ⟨o,Heap.get?_push_of_some _ ho,r⟩
   ·have hP':(bs.map Value.bool)[i]?=some v:=by simpa using hP
    rw [List.getElem?_map] at hP';obtain ⟨b,eb,rfl⟩:=map_some hP';dsimp only at hQ;rw [eb] at hQ;exact wpAny_truthy_bool hQ
   ·have e:(List.range (bs.map Value.bool).toArray.size).all (fun i=>(bs[i]?).getD true)=bs.all id:=by
     have:=uL (f:=fun i=>(bs[i]?).getD true) bs (fun i b e=>by simp [e]);rw [List.size_toArray,List.length_map];exact this
    rw [e];refine (R.kept fun b o eo=>hk b o ?_ (Heap.get?_push_of_some _ eo)).pb;intro z;rw [List.mem_singleton.mp z] at eo;exact absurd (Heap.lt_size eo) (Nat.lt_irrefl _)
  ·cases e
 ·cases e
def aZ7:BfS S (.type "int") wL:=by
 intro κ M h h' s A E ws us w d hr hK hsm R r e;unfold wL at e;split at e
 ·cases e;obtain ⟨u,rfl,ra⟩:=w1 r;cases wb.mp ra;exact call_int_bool R.pi
 ·cases e
def xB {xs:List PyData} (R:Mem S κ M h s) (ra:RepW S M x u) (e:ref h x=some (.list xs)\/ref h x=some (.tuple xs)):Wp S A (call (.type "list") [u]) (Pf S κ M h xs) E s:=by
 rcases e with e | e
 ·obtain ⟨a,vs,n,rfl,ho,hz,rr⟩:=ref_l R ra e;exact call_list_seq a (.inl rfl) ho rfl rfl (fun h2 c kp e=>R.lst (t:=s.toks) kp e rr hz) (by simp only [List.size_toArray]<;>omega)
 ·obtain ⟨a,vs,n,rfl,ho,hz,rr⟩:=eW R ra e;exact call_list_seq a (.inr rfl) (R.z _ _ ho) rfl rfl (fun h2 c kp e=>R.lst (t:=s.toks) kp e rr hz) (by simp only [List.size_toArray]<;>omega)
def kS (T:String):Prop:=∀ (K:PySem.W.Frag) (d:PyData),PySem.W.kitOne K (.type (dG d)) (.type T)=some (isi d T)
def aD0:kS "int":=fun K d=>by cases d<;>kernel_rfl
def xC:kS "bool":=fun K d=>by cases d<;>kernel_rfl
def aD1:kS "str":=fun K d=>by cases d<;>kernel_rfl
def uM:kS "tuple":=fun K d=>by cases d<;>kernel_rfl
def xD:kS "list":=fun K d=>by cases d<;>kernel_rfl
def nZ {z:PyData} (e:ref h x=some z) (n:(dG z=="list"||dG z=="dict")=false):x=.d z:=by
 cases x with
 | d y=>cases e;rfl
 | c i =>
  dsimp only [DL.ref] at e;cases q:h[i]? with
  | none=>rw [q] at e;cases e
  | some c=>cases c<;>(rw [q] at e;cases e)<;>cases n
def aI9 {z:PyData} (R:Mem S κ M h s) (r:RepW S M x u) (e:ref h x=some z):∃ H,PySem.W.KitX S.K u (.type (dG z)) H/\H s.heap/\u≠.builtin "__main__.__loader__#opaque":=by
 cases z with
 | none=>cases nZ e rfl;cases wn.mp r;exact ⟨_,PySem.W.kitx_none,True.intro,fun z=>nomatch z⟩
 | bool b=>cases nZ e rfl;cases wb.mp r;exact ⟨_,PySem.W.kitx_bool,True.intro,fun z=>nomatch z⟩
 | int i=>cases nZ e rfl;obtain ⟨t,rfl⟩:=wi.mp r;exact ⟨_,PySem.W.kitx_int,True.intro,fun z=>nomatch z⟩
 | str i=>cases nZ e rfl;obtain ⟨⟨t,rfl⟩,_⟩:=rep_s.mp (show Rep S M.Z _ _ from r);exact ⟨_,PySem.W.kitx_str,True.intro,fun z=>nomatch z⟩
 | list xs=>obtain ⟨a,us,n,rfl,ho,_⟩:=ref_l R r e;exact ⟨_,PySem.W.kitx_list,⟨_,ho,rfl⟩,fun z=>nomatch z⟩
 | tuple xs=>obtain ⟨a,us,n,rfl,ho,_⟩:=eW R r e;exact ⟨_,PySem.W.kitx_tuple,⟨_,R.z _ _ ho,rfl⟩,fun z=>nomatch z⟩
 | dict xs=>obtain ⟨a,vs,rfl,⟨o,_,_,ho,ex,_⟩,_⟩:=sX R r e;exact ⟨_,PySem.W.kitx_dict,⟨o,ho,ex.1⟩,fun z=>nomatch z⟩
def aM8 {z:PyData} {T:String} (hK:S.K.In S.base) (hk:kS T) (R:Mem S κ M h s) (r:RepW S M x u) (e:ref h x=some z):Wp S A (call (.builtin "isinstance") [u,.type T]) (Pw S κ M h (.d (.bool (isi z T)))) E s:=by
 obtain ⟨H,kx,p,n⟩:=aI9 R r e;exact PySem.W.kia_one kx (hK.keeps R.bk) p (hk S.K z) n fun tk=>(R.tok tk).pb
end
end DL

namespace DL
open PySem PySem.Spec PyProof.Rows L2 CI
abbrev NE:Value->Shared->Prop:=fun _ _=>False
structure Mod (S:Sx):Prop where
 kin:S.K.In S.base
 glob:S.base.Ns mainGlobals S.mg
 blt:∃ mb,S.base.Ns builtinsNs mb/\∀ x:Str,x≠"__name__"->mb x=bootBuiltins x
 nolimit:S.base.NoLimit
structure Cx where
 S:Sx
 A:Around
 N:List Str
 env:Env
 fn:Bool
def Vis (sc:Scope) (x:Str):Prop:=sc.names.lookup x=some .local\/sc.names.lookup x=some .cell\/sc.names.lookup x=some .free
def Loc (sc:Scope) (x:Str):Prop:=sc.names.lookup x=some .local\/sc.names.lookup x=some .cell
structure Cx.Ok (X:Cx):Prop where
 mod:Mod X.S
 kind:X.env.scope.kind=.function
 glob:X.env.globals=mainGlobals
 blt:X.env.builtins=builtinsNs
 inj:∀ x y c,X.env.cells.lookup x=some c->X.env.cells.lookup y=some c->x=y
 has:∀ x,(X.env.kindOf x=some .cell\/X.env.kindOf x=some .free)->∃ c,X.env.cells.lookup x=some c
 bsz:X.S.base.objs.size<=X.env.locals
 nd:X.N.Nodup
def kT (o:Obj) (m:Str->Option Value):Prop:=∃ es ep,o.data=.dict es ep/\StrKeys es/\∀ name,nsFind es name=m name
def aZ8 (env:Env) (κ:Kp) (m:Str->Option Value) (x:Str) (u:Value):Prop :=
 (env.kindOf x=some .local/\m x=some u)\/((env.kindOf x=some .cell\/env.kindOf x=some .free)/\∃ c o,env.cells.lookup x=some c/\κ c=some (true,o)/\o.data=.cell (some u))
def FrO (κ:Kp) (A:Around):Prop:=∃ l,A.frames=some l/\∀ env∈l,env.scope.kind≠.module/\∃ L o,env.frame=some L/\κ L=some (false,o)/\∀ vs,o.data≠.fields vs
def FrO.kp {κ κ':Kp} {A:Around} (F:FrO κ A) (k:∀ a,(∃ l env,A.frames=some l/\env∈l/\env.frame=some a)->κ' a=κ a):FrO κ' A :=
 let ⟨l,e,f⟩:=F;⟨l,e,fun env he=>let ⟨h1,L,o,h2,h3,h4⟩:=f env he;⟨h1,L,o,h2,by rw [k L ⟨l,env,e,he,h2⟩];exact h3,h4⟩⟩
def FrO.up {κ:Kp} {A:Around} {a:Addr} {o:Obj} (F:FrO κ A) (ho:∀ vs,o.data≠.fields vs):FrO (fun b=>if b=a then some (false,o) else κ b) A :=
 let ⟨l,e,f⟩:=F;⟨l,e,fun env he=>let ⟨h1,L,o',h2,h3,h4⟩:=f env he;⟨h1,L,if L=a then o else o',h2,by dsimp only;split<;>first | rfl | exact h3,by split<;>assumption⟩⟩
def aZ9 (X:Cx) (a:Addr):Prop:=a=X.env.locals\/(∃ x,X.env.cells.lookup x=some a)\/∃ l env,X.A.frames=some l/\env∈l/\env.frame=some a
structure Fra (X:Cx) (κ:Kp) (M:Mp) (δ:DSt):Prop where
 ok:X.Ok
 len:δ.length=X.N.length
 loc:∃ o m,κ X.env.locals=some (false,o)/\kT o m/\∀ (i:Nat) x w,X.N[i]?=some x->δ[i]?=some (some w)->Vis X.env.scope x->∃ u,RepW X.S M w u/\aZ8 X.env κ m x u
 cell:∀ x c,X.env.cells.lookup x=some c->∃ o v,κ c=some (true,o)/\o.data=.cell v
 frs:FrO κ X.A
def Own (X:Cx) (κ κ':Kp):Prop:=∀ a,κ' a≠κ a->a=X.env.locals\/(X.fn=true/\∃ x,X.env.cells.lookup x=some a)
def Own.refl {X:Cx} {κ:Kp}:Own X κ κ:=fun _ h=>(h rfl).elim
def Own.trans {X:Cx} {κ κ' κ2:Kp} (a:Own X κ κ') (b:Own X κ' κ2):Own X κ κ2:=fun c h=>by
 by_cases e:κ' c=κ c
 ·exact b c (by rw [e];exact h)
 ·exact a c e
section
variable {X:Cx} {κ:Kp} {M M':Mp} {δ:DSt} {h h':aA} {s:Shared} {A:Around} {E:Value->Shared->Prop} {w:W} {u:Value} {d:Nat} {x:Str} {pos:Pos}
def Fra.go (F:Fra X κ M δ) (l:Le M M'):Fra X κ M' δ :=
 ⟨F.ok,F.len,let ⟨o,m,h1,h2,h3⟩:=F.loc;⟨o,m,h1,h2,fun i x w a b c=>let ⟨u,r,q⟩:=h3 i x w a b c;⟨u,r.go l,q⟩⟩,F.cell,F.frs⟩
def Fra.ns (F:Fra X κ M δ) (R:Mem X.S κ M h s):∃ m,s.heap.Ns X.env.locals m/\∀ (i:Nat) x w,X.N[i]?=some x->δ[i]?=some (some w)->Vis X.env.scope x->∃ u,RepW X.S M w u/\aZ8 X.env κ m x u:=by
 obtain ⟨o,m,h1,⟨es,ep,h2,h3,h4⟩,h5⟩:=F.loc;obtain ⟨_,⟨sl,e⟩,_⟩:=R.k _ _ _ h1;exact ⟨m,⟨_,es,ep,e,h2,h3,h4⟩,h5⟩
def Fra.size (F:Fra X κ M δ) (R:Mem X.S κ M h s):X.S.base.objs.size<=s.heap.objs.size:=by
 obtain ⟨m,hn,_⟩:=F.ns R;exact Nat.le_trans F.ok.bsz (Nat.le_of_lt hn.lt)
def bA0 {i:Nat} (F:Fra X κ M δ) (R:Mem X.S κ M h s) (hi:X.N[i]?=some x) (e:δ[i]?=some (some w)) (hv:Vis X.env.scope x) (hn:aW x=true):Wp X.S X.A (eval (.Name x pos) X.env) (Pw X.S κ M h w) E s:=by
 unfold aW at hn;simp only [Bool.and_eq_true,Bool.not_eq_true'] at hn;obtain ⟨m,hns,hl⟩:=F.ns R;obtain ⟨u,r,l⟩:=hl i x w hi e hv;rcases l with ⟨hk,hm⟩ | ⟨hk,c,o,hc,ho,hd⟩
 ·exact wpAny_Name (wpAny_loadName_local F.ok.kind hk hns hm (R.pw r)) hn.1
 ·have hcell:s.heap.IsCell c (some u):=⟨o,(R.k _ _ _ ho).1 rfl,hd⟩;rcases hk with hk | hk
  ·exact wpAny_Name (wpAny_loadName_cell F.ok.kind hk hc hcell (R.pw r)) hn.1
  ·exact wpAny_Name (wpAny_loadName_free F.ok.kind hk hc hcell (R.pw r) hn.2.1) hn.1
def Gl (X:Cx) (x:Str):Prop:=X.env.kindOf x=some .globalImplicit
def eZ {Q:Value->Shared->Prop} (F:Fra X κ M δ) (R:Mem X.S κ M h s) (hg:Gl X x) (hm:X.S.mg x=some u) (hn:aW x=true) (q:Q u s):Wp X.S X.A (eval (.Name x pos) X.env) Q E s:=by
 unfold aW at hn;simp only [Bool.and_eq_true,Bool.not_eq_true'] at hn;exact Calls.Name_function_global F.ok.kind hg (Calls.loadGlobal_global (by rw [F.ok.glob];exact F.ok.mod.glob.keeps R.bk) hm q) hn.1
def cX {Q:Value->Shared->Prop} (F:Fra X κ M δ) (R:Mem X.S κ M h s) (hg:Gl X x) (hm:X.S.mg x=none) (hv:bootBuiltins x=some u) (hn:aW x=true) (q:Q u s):Wp X.S X.A (eval (.Name x pos) X.env) Q E s:=by
 unfold aW at hn;simp only [Bool.and_eq_true,Bool.not_eq_true'] at hn;obtain ⟨mb,h1,h2⟩:=F.ok.mod.blt;exact Calls.Name_function_global F.ok.kind hg (Calls.loadGlobal_builtin (by rw [F.ok.glob];exact F.ok.mod.glob.keeps R.bk) hm (by rw [F.ok.blt];exact h1.keeps R.bk) ((h2 x (fun z=>by rw [z] at hn;exact absurd hn.2.2 (by decide))).trans hv) q) hn.1
def kU {N:List Str} (hN:N.Nodup) {i j:Nat} {x:Str} (a:N[i]?=some x) (b:N[j]?=some x):i=j:=by
 obtain ⟨h1,e1⟩:=List.getElem?_eq_some_iff.mp a;obtain ⟨h2,e2⟩:=List.getElem?_eq_some_iff.mp b;exact (List.getElem_inj hN).mp (e1.trans e2.symm)
def xE {i:Nat} {Md:Model} {Q:Unit->Shared->Prop} (F:Fra X κ M δ) (R:Mem X.S κ M h s) (hi:X.N[i]?=some x) (hx:Loc X.env.scope x) (hf:X.fn=true\/X.env.scope.names.lookup x=some .local) (r:RepW X.S M w u)
  (q:∀ s' κ',Own X κ κ'->Mem X.S κ' M h s'->Fra X κ' M (δ.set i (some w))->(∃ a,Heap.SameBut a s.heap s'.heap/\κ a≠none)->Q () s'):wpAny Md A (storeName X.env x u) Q E s:=by
 have hiδ:i < δ.length:=by rw [F.len];exact (List.getElem?_eq_some_iff.mp hi).1
 have hcls:(X.env.scope.kind==.class||(X.env.scope.kind==.module&&X.env.locals != X.env.globals))=false:=by rw [F.ok.kind];rfl
 obtain ⟨o,m,h1,⟨es,ep,h2,h3,h4⟩,h5⟩:=F.loc;obtain ⟨_,⟨sl,e⟩,_⟩:=R.k _ _ _ h1;have hn:s.heap.Ns X.env.locals m:=⟨_,es,ep,e,h2,h3,h4⟩;rcases hx with hk | hk
 ·refine wpAny_storeName_local hk hn (fun h' hn' hs=>?_) hcls;obtain ⟨o',es',ep',ho',hd',hk',hm'⟩:=hn';refine q _ (κ.up X.env.locals (false,o')) (fun a ha=>?_) (R.own h1 (fun b ob hb q=>(hs.2 b hb).trans q) ho' R.bare rfl) ⟨F.ok,by rw [List.length_set];exact F.len,⟨o',_,gW,⟨es',ep',hd',hk',hm'⟩,fun j y w' e1 e2 e3=>?_⟩,fun y c ec=>?_,F.frs.up fun vs z=>by rw [hd'] at z;cases z⟩ ⟨_,hs,by rw [h1];exact fun z=>nomatch z⟩
  ·by_cases z:a=X.env.locals
   ·exact .inl z
   ·exact (ha (cD z)).elim
  ·by_cases hj:j=i
   ·subst hj;rw [hi] at e1;cases e1;rw [List.getElem?_set_self hiδ] at e2;cases e2;exact ⟨u,r,.inl ⟨hk,by simp⟩⟩
   ·rw [List.getElem?_set_ne (Ne.symm hj)] at e2;obtain ⟨u',r',l⟩:=h5 j y w' e1 e2 e3;refine ⟨u',r',?_⟩;rcases l with ⟨k,e⟩ | ⟨k,c,oc,ec,eo,ed⟩
    ·have:y≠x:=fun e=>hj (kU F.ok.nd e1 (e ▸ hi));exact .inl ⟨k,by simp [this,e]⟩
    ·exact .inr ⟨k,c,oc,ec,by rw [cD fun z=>by rw [z,h1] at eo;cases eo];exact eo,ed⟩
  ·obtain ⟨oc,v,h6,h7⟩:=F.cell y c ec;exact ⟨oc,v,by rw [cD fun z=>by rw [z,h1] at h6;cases h6];exact h6,h7⟩
 ·have hfn:X.fn=true:=by
   rcases hf with z | z
   ·exact z
   ·rw [z] at hk;cases hk
  obtain ⟨c,hc⟩:=F.ok.has x (.inl hk);obtain ⟨oc,v,h6,h7⟩:=F.cell x c hc;refine wpAny_storeName_cell F.ok.kind hk hc ⟨oc,(R.k _ _ _ h6).1 rfl,h7⟩ (fun h' hc' hs=>?_);obtain ⟨o',ho',hd'⟩:=hc';have nL:X.env.locals≠c:=fun z=>by rw [<- z,h1] at h6;cases h6
  refine q _ (κ.up c (true,o')) (fun a ha=>?_) (R.own h6 (fun b ob hb q=>(hs.2 b hb).trans q) ho' R.bare rfl) ⟨F.ok,by rw [List.length_set];exact F.len,⟨o,m,by rw [cD nL];exact h1,⟨es,ep,h2,h3,h4⟩,fun j y w' e1 e2 e3=>?_⟩,fun y c2 ec=>?_,F.frs.kp fun a ⟨l,env,z1,z2,z3⟩=>cD fun z=>by
   obtain ⟨l',y1,y2⟩:=F.frs;rw [z1] at y1;cases y1;obtain ⟨_,L,o9,y3,y4,_⟩:=y2 env z2;rw [z3] at y3;cases y3;rw [z,h6] at y4;cases y4⟩ ⟨_,hs,by rw [h6];exact fun z=>nomatch z⟩
  ·by_cases z:a=c
   ·exact .inr ⟨hfn,x,z ▸ hc⟩
   ·exact (ha (cD z)).elim
  ·by_cases hj:j=i
   ·subst hj;rw [hi] at e1;cases e1;rw [List.getElem?_set_self hiδ] at e2;cases e2;exact ⟨u,r,.inr ⟨.inl hk,c,o',hc,gW,hd'⟩⟩
   ·rw [List.getElem?_set_ne (Ne.symm hj)] at e2;obtain ⟨u',r',l⟩:=h5 j y w' e1 e2 e3;refine ⟨u',r',?_⟩;rcases l with l | ⟨k,c2,oc2,ec,eo,ed⟩
    ·exact .inl l
    ·refine .inr ⟨k,c2,oc2,ec,?_,ed⟩;rw [cD fun z=>hj (kU F.ok.nd e1 (by rw [F.ok.inj y x c (by rw [<- z];exact ec) hc];exact hi))];exact eo
  ·by_cases z:c2=c
   ·exact ⟨o',_,by rw [z];exact gW,hd'⟩
   ·obtain ⟨o2,v2,h8,h9⟩:=F.cell y c2 ec;exact ⟨o2,v2,by rw [cD z];exact h8,h9⟩
end
end DL

namespace L2
open PySem PySem.Spec PyProof.Rows
structure ObjM (h:Heap) (x dx C:Addr) (mA:Str->Option Value):Prop where
 obj:h.get? x=some (PySem.W.instObj C dx)
 ns:h.Ns1 dx mA
 ne:dx≠x

def uN {h:Heap} {dx:Addr} {mA:Str->Option Value} (n:h.Ns1 dx mA):∃ od,h.get? dx=some od/\∀ name,PySem.W.lookIn name od=some (mA name):=by
 obtain ⟨o,es,ep,ho,hd,hk,_,hm⟩:=n;refine ⟨o,ho,fun name=>?_⟩;have e:=hm name;unfold nsFind findBy at e;rw [<- Array.find?_toList] at e;unfold PySem.W.lookIn;rw [hd];dsimp only;split
 ·rename_i y q;rw [q] at e;exact congrArg some e
 ·rename_i q;rw [q] at e;have a:es.toList.any (·.refKey)=false:=by
   rw [List.any_eq_false];intro y hy;obtain ⟨z,t,hkey⟩:=hk y (Array.mem_toList_iff.mp hy);simp [DictEntry.refKey,hkey]
  have a':¬ es.toList.any (·.refKey)=true:=by rw [a];exact Bool.false_ne_true
  rw [if_neg a'];exact congrArg some e

def ObjM.look {h:Heap} {x dx C:Addr} {mA:Str->Option Value} (I:ObjM h x dx C mA):∃ od,PySem.W.InstAt h x (PySem.W.instObj C dx) C (some od)/\∀ name,PySem.W.lookIn name od=some (mA name) :=
 let ⟨od,ho,hl⟩:=uN I.ns
 ⟨od,⟨I.obj,rfl,rfl,ho⟩,hl⟩

section
variable {prog:Program} {w:World} {A:Around} {E:Value->Shared->Prop} {s:Shared} {K:PySem.W.Frag} {x dx C f:Addr} {mA:Str->Option Value} {name:Str} {v:Value}

def aD2 {expr:Bool} {Q:Value->Shared->Prop} (X:K.In s.heap) (I:ObjM s.heap x dx C mA) (hg:PySem.W.plainGet K C name=true) (hh:PySem.W.hasDictIn K C=true)
  (ha:PySem.W.findIn K (.ref C) name=some none) (hv:mA name=some v) (hv':PySem.W.handedIn v=true) (h:Q v { s with toks:=s.toks+1 }) :
  wpAny (model prog w) A (getAttr (.ref x) name expr) Q E s:=by
 obtain ⟨od,J,hl⟩:=I.look;exact PySem.W.get_value X J (PySem.W.plainGet_of hg).1 (PySem.W.findObj_own hh ha rfl (by rw [hl,hv])) hv' h

def xF {pl:Sem Bool} {Q:Value×List Value->Shared->Prop} (X:K.In s.heap) (I:ObjM s.heap x dx C mA) (hg:PySem.W.plainGet K C name=true)
  (hf:PySem.W.findIn K (.ref C) name=some (some (.ref f))) (ht:PySem.W.isFn K (.ref f)=true) (hv:mA name=none) (h:Q (.ref f,[.ref x]) s) :
  wpAny (model prog w) A (getMethod (.ref x) name pl) Q E s:=by
 obtain ⟨od,J,hl⟩:=I.look;exact PySem.W.method_fn X J (PySem.W.plainGet_of hg).1 (PySem.W.plainGet_of hg).2 hf (beq_iff_eq.mp ht) (by show (PySem.W.lookIn name od).map (·.isSome)=some false;rw [hl,hv];rfl) h

def aD3 {ns:List Str} {Q:Unit->Shared->Prop} (X:K.In s.heap) (I:ObjM s.heap x dx C mA)
  (hs:PySem.W.findIn K (.ref C) "__setattr__"=some (some (.builtin "object.__setattr__"))) (hp:PySem.W.plainOver K C=true) (ht:PySem.W.takerIn K C name=some none) (hh:PySem.W.hasDictIn K C=true)
  (hw:PySem.Within mA ns) (hsz:ns.length<=sizeLine)
  (h:∀ h',ObjM h' x dx C (fun y=>if y=name then some v else mA y)->Heap.SameBut dx s.heap h'->Q () { s with heap:=h',toks:=s.toks+2 }) :
  wpAny (model prog w) A (setAttr (.ref x) name v) Q E s:=by
 obtain ⟨od,J,hl⟩:=I.look;refine PySem.W.set_plain X J hs (PySem.W.osa_open (s:={ s with toks:=s.toks+1 }) (r:=none) X J hp ht fun b=>?_);obtain ⟨cd,hc,hd'⟩:=PySem.W.any_some hh;have hx:s.heap.get? x=some ⟨.ref C,some dx,.plain,#[]⟩:=I.obj;refine wpAny_bind (wpAny_pure (wpAny_bind (wpAny_bind (wpAny_loadPart hx (wpAny_bind (PySem.W.Looks.here (s:={ s with toks:=s.toks+1 }) (PySem.W.looks_clsIn X hc) ?_))))));rw [hd'];refine wpAny_pure (a:=some dx) (wpAny_bind (wpAny_pure (wpAny_bind ?_)));refine wpAny_nsSet1 (s:={ s with toks:=s.toks+1 }) I.ns fun h' hn2 hs2=>?_;obtain ⟨oD,esD,epD,hoD,hdD,hcD⟩:=hn2.count (PySem.Within.cons name v hw);refine wpAny_bind (wpAny_lookBehind hoD (by rw [hdD];exact pastItsLine_dict (Nat.le_trans hcD (by rw [List.length_cons];omega))) ?_);exact wpAny_pure (h _ ⟨(hs2.2 _ (Ne.symm I.ne)).trans I.obj,hn2,I.ne⟩ hs2)

def xG {R:Result->Shared->Prop} {vs:List Value} {kw:List (Str×Value)} (X:K.In s.heap) (hm:PySem.W.makesIn K C=true)
  (hi:PySem.W.findIn K (.ref C) "__init__"=some (some (.ref f))) (hf:PySem.W.typeIn K (.ref f)=some (.type "function"))
  (h:codeAny (model prog w) (A.under (.builtin "type.__call__" ⟨.ref C::vs,kw⟩)) (.call (.ref f) ⟨.ref (s.heap.objs.size+1)::vs,kw⟩) (PySem.W.InitBack (s.heap.objs.size+1) R)
   { s with heap:=(s.heap.push PySem.W.emptyDict).push (PySem.W.instObj C s.heap.objs.size) }) :
  codeAny (model prog w) A (.call (.ref C) ⟨vs,kw⟩) R s:=by
 obtain ⟨hh,g,d,t,os⟩:=s;exact PySem.W.make_core (PySem.W.makes_of X hm) (PySem.W.looks_findIn X hi) (fun self=>PySem.W.bind_fn X self hf) (.inl rfl) h
end

structure Cls (K:PySem.W.Frag) (C:Addr):Prop where
 pg:PySem.W.plainGet K C Str.empty=true
 hd:PySem.W.hasDictIn K C=true
 po:PySem.W.plainOver K C=true
 sa:PySem.W.findIn K (.ref C) "__setattr__"=some (some (.builtin "object.__setattr__"))
def Cls.get {K:PySem.W.Frag} {C:Addr} (c:Cls K C) (f:Str):PySem.W.plainGet K C f=true:=c.pg
def NoAttr (K:PySem.W.Frag) (C:Addr) (f:Str):Prop:=PySem.W.findIn K (.ref C) f=some none
def NoAttr.taker {K:PySem.W.Frag} {C:Addr} {f:Str} (n:NoAttr K C f):PySem.W.takerIn K C f=some none:=by
 unfold PySem.W.takerIn;rw [show PySem.W.findIn K (.ref C) f=some none from n];rfl
structure Meth (K:PySem.W.Frag) (C:Addr) (m:Str) (f:Addr):Prop where
 at_:PySem.W.findIn K (.ref C) m=some (some (.ref f))
 fn:PySem.W.isFn K (.ref f)=true
 kp:PySem.W.keepIn K (.ref f)=true
end L2

namespace DL
open PySem PySem.Spec PyProof.Rows L2 CI
noncomputable def oIs:Option Str->Value->Bool
 | some x,v=>Value.isStrOf x v
 | none,.none=>true
 | none,_=>false
def oIs_shape {k:Option Str} {v:Value} (h:oIs k v=true):(∃ x t,k=some x/\v=.str x t)\/(k=none/\v=.none):=by
 cases k with
 | some x =>
  obtain ⟨t,e⟩:=Value.isStrOf_shape (x:=x) (v:=v) h;exact .inl ⟨x,t,rfl,e⟩
 | none=>cases v<;>first | exact .inr ⟨rfl,rfl⟩ | cases h
def oA (x:Str) (t:Tok):oIs (some x) (.str x t)=true:=by simp [oIs,Value.isStrOf]
noncomputable def bA1 (w:World):Option Str->Int
 | some x=>hashStr w x
 | none=>reduceHash 0xFCA86420
def bA2 (prog:Program) (w:World):PySem.KeyKind prog w (Option Str) where
 is:=oIs
 hash:=bA1 w
 inj:=fun v a b ha hb=>by
  rcases oIs_shape ha with ⟨x,t,rfl,rfl⟩ | ⟨rfl,rfl⟩
  ·rcases oIs_shape hb with ⟨y,u,rfl,e⟩ | ⟨rfl,e⟩
   ·injection e with e1 _;rw [e1]
   ·exact nomatch e
  ·rcases oIs_shape hb with ⟨y,u,rfl,e⟩ | ⟨rfl,e⟩
   ·exact nomatch e
   ·rfl
 byValue:=fun k v h=>by
  rcases oIs_shape h with ⟨x,t,rfl,rfl⟩ | ⟨rfl,rfl⟩<;>rfl
 pyHash:=fun {A E s k v Q} hv h=>by
  rcases oIs_shape hv with ⟨x,t,rfl,rfl⟩ | ⟨rfl,rfl⟩
  ·exact wpAny_pyHash_str h
  ·exact PySem.W.pyHash_slot (T:="NoneType") rfl PySem.F.slot_NoneType_hash PySem.F.entry_NoneType_hash (PySem.F.args_NoneType_hash_1 _) (by decide) (.inl rfl) (wpAny_bind (wpAny_pure (wpAny_bind (wpAny_mkInt (wpAny_pure ⟨_,_,rfl,h⟩)))))
 eqBool:=fun {A E s a b u v Q} hu hv h=>by
  rcases oIs_shape hu with ⟨x,t,rfl,rfl⟩ | ⟨rfl,rfl⟩
  ·rcases oIs_shape hv with ⟨y,u,rfl,rfl⟩ | ⟨rfl,rfl⟩
   ·refine wpAny_eqBool_str ?_;have e:decide (some x=some y)=decide (x=y):=by simp
    rwa [e] at h
   ·exact SeqAt.EqAt.str_none x t _ _ _ _ (by simpa using h)
  ·rcases oIs_shape hv with ⟨y,u,rfl,rfl⟩ | ⟨rfl,rfl⟩
   ·exact SeqAt.EqAt.none_str y u _ _ _ _ (by simpa using h)
   ·exact SeqAt.EqAt.same _ _ _ _ _ (by simpa using h)
 «strs»:=fun k x t v h=>by
  rcases oIs_shape h with ⟨y,u,rfl,e⟩ | ⟨rfl,e⟩
  ·injection e with e1 _
   subst e1;cases v<;>rfl
  ·exact nomatch e
structure TabK (S:Sx) (p:Addr) (f:Str->Option PyData):Prop where
 lk:∃ es n,S.K.lookup p=some ⟨.type "dict",none,.dict es n,#[]⟩/\PySem.W.KeysLit S.w.params es.toList/\(∀ x i,f x=some i->∃ u,findBy Value.isStrOf es x=some u/\Rep S S.base.get? i u)/\∀ x,f x=none->findBy Value.isStrOf es x=none
 sm:(p==sysModules)=false
def TabK.map {S:Sx} {p:Addr} {f:Str->Option PyData} {prog:Program} {h:Heap} (T:TabK S p f) (X:S.K.In h):∃ g:Option Str->Option Value,h.MapOf (bA2 prog S.w) p g/\g none=none/\(∀ x i,f x=some i->∃ u,g (some x)=some u/\Rep S S.base.get? i u)/\∀ x,f x=none->g (some x)=none:=by
 obtain ⟨es,n,l,hk,h1,h2⟩:=T.lk;refine ⟨fun k=>findBy oIs es k,⟨_,es,n,X _ _ l,⟨rfl,rfl,rfl⟩,rfl,fun e he=>?_,fun _=>rfl⟩,?_,h1,h2⟩
 ·obtain ⟨x,t,e1,e2⟩:=hk.all e (Array.mem_toList_iff.mpr he);exact ⟨some x,by rw [e1];exact oA x t,e2⟩
 ·unfold findBy;have e:es.find? (fun e=>oIs none e.key)=none:=by
   rw [Array.find?_eq_none];intro e he;obtain ⟨x,t,e1,_⟩:=hk.all e (Array.mem_toList_iff.mpr he);rw [e1];exact Bool.false_ne_true
  show Option.map _ (es.find? fun e=>oIs none e.key)=none;rw [e];rfl
def eG (K:PySem.W.Frag) (fd:FuncData) (ps:List Str):Prop:=∀ (s:Shared) (us:List Value),K.In s.heap->us.length=ps.length->BindsTo s fd ⟨us,[]⟩ (ps.zip us)
def CR (S:Sx) (κ:Kp) (M:Mp) (h:aA) (w:W) (r:Result) (s:Shared):Prop:=∃ u,r=.ok (.ret u)/\Pw S κ M h w u s
structure FnS (S:Sx) (d:Nat) (f:Addr) (fd:FuncData) (ps:List Str) (m:XFW):Prop where
 len:∀ ws h r,m ws h=some r->ws.length=ps.length
 run:∀ {A:Around} {κ:Kp} {M:Mp} {h h':aA} {s:Shared} {args:Args} {us:List Value} {ws:List W} {w:W},Room d A->FrO κ A->Mod S->S.base.objs.size<=s.heap.objs.size->Mem S κ M h s->BindsTo s fd args (ps.zip us)->RepWs S M ws us->m ws h=some (w,h') ->
  codeAny (model S.P S.w) A (.call (.ref f) args) (CR S κ M h' w) s
def FnG (S:Sx) (d:Nat) (x:Str) (m:XFW):Prop:=(∀ ws h,m ws h=none)\/∃ f fd ps,S.mg x=some (.ref f)/\PySem.W.keepIn S.K (.ref f)=true/\eG S.K fd ps/\FnS S d f fd ps m
abbrev toW (m:XF):XFW:=fun ws h=>(m ws h).bind fun p=>some (.d p.1,p.2)
structure Mk (K:PySem.W.Frag) (C f:Addr):Prop where
 makes:PySem.W.makesIn K C=true
 init:PySem.W.findIn K (.ref C) "__init__"=some (some (.ref f))
 fn:PySem.W.isFn K (.ref f)=true
 kp:PySem.W.keepIn K (.ref C)=true
structure TbS (S:Sx) (c0:Addr) (pos:Pos):Prop where
 hd:PySem.W.codeHdIn S.K c0 S.tp=true
 tr:TriplesOk S.tb.toList
 no:codeAmong pos S.tb.toList=none
 bm:S.base.BuiltinsAt S.mg S.tp
structure LamOk (X:Cx) (d:Nat) (q:Str×Pos):Prop where
 qual:X.env.qual=q.1
 code:∃ c0,X.env.code=.ref c0/\TbS X.S c0 q.2
 dp:X.A.depth+3*d+7 < recursionLimit
 un:X.A.units+16*d+212 < cLine
structure Good (X:Cx) (st:Sta) (d:Nat):Prop where
 bl:∀ x,st.bl.contains x=true->X.S.mg x=none
 gc:∀ x z,st.gc x=some z->∃ u,X.S.mg x=some u/\Rep X.S X.S.base.get? z u
 tk:∀ x f,st.tk x=some f->∃ p,X.S.mg x=some (.ref p)/\TabK X.S p f
 fn:∀ x m,st.fn x=some m->FnG X.S d x (toW m)
 fnW:∀ x m,st.ob.fnW x=some m->FnG X.S d x m
 cls:∀ x C m,st.ob.cls x=some (C,m)->(∀ ws h,m ws h=none)\/∃ k f fd ps,k+1<=d/\Mk X.S.K C f/\FnS X.S k f fd ps m/\X.S.mg x=some (.ref C)/\eG X.S.K fd ps
 om:∀ x C m,st.ob.om x=some (C,m)->(∀ ws h,m ws h=none)\/(Cls X.S.K C/\∃ f fd ps,Meth X.S.K C x f/\FnS X.S d f fd ps m/\eG X.S.K fd ps)
 fo:∀ C f,st.ob.fo C f=true->Cls X.S.K C/\NoAttr X.S.K C f
 N:X.N=st.N
 S:X.env.scope=st.S
 top:st.top=true->X.fn=true
 rm:Room d X.A
 qn:∀ q,st.qn=some q->LamOk X d q
def Pt (S:Sx) (κ:Kp) (M:Mp) (h:aA) (b:Bool) (c:Bool) (s:Shared):Prop:=c=b/\∃ M',Le M M'/\Mem S κ M' h s
def Pa (S:Sx) (κ:Kp) (M:Mp) (h:aA) (ws:List W) (us:List Value) (s:Shared):Prop:=∃ M',Le M M'/\Mem S κ M' h s/\RepWs S M' ws us
def SE (X:Cx) (e:Expr) (f:XR W):Prop:=∀ ⦃κ M δ h s w h'⦄,Mem X.S κ M h s->Fra X κ M δ->f δ h=some (w,h')->Wp X.S X.A (eval e X.env) (Pw X.S κ M h' w) NE s
def SF (X:Cx) (e:Expr) (f:XR (List PyData)):Prop:=∀ ⦃κ M δ h s w h'⦄,Mem X.S κ M h s->Fra X κ M δ->f δ h=some (w,h')->Wp X.S X.A (eval e X.env) (Pf X.S κ M h' w) NE s
def ST (X:Cx) (e:Expr) (f:XR Bool):Prop:=∀ ⦃κ M δ h s w h'⦄,Mem X.S κ M h s->Fra X κ M δ->f δ h=some (w,h')->Wp X.S X.A (isTrue e X.env (eval e X.env)) (Pt X.S κ M h' w) NE s
def SW (X:Cx) (e:Expr) (f:XR Bool):Prop:=∀ (wh:Sem Value) ⦃κ M δ h s w h'⦄,Mem X.S κ M h s->Fra X κ M δ->f δ h=some (w,h')->Wp X.S X.A (isTrue e X.env wh) (Pt X.S κ M h' w) NE s
def SA (X:Cx) (es:List Expr) (f:XR (List W)):Prop:=∀ (pos:Pos) ⦃κ M δ h s ws h'⦄,Mem X.S κ M h s->Fra X κ M δ->f δ h=some (ws,h')->Wp X.S X.A (spliced (backTo pos (starEach es X.env))) (Pa X.S κ M h' ws) NE s
def SO (X:Cx) (e:Option Expr) (f:XR (Option Int)):Prop:=∀ ⦃κ M δ h s o h'⦄,Mem X.S κ M h s->Fra X κ M δ->f δ h=some (o,h')->Wp X.S X.A (evalPart e X.env) (fun u s'=>IsPart u o/\∃ M',Le M M'/\Mem X.S κ M' h' s') NE s
def SG (X:Cx) (tg:Expr) (g:XG):Prop:=∀ ⦃κ M δ h s w u δ' h'⦄,Mem X.S κ M h s->Fra X κ M δ->RepW X.S M w u->g w δ h=some (δ',h')->Wp X.S X.A (assign tg X.env u) (fun _ s'=>∃ κ' M',Own X κ κ'/\Le M M'/\Mem X.S κ' M' h' s'/\Fra X κ' M' δ') NE s
def Fw (X:Cx) (κ:Kp) (M:Mp):Fl->Flow->Prop
 | .nx δ,.next=>Fra X κ M δ
 | .bk δ,.brk=>Fra X κ M δ
 | .ct δ,.cont=>Fra X κ M δ
 | .rt w,.ret u=>RepW X.S M w u
 | _,_=>False
def Ps (X:Cx) (κ:Kp) (M:Mp) (h:aA) (fl:Fl) (f:Flow) (s:Shared):Prop:=∃ κ' M',Own X κ κ'/\Le M M'/\Mem X.S κ' M' h s/\Fw X κ' M' fl f
def SS (X:Cx) (st:Stmt) (f:XS):Prop:=∀ ⦃κ M δ h s fl h'⦄,Mem X.S κ M h s->Fra X κ M δ->f δ h=some (fl,h')->Wp X.S X.A (exec st X.env) (Ps X κ M h' fl) NE s
def SSs (X:Cx) (st:List Stmt) (f:XS):Prop:=∀ ⦃κ M δ h s fl h'⦄,Mem X.S κ M h s->Fra X κ M δ->f δ h=some (fl,h')->Wp X.S X.A (execs st X.env) (Ps X κ M h' fl) NE s
structure Snd (v:Evs):Prop where
 E:∀ {X st d},Good X st d->∀ e,SE X e (v.E st e)
 T:∀ {X st d},Good X st d->∀ e,ST X e (v.T st e)
 F:∀ {X st d},Good X st d->∀ e,SF X e (v.F st e)
 G:∀ {X st d},Good X st d->∀ e,SG X e (v.G st e)
 S:∀ {X st d},Good X st d->∀ s,SS X s (v.S st s)
section
variable {X:Cx} {st:Sta} {d:Nat} {x:Str} {v:Evs} {a b c t:Expr} {pos:Pos} {es:List Expr} {κ:Kp} {M:Mp} {δ:DSt} {h h':aA} {s:Shared} {w:W} {E:Value->Shared->Prop}
def aG {α β:Type} {f:XR α} {g:α->XR β} {r:β×aA} (e:xb f g δ h=some r):∃ p h1,f δ h=some (p,h1)/\g p δ h1=some r:=let ⟨⟨p,h1⟩,e1,e2⟩:=bind_some e;⟨p,h1,e1,e2⟩
def kA (G:Good X st d) {i:Nat} (e:slot st x=some i):X.N[i]?=some x:=by
 rw [G.N];obtain ⟨h1,h2,_⟩:=List.findIdx?_eq_some_iff_getElem.mp e;rw [List.getElem?_eq_getElem h1,eq_of_beq h2]
def aM9 (G:Good X st d) (h:aK9 st.S x=true):Vis X.env.scope x:=by
 unfold Vis;rw [G.S];unfold aK9 at h;split at h
 ·rename_i e;exact .inl e
 ·rename_i e;exact .inr (.inl e)
 ·rename_i e;exact .inr (.inr e)
 ·cases h
def xH (G:Good X st d) (h:(nP st.S x&&(st.top||cO st.S x))=true):Loc X.env.scope x/\(X.fn=true\/X.env.scope.names.lookup x=some .local):=by
 rw [Bool.and_eq_true,Bool.or_eq_true] at h;obtain ⟨h1,h2⟩:=h;unfold Loc;rw [G.S];refine ⟨?_,?_⟩
 ·unfold nP at h1;split at h1
  ·rename_i e;exact .inl e
  ·rename_i e;exact .inr e
  ·cases h1
 ·rcases h2 with h2 | h2
  ·exact .inl (G.top h2)
  ·unfold cO at h2;split at h2
   ·rename_i e;exact .inr e
   ·cases h2
def kW (G:Good X st d) (h:cE st x=true):aW x=true/\Gl X x:=by
 unfold cE at h;rw [Bool.and_eq_true] at h;refine ⟨h.1,?_⟩;unfold Gl Env.kindOf;rw [G.S];have h2:=h.2;unfold glB at h2;split at h2
 ·rename_i e;exact e
 ·cases h2
def bT {e:Expr}:SE X e xno:=fun _ _ _ _ _ _ _ _ _ e=>by cases e
def aN0 (G:Good X st d):SE X (.Name x pos) (wJ st x):=by
 unfold wJ;split
 ·rename_i hn;split
  ·rename_i i hi;split
   ·rename_i hv;intro κ M δ h s w h' R F e;unfold aB at e;split at e
    ·rename_i e';cases e;exact bA0 F R (kA G hi) e' (aM9 G hv) hn
    ·cases e
   ·exact bT
  ·split
   ·rename_i z hz;split
    ·rename_i hg;intro κ M δ h s w h' R F e;cases e;obtain ⟨u,m,r⟩:=G.gc _ _ hz;exact eZ F R (kW G (by unfold cE;rw [hn,hg];rfl)).2 m hn (R.pw (Rep.go R.base r))
    ·exact bT
   ·exact bT
 ·exact bT
def aD4 {c:Const} {j:Nat}:SE X (.Constant c j pos) (wK c):=by
 intro κ M δ h s w h' R F e;cases c with
 | none=>cases e;exact Constant_none R.pn
 | bool b=>cases e;exact Constant_bool R.pb
 | int i=>cases e;exact wpAny_Constant_int R.pi
 | str x =>
  have e:(if PyData.strOk x=true then aD (.d (.str x)) else xno:XR W) δ h=some (w,h'):=e
  by_cases hx:PyData.strOk x=true
  case neg=>rw [if_neg hx] at e;cases e
  rw [if_pos hx] at e;cases e;exact Calls.Constant_str ((R.tok _).pw (show Rep X.S M.Z _ _ from rep_s.mpr ⟨⟨_,rfl⟩,hx⟩))
 | _=>cases e
def two {fa fb:XR W} {k:W->W->aA->Option (W×aA)} (ha:SE X a fa) (hb:SE X b fb) {f:Value->Value->Sem Value} {r:W×aA} (R:Mem X.S κ M h s) (F:Fra X κ M δ) (e:xb fa (fun u=>xb fb fun w=>fun _ h=>k u w h) δ h=some r)
  (hf:∀ {M1 h1 s1 x y u v},Mem X.S κ M1 h1 s1->Fra X κ M1 δ->RepW X.S M1 x u->RepW X.S M1 y v->k x y h1=some r->Wp X.S X.A (f u v) (Pw X.S κ M1 r.2 r.1) NE s1) :
  Wp X.S X.A (eval a X.env) (fun u s₁=>Wp X.S X.A (eval b X.env) (fun v s₂=>Wp X.S X.A (f u v) (Pw X.S κ M r.2 r.1) NE s₂) NE s₁) NE s:=by
 obtain ⟨x,h1,e1,e⟩:=aG e;obtain ⟨y,h2,e2,e⟩:=aG e;refine thn (ha R F e1) fun u s1 ⟨M1,l1,R1,r1⟩=>thn (hb R1 (F.go l1) e2) fun v s2 ⟨M2,l2,R2,r2⟩=>?_;exact thn (hf R2 ((F.go l1).go l2) (r1.go l2) r2 e) fun _ _ q=>q.go (l1.trans l2)
def bA3 (S:Snd v) (G:Good X st d) {op:Operator}:SE X (.BinOp a op b pos) (xb (v.E st a) fun u=>xb (v.E st b) fun w=>fun _ h=>cW op u w h):=fun _ _ _ _ _ _ _ R F e =>
 wpAny_BinOp (two (S.E G a) (S.E G b) R F e fun R1 _ ra rb e=>aM4 R1 ra rb e)
theorem bA4 (S:Snd v) (G:Good X st d):SE X (.UnaryOp .Not a pos) (xb (v.E st a) fun w=>(match w with
  | .d (.bool b)=>aD (.d (.bool (!b)))
  | _=>xno)):=by
 intro κ M δ h s w h' R F e;obtain ⟨x,h1,e1,e⟩:=aG e;refine UnaryOp_ (thn (S.E G a R F e1) fun u s1 ⟨M1,l1,R1,r1⟩=>?_);obtain ⟨b,rfl,e⟩:∃ b,x=.d (.bool b)/\aD (.d (.bool (!b))) δ h1=some (w,h'):=by rcases x with (_ | b | _ | _ | _ | _ | _) | _<;>first | cases e;done | exact ⟨_,rfl,e⟩
 cases e;cases wb.mp r1;exact not_of (wpAny_truthy_bool (R1.pb.go l1))
theorem bA5 (S:Snd v) (G:Good X st d):SE X (.UnaryOp .USub a pos) (xb (v.E st a) fun w=>(match w with
  | .d (.int i)=>aD (.d (.int (-i)))
  | _=>xno)):=by
 intro κ M δ h s w h' R F e;obtain ⟨x,h1,e1,e⟩:=aG e;refine UnaryOp_ (thn (S.E G a R F e1) fun u s1 ⟨M1,l1,R1,r1⟩=>?_);obtain ⟨b,rfl,e⟩:∃ b,x=.d (.int b)/\aD (.d (.int (-b))) δ h1=some (w,h'):=by rcases x with (_ | b | _ | _ | _ | _ | _) | _<;>first | cases e;done | exact ⟨_,rfl,e⟩
 cases e;exact thn (aM5 R1 r1) fun _ _ q=>q.go l1
def bA6 (S:Snd v) (G:Good X st d):SE X (.IfExp c a b pos) (xb (v.T st c) fun t=>if t=true then v.E st a else v.E st b):=by
 intro κ M δ h s w h' R F e;obtain ⟨x,h1,e1,e⟩:=aG e;refine wpAny_IfExp (thn (S.T G c R F e1) fun t s1 ⟨et,M1,l1,R1⟩=>?_);subst et;cases t with
 | true=>exact thn (S.E G a R1 (F.go l1) e) fun _ _ q=>q.go l1
 | false=>exact thn (S.E G b R1 (F.go l1) e) fun _ _ q=>q.go l1
theorem xI (S:Snd v) (G:Good X st d):∀ vs,SE X (.BoolOp .And vs pos) (wO v st vs)
 | []=>fun _ _ _ _ _ _ _ R F e=>by cases e
 | [a]=>fun _ _ _ _ _ _ _ R F e=>BoolOp_one (S.E G a R F e)
 | a::b::r=>by
  intro κ M δ h s w h' R F e;obtain ⟨x,h1,e1,e⟩:=aG e;refine BoolOp_and (thn (S.E G a R F e1) fun u s1 ⟨M1,l1,R1,r1⟩=>?_);rcases x with (_ | b | _ | _ | _ | _ | _) | _<;>first | cases e;done | skip
  cases wb.mp r1;cases b
  ·cases e;exact wpAny_truthy_bool (R1.pb.go l1)
  ·exact wpAny_truthy_bool (thn (xI S G _ R1 (F.go l1) e) fun _ _ q=>q.go l1)
theorem aJ0 (S:Snd v) (G:Good X st d):∀ vs,SE X (.BoolOp .Or vs pos) (aL1 v st vs)
 | []=>fun _ _ _ _ _ _ _ R F e=>by cases e
 | [a]=>fun _ _ _ _ _ _ _ R F e=>BoolOp_one (S.E G a R F e)
 | a::b::r=>by
  intro κ M δ h s w h' R F e;obtain ⟨x,h1,e1,e⟩:=aG e;refine BoolOp_or (thn (S.E G a R F e1) fun u s1 ⟨M1,l1,R1,r1⟩=>?_);rcases x with (_ | b | _ | _ | _ | _ | _) | _<;>first | cases e;done | skip
  cases wb.mp r1;cases b
  ·exact wpAny_truthy_bool (thn (aJ0 S G _ R1 (F.go l1) e) fun _ _ q=>q.go l1)
  ·cases e;exact wpAny_truthy_bool (R1.pb.go l1)
def Pt.go {S:Sx} {M M':Mp} {b c:Bool} (l:Le M M') (p:Pt S κ M' h b c s):Pt S κ M h b c s:=let ⟨e,N,a,b⟩:=p;⟨e,N,l.trans a,b⟩
theorem aJ1 (S:Snd v) (G:Good X st d):∀ vs,SW X (.BoolOp .And vs pos) (wP v st vs)
 | []=>fun _ _ _ _ _ _ _ _ R F e=>by cases e
 | [a]=>fun wh _ _ _ _ _ _ _ R F e=>isTrue_and (thn (S.T G a R F e) fun c s1 q=>by
  cases c with
  | true=>exact isTrue_and_nil q
  | false=>exact q)
 | a::b::r=>by
  intro wh κ M δ h s w h' R F e;obtain ⟨x,h1,e1,e⟩:=aG e;refine isTrue_and (thn (S.T G a R F e1) fun t s1 ⟨et,M1,l1,R1⟩=>?_);subst et;cases t with
  | true=>exact thn (aJ1 S G (b::r) wh R1 (F.go l1) e) fun _ _ q=>q.go l1
  | false=>cases e;exact ⟨rfl,M1,l1,R1⟩
theorem bA7 (S:Snd v) (G:Good X st d):∀ vs,SW X (.BoolOp .Or vs pos) (aL2 v st vs)
 | []=>fun _ _ _ _ _ _ _ _ R F e=>by cases e
 | [a]=>fun wh _ _ _ _ _ _ _ R F e=>isTrue_or (thn (S.T G a R F e) fun c s1 q=>by
  cases c with
  | false=>exact isTrue_or_nil q
  | true=>exact q)
 | a::b::r=>by
  intro wh κ M δ h s w h' R F e;obtain ⟨x,h1,e1,e⟩:=aG e;refine isTrue_or (thn (S.T G a R F e1) fun t s1 ⟨et,M1,l1,R1⟩=>?_);subst et;cases t with
  | true=>cases e;exact ⟨rfl,M1,l1,R1⟩
  | false=>exact thn (bA7 S G (b::r) wh R1 (F.go l1) e) fun _ _ q=>q.go l1
def xJ (G:Good X st d) {f:Str->Option PyData} (e:gZ st b=some f):∃ y p p',b=.Name y p'/\aW y=true/\Gl X y/\X.S.mg y=some (.ref p)/\TabK X.S p f:=by
 unfold gZ at e;cases b<;>first | (cases e;done) | skip
 obtain ⟨ht,e⟩:=aF e;rw [Bool.and_eq_true] at ht;obtain ⟨h1,h2⟩:=kW G ht.1;obtain ⟨p,h3,h4⟩:=G.tk _ _ e;exact ⟨_,p,_,rfl,h1,h2,h3,h4⟩
def bA8 (S:Snd v) (G:Good X st d) {f:Str->Option PyData} (hf:gZ st b=some f) {r:Bool×aA} (R:Mem X.S κ M h s) (F:Fra X κ M δ) (e:gY f (v.E st a) δ h=some r) :
  behindInMarks .NotIn b=false/\Wp X.S X.A (eval a X.env) (fun u s₁=>Wp X.S X.A (eval b X.env) (fun v s₂=>Wp X.S X.A (compareOp .NotIn u v) (Pw X.S κ M r.2 (.d (.bool r.1))) NE s₂) NE s₁) NE s:=by
 obtain ⟨y,p,p',rfl,hn,hg,hm,T⟩:=xJ G hf;refine ⟨rfl,?_⟩;obtain ⟨x,h1,e1,e⟩:=aG e;refine thn (S.E G a R F e1) fun u s1 ⟨M1,l1,R1,r1⟩=>eZ (F.go l1) R1 hg hm hn ?_;obtain ⟨g,m,g0,g1,g2⟩:=T.map (prog:=X.S.P) (F.ok.mod.kin.keeps R1.bk);rcases x with (_ | _ | _ | z | _ | _ | _) | _<;>first | cases e;done | skip
 ·cases e;cases wn.mp r1;refine wpAny_notIn_of (k:=none) rfl T.sm m ?_;rw [g0];exact (R1.tok _).pb.go l1
 ·cases e;obtain ⟨⟨t,rfl⟩,_⟩:=rep_s.mp (show Rep X.S M1.Z _ _ from r1);refine wpAny_notIn_of (k:=some z) (oA z t) T.sm m ?_;have eg:(g (some z)).isSome=(f z).isSome:=by
   cases q:f z with
   | none=>rw [g2 z q];rfl
   | some i=>obtain ⟨t',q',_⟩:=g1 z i q;rw [q'];rfl
  rw [eg];exact (R1.tok _).pb.go l1
def c_one (S:Snd v) (G:Good X st d) {op:CmpOp} {r:Bool×aA} (R:Mem X.S κ M h s) (F:Fra X κ M δ) (e:eU v st a [op] [b] δ h=some r) :
  behindInMarks op b=false/\Wp X.S X.A (eval a X.env) (fun u s₁=>Wp X.S X.A (eval b X.env) (fun v s₂=>Wp X.S X.A (compareOp op u v) (Pw X.S κ M r.2 (.d (.bool r.1))) NE s₂) NE s₁) NE s:=by
 cases hf:gZ st b with
 | some f =>
  have e:(match gZ st b with
   | some f=>if op=CmpOp.NotIn then gY f (v.E st a) else xno
   | none=>if behindInMarks op b=true then xno else xC1 op (v.E st a) (v.E st b)) δ h=some r:=e
  rw [hf] at e
  by_cases ho:op=CmpOp.NotIn
  ·subst ho;exact bA8 S G hf R F e
  ·have e:(if op=CmpOp.NotIn then gY f (v.E st a) else xno) δ h=some r:=e;rw [if_neg ho] at e;cases e
 | none =>
  have e:(match gZ st b with
   | some f=>if op=CmpOp.NotIn then gY f (v.E st a) else xno
   | none=>if behindInMarks op b=true then xno else xC1 op (v.E st a) (v.E st b)) δ h=some r:=e
  rw [hf] at e;have e:(if behindInMarks op b=true then xno else xC1 op (v.E st a) (v.E st b)) δ h=some r:=e
  by_cases hb:behindInMarks op b=true
  ·rw [if_pos hb] at e;cases e
  ·rw [if_neg hb] at e;refine ⟨by simpa using hb,?_⟩;obtain ⟨x,h1,e1,e⟩:=aG e;obtain ⟨y,h2,e2,e⟩:=aG e;refine thn (S.E G a R F e1) fun u s1 ⟨M1,l1,R1,r1⟩=>thn (S.E G b R1 (F.go l1) e2) fun v s2 ⟨M2,l2,R2,r2⟩=>?_;obtain ⟨q1,q2⟩:=fK (A:=X.A) (E:=NE) G.rm R2 (r1.go l2) r2 e;rw [q1];exact thn q2 fun _ _ q=>q.go (l1.trans l2)
def aN1 (S:Snd v) (G:Good X st d) {op op':CmpOp} {p:Bool×aA} (hm:lastMarks [op,op'] [b,c]=false) (R:Mem X.S κ M h s) (F:Fra X κ M δ) (e:xC2 op op' (v.E st a) (v.E st b) (v.E st c) δ h=some p):Wp X.S X.A (eval (.Compare a [op,op'] [b,c] pos) X.env) (Pw X.S κ M p.2 (.d (.bool p.1))) NE s:=by
 obtain ⟨x,h1,e1,e⟩:=aG e;obtain ⟨y,h2,e2,e⟩:=aG e;obtain ⟨p1,e3,e⟩:=bind_some e;refine Compare_chain (thn (S.E G a R F e1) fun u s1 ⟨M1,l1,R1,r1⟩=>chain_link (thn (S.E G b R1 (F.go l1) e2) fun v s2 ⟨M2,l2,R2,r2⟩=>?_)) hm;obtain ⟨q1,q2⟩:=fK (A:=X.A) (E:=NE) G.rm R2 (r1.go l2) r2 e3;obtain ⟨k,h3⟩:=p1;cases q1;refine thn q2 fun k' s3 ⟨M3,l3,R3,r3⟩=>?_;cases wb.mp r3;refine wpAny_truthy_bool ?_;dsimp only at e;cases k with
 | false=>cases e;exact ite_ff (R3.pb.go (l1.trans (l2.trans l3)))
 | true =>
  obtain ⟨⟨z,h4⟩,e4,e⟩:=bind_some e;refine ite_tt (chain_last (thn (S.E G c R3 ((F.go l1).go (l2.trans l3)) e4) fun t s4 ⟨M4,l4,R4,r4⟩=>?_));obtain ⟨q5,q6⟩:=fK (A:=X.A) (E:=NE) G.rm R4 (r2.go (l3.trans l4)) r4 e;rw [q5];exact thn q6 fun _ _ q=>q.go (l1.trans (l2.trans (l3.trans l4)))
def aN2 (S:Snd v) (G:Good X st d) {op op':CmpOp} {p:Bool×aA} (hm:lastMarks [op,op'] [b,c]=false) (R:Mem X.S κ M h s) (F:Fra X κ M δ) (e:xC2 op op' (v.E st a) (v.E st b) (v.E st c) δ h=some p) {wh:Sem Value}:Wp X.S X.A (isTrue (.Compare a [op,op'] [b,c] pos) X.env wh) (Pt X.S κ M p.2 p.1) NE s:=by
 obtain ⟨x,h1,e1,e⟩:=aG e;obtain ⟨y,h2,e2,e⟩:=aG e;obtain ⟨p1,e3,e⟩:=bind_some e;refine isTrue_chain (thn (S.E G a R F e1) fun u s1 ⟨M1,l1,R1,r1⟩=>test_link (thn (S.E G b R1 (F.go l1) e2) fun v s2 ⟨M2,l2,R2,r2⟩=>?_)) hm;obtain ⟨q1,q2⟩:=fK (A:=X.A) (E:=NE) G.rm R2 (r1.go l2) r2 e3;obtain ⟨k,h3⟩:=p1;cases q1;refine thn q2 fun k' s3 ⟨M3,l3,R3,r3⟩=>?_;cases wb.mp r3;refine wpAny_truthy_bool ?_;dsimp only at e;cases k with
 | false=>cases e;exact ite_ff ⟨rfl,M3,l1.trans (l2.trans l3),R3⟩
 | true =>
  obtain ⟨⟨z,h4⟩,e4,e⟩:=bind_some e;refine ite_tt (test_last (thn (S.E G c R3 ((F.go l1).go (l2.trans l3)) e4) fun t s4 ⟨M4,l4,R4,r4⟩=>?_));obtain ⟨q5,q6⟩:=fK (A:=X.A) (E:=NE) G.rm R4 (r2.go (l3.trans l4)) r4 e;refine thn q6 fun k2 s5 ⟨M5,l5,R5,r5⟩=>?_;cases wb.mp r5;rw [q5];exact wpAny_truthy_bool ⟨rfl,M5,l1.trans (l2.trans (l3.trans (l4.trans l5))),R5⟩
def jN (S:Snd v) (G:Good X st d) {ops:List CmpOp} {cs:List Expr}:SE X (.Compare a ops cs pos) (cN (eU v st a ops cs)):=by
 intro κ M δ h s w h' R F e;obtain ⟨p,e2,ew⟩:=map_some (show (eU v st a ops cs δ h).map asW=_ from e);cases ew;clear e;have e:=e2;clear e2;rcases ops with _ | ⟨op,_ | ⟨op',_ | ⟨_,_⟩⟩⟩
 ·cases e
 ·rcases cs with _ | ⟨b,_ | ⟨_,_⟩⟩
  ·cases e
  ·obtain ⟨q1,q2⟩:=c_one S G R F e;exact wpAny_Compare1 q2 q1
  ·cases e
 ·rcases cs with _ | ⟨b,_ | ⟨c,_ | ⟨_,_⟩⟩⟩
  ·cases e
  ·cases e
  ·have e:(if lastMarks [op,op'] [b,c]=true then xno else xC2 op op' (v.E st a) (v.E st b) (v.E st c)) δ h=some _:=e
   by_cases hm:lastMarks [op,op'] [b,c]=true
   ·rw [if_pos hm] at e;cases e
   ·rw [if_neg hm] at e;exact aN1 S G (by simpa using hm) R F e
  ·cases e
 ·cases e
def bA9 (S:Snd v) (G:Good X st d) {ops:List CmpOp} {cs:List Expr}:ST X (.Compare a ops cs pos) (eU v st a ops cs):=by
 intro κ M δ h s w h' R F e;rcases ops with _ | ⟨op,_ | ⟨op',_ | ⟨_,_⟩⟩⟩
 ·cases e
 ·rcases cs with _ | ⟨b,_ | ⟨_,_⟩⟩
  ·cases e
  ·obtain ⟨q1,q2⟩:=c_one S G R F e;refine wpAny_isTrue_Compare1 (thn q2 fun u s1 q=>thn q fun v s2 q=>thn q fun k s3 ⟨M3,l3,R3,r3⟩=>?_) q1;cases wb.mp r3;exact wpAny_truthy_bool ⟨rfl,M3,l3,R3⟩
  ·cases e
 ·rcases cs with _ | ⟨b,_ | ⟨c,_ | ⟨_,_⟩⟩⟩
  ·cases e
  ·cases e
  ·have e:(if lastMarks [op,op'] [b,c]=true then xno else xC2 op op' (v.E st a) (v.E st b) (v.E st c)) δ h=some _:=e
   by_cases hm:lastMarks [op,op'] [b,c]=true
   ·rw [if_pos hm] at e;cases e
   ·rw [if_neg hm] at e;exact aN2 S G (by simpa using hm) R F e
  ·cases e
 ·cases e
def aZ (e:Expr) (hs:aH e=true):starEach (e::es) X.env=(false,eval e X.env)::starEach es X.env:=by
 cases e<;>first | rfl | cases hs
theorem bP (S:Snd v) (G:Good X st d):∀ es,SA X es (aQ v st es)
 | []=>fun pos _ _ _ _ _ _ _ R F e=>by cases e;exact Calls.spliced_nil ⟨_,.refl,R,.nil⟩
 | a::es=>by
  intro pos κ M δ h s ws h' R F e;have e:(if aH a=true then xb (v.E st a) fun w=>xb (aQ v st es) fun ws=>aD (w::ws) else xno) δ h=some (ws,h'):=e
  by_cases hs:aH a=true
  ·rw [if_pos hs] at e;obtain ⟨x,h1,e1,e⟩:=aG e;obtain ⟨y,h2,e2,e⟩:=aG e;cases e;rw [aZ a hs];show Wp _ _ (spliced ((false,eval a X.env)::backTo pos (starEach es X.env))) _ _ s;refine Calls.spliced_cons (thn (S.E G a R F e1) fun u s1 ⟨M1,l1,R1,r1⟩=>?_);exact thn (bP S G es pos R1 (F.go l1) e2) fun us s2 ⟨M2,l2,R2,r2⟩=>⟨M2,l1.trans l2,R2,.cons (r1.go l2) r2⟩
  ·rw [if_neg hs] at e;cases e
theorem dU {v:Evs} {st:Sta}:∀ {es:List Expr} {δ:DSt} {h:aA} {r:List W×aA},aQ v st es δ h=some r->es.all aH=true
 | [],_,_,_,_=>rfl
 | a::es,δ,h,r,e=>by
  have e:(if aH a=true then xb (v.E st a) fun w=>xb (aQ v st es) fun ws=>aD (w::ws) else xno) δ h=some r:=e
  by_cases hs:aH a=true
  ·rw [if_pos hs] at e;obtain ⟨x,h1,e1,e⟩:=aG e;obtain ⟨y,h2,e2,e⟩:=aG e;rw [List.all_cons,hs,dU e2];rfl
  ·rw [if_neg hs] at e;cases e
theorem bD (pos:Pos):∀ (es:List Expr),es.all aH=true->(backTo pos (starEach es X.env)).any (·.1)=false
 | [],_=>rfl
 | e::es,h=>by
  rw [List.all_cons,Bool.and_eq_true] at h;have:=bD pos es h.2;rw [aZ e h.1];show (false||(backTo pos (starEach es X.env)).any (·.1))=false;rw [this];rfl
theorem kX {S:Sx} {M:Mp}:∀ {ws:List W} {xs:List PyData} {us:List Value},fI ws=some xs->RepWs S M ws us->Reps' S M xs us
 | [],_,_,e,h=>by cases e;cases h;exact .nil
 | .d x::ws,_,_,e,h=>by
  unfold fI at e;obtain ⟨ys,q,rfl⟩:=map_some e;cases h with
  | cons a t=>exact .cons a (kX q t)
 | .c _::ws,_,_,e,h=>by cases e
def sZ (S:Snd v) (G:Good X st d) {xs:List PyData} {Q:List Value->Shared->Prop} (R:Mem X.S κ M h s) (F:Fra X κ M δ) (e:xPl (aQ v st es) δ h=some (xs,h'))
  (q:∀ {M1 s1 us},Le M M1->Mem X.S κ M1 h' s1->Reps' X.S M1 xs us->us.length<=sizeLine->Q us s1):Wp X.S X.A (spliced (backTo pos (starEach es X.env))) Q NE s:=by
 obtain ⟨ws,h1,e1,e⟩:=aG e;refine thn (bP S G es pos R F e1) fun us s1 ⟨M1,l1,R1,r1⟩=>?_;split at e
 ·rename_i ys ey;obtain ⟨hl,e⟩:=aF e;cases e;have r:=kX ey r1;exact q l1 R1 r (by rw [<- r.length];exact hl)
 ·cases e
def bB0 (S:Snd v) (G:Good X st d) {k}:SE X (.Tuple es k pos) (xb (xPl (aQ v st es)) fun xs=>aD (.d (.tuple xs))):=by
 intro κ M δ h s w h' R F e;obtain ⟨x,h1,e1,e⟩:=aG e;cases e;exact wpAny_Tuple_spliced (sZ S G R F e1 fun l1 R1 r z=>⟨z,(R1.tup (t:=_) r z).go l1⟩)
def rB (S:Snd v) (G:Good X st d):SF X (.List es pos) (xPl (aQ v st es)):=by
 intro κ M δ h s w h' R F e;refine wpAny_List_spliced (sZ S G R F e fun {M1 s1 us} l1 R1 r z=>⟨z,?_⟩);obtain ⟨N,a,b⟩:=R1.lstP (t:=s1.toks) (n:=0) r z;exact ⟨N,l1.trans a,b⟩
theorem xK (S:Snd v) (G:Good X st d):∀ o,SO X o (iW v st o)
 | none=>fun _ _ _ _ _ _ _ R F e=>by cases e;rw [evalPart_none];exact wpAny_pure ⟨.none,_,.refl,R⟩
 | some a=>by
  intro κ M δ h s o h' R F e;obtain ⟨x,h1,e1,e⟩:=aG (show xb (v.E st a) (fun w=>match w with
   | .d (.int i)=>aD (some i)
   | _=>xno) δ h=some (o,h') from e)
  rw [evalPart_some];refine thn (S.E G a R F e1) fun u s1 ⟨M1,l1,R1,r1⟩=>?_;rcases x with (_ | _ | i | _ | _ | _ | _) | _<;>first | cases e;done | skip
  cases e;obtain ⟨t,rfl⟩:=wi.mp r1;exact ⟨.int _ t,M1,l1,R1⟩
def bB1 (S:Snd v) (G:Good X st d) {lo hi:Option Expr} {p2:Pos} {α:Type} {Q:α->Value->Shared->Prop} {k:W->Option Int->Option Int->aA->Option (α×aA)} {r:α×aA} (R:Mem X.S κ M h s) (F:Fra X κ M δ) (e:xb (v.E st a) (fun x=>xb (iW v st lo) fun l=>xb (iW v st hi) fun u=>fun _ h=>k x l u h) δ h=some r)
  (q:∀ {M1 h1 s1 x u vl vu l hh sl},Le M M1->Mem X.S κ M1 h1 s1->RepW X.S M1 x u->s1.heap.IsSliceOf sl vl vu .none->IsPart vl l->IsPart vu hh->k x l hh h1=some r->∃ T id,typeLookup (.type T) "__getitem__"=pure (some (.builtin id))/\s1.TypeIs u T/\Wp X.S X.A (getItem u (.ref sl)) (Q r.1) NE s1) :
  Wp X.S X.A (eval (.Subscript a (.Slice lo hi none p2) pos) X.env) (Q r.1) NE s:=by
 obtain ⟨x,h1,e1,e⟩:=aG e;obtain ⟨l,h2,e2,e⟩:=aG e;obtain ⟨hh,h3,e3,e⟩:=aG e;refine Subscript_ (thn (S.E G a R F e1) fun u s1 ⟨M1,l1,R1,r1⟩=>?_);refine wpAny_Slice (thn (xK S G lo R1 (F.go l1) e2) fun vl s2 ⟨pl,M2,l2,R2⟩=>thn (xK S G hi R2 ((F.go l1).go l2) e3) fun vu s3 ⟨pu,M3,l3,R3⟩=>?_);rw [evalPart_none];refine wpAny_pure ?_;have R4:Mem X.S κ M3 h3 { s3 with heap:=s3.heap.push { cls:=.type "slice",data:=.fields #[vl,vu,.none] } }:=R3.kept (t:=s3.toks) fun b ob q=>Heap.get?_push_of_some _ q;obtain ⟨T,id,hT,ht,hg⟩:=q (l1.trans (l2.trans l3)) R4 (r1.go (l2.trans l3)) (Heap.IsSliceOf.new ..) pl pu e;show Wp X.S X.A (subscriptTail a (.Slice lo hi none p2) u (.ref s3.heap.objs.size)) _ _ { s3 with heap:=s3.heap.push { cls:=.type "slice",data:=.fields #[vl,vu,.none] } };exact tail_any (ops:=[.ref s3.heap.objs.size,u]) ht hT hg (by with_unfolding_all rfl)
end
end DL

namespace DL
open PySem PySem.Spec PyProof.Rows L2 CI
structure Turn (S:Sx) (tg:Expr) (all:List PyData) (c:Cw) (M0:Mp) (fp:List Addr) (it:Addr) (tn:Nat->Heap->Prop):Prop where
 keep:∀ i h h',tn i h->(∀ b∈fp,∀ o,h.get? b=some o->h'.get? b=some o)->tn i h'
 obj:∀ i h,tn i h->∀ b∈fp,∃ o,h.get? b=some o
 item:∀ {A:Around} {κ:Kp} {M:Mp} {h:aA} {s:Shared} {E:Value->Shared->Prop} {i:Nat} {x:PyData},A.handled=none->Mem S κ M h s->Le M0 M->(∀ b∈fp,bH κ M b)->tn i s.heap->all[i]?=some x->condB c all h=true ->
  Wp S A (pyNext (.ref it)) (fun r s1=>∃ u,r=some u/\Wp S A (letOwnedTupleGo tg (.ref it) u) (fun _ s2=>∃ M',Le M M'/\Mem S κ M' h s2/\Rep S M'.Z x u/\tn (i+1) s2.heap/\∀ b∈fp,bH κ M' b) E s1) E s
 done:∀ {A:Around} {κ:Kp} {M:Mp} {h:aA} {s:Shared} {E:Value->Shared->Prop} {i:Nat},A.handled=none->Mem S κ M h s->Le M0 M->(∀ b∈fp,bH κ M b)->tn i s.heap->all.length<=i->condB c all h=true ->
  Wp S A (pyNext (.ref it)) (fun r s1=>r=none/\Mem S κ M h s1) E s
 self:∀ (A:Around) (i:Nat) (s:Shared) (Q:Value->Shared->Prop) (E:Value->Shared->Prop),tn i s.heap->Q (.ref it) s->Wp S A (pyIter (.ref it)) Q E s
def Pi (S:Sx) (κ:Kp) (M:Mp) (h:aA) (tg:Expr) (p:List PyData×Cw) (u:Value) (s:Shared):Prop :=
 ∃ M' it fp tn,Le M M'/\Mem S κ M' h s/\u=.ref it/\Turn S tg p.1 p.2 M' fp it tn/\tn 0 s.heap/\(∀ b∈fp,bH κ M' b)/\p.1.length<=sizeLine
def SI (X:Cx) (tg iter:Expr) (f:XR (List PyData×Cw)):Prop:=∀ ⦃κ M δ h s p h'⦄,Mem X.S κ M h s->Fra X κ M δ->f δ h=some (p,h')->Wp X.S X.A (eval iter X.env) (fun v s1=>Wp X.S X.A (pyIter v) (Pi X.S κ M h' tg p) NE s1) NE s
def xL {M:Model} {A:Around} {E:Value->Shared->Prop} {s:Shared} {tg:Expr} {it:Addr} {u:Value} {o:Obj} {n:String} {vs:Array Value} {Q:Unit->Shared->Prop} (ho:s.heap.get? it=some o) (hc:o.cls=.type n) (hd:o.data=.fields vs)
  (hn:["enumerate","zip","dict_itemiterator","dict_reverseitemiterator","odict_iterator","itertools.zip_longest","itertools.pairwise"].contains n=false) (hQ:Q () s):wpAny M A (letOwnedTupleGo tg (.ref it) u) Q E s:=by
 unfold letOwnedTupleGo;cases tg<;>first
  | exact wpAny_pure hQ
  | (cases u<;>first
    | exact wpAny_pure hQ
    | (refine wpAny_bind (wpAny_load ho ?_)
       rw [hc,hd];show wpAny M A (if (["enumerate","zip","dict_itemiterator","dict_reverseitemiterator","odict_iterator","itertools.zip_longest","itertools.pairwise"].contains n&&vs[0]?==some (rawInt _))=true then _ else _) Q E s;rw [if_neg (by intro h;rw [hn,Bool.false_and] at h;cases h)];exact wpAny_pure hQ))
mutual
theorem aN3:∀ {a b:PyData},peq a b=true->a=b
 | .none,b,h=>by cases b<;>first | rfl | cases h
 | .bool x,b,h=>by cases b<;>first | cases h;done | (rw [eq_of_beq (show (x==_)=true from h)])
 | .int x,b,h=>by cases b<;>first | cases h;done | (rw [eq_of_beq (show (x==_)=true from h)])
 | .str x,b,h=>by cases b<;>first | cases h;done | (rw [eq_of_beq (show (x==_)=true from h)])
 | .list x,b,h=>by cases b<;>first | cases h;done | (rw [peqs_eq (show peqs x _=true from h)])
 | .tuple x,b,h=>by cases b<;>first | cases h;done | (rw [peqs_eq (show peqs x _=true from h)])
 | .dict x,b,h=>by cases b<;>cases h
theorem peqs_eq:∀ {a b:List PyData},peqs a b=true->a=b
 | [],b,h=>by cases b<;>first | rfl | cases h
 | x::a,b,h=>by
  cases b with
  | nil=>cases h
  | cons y b=>replace h:(peq _ y&&peqs _ b)=true:=h;rw [Bool.and_eq_true] at h;rw [aN3 h.1,peqs_eq h.2]
end
section
variable {S:Sx} {κ:Kp} {M M0:Mp} {h:aA} {s:Shared} {A:Around} {E:Value->Shared->Prop} {tg:Expr} {all:List PyData} {c:Cw} {a it:Addr} {us:List Value} {n:Nat}
def Mem.turn {h2:Heap} {t:Nat} {fp:List Addr} (R:Mem S κ M h s) (hf:∀ b∈fp,bH κ M b) (k:∀ b o,b∉fp->s.heap.get? b=some o->h2.get? b=some o):Mem S κ M h { s with heap:=h2,toks:=t } :=
 R.keep (fun b o e nf=>k b o (fun z=>nf (hf b z)) e) R.bare rfl
def xM {hc:c=none->∃ us n,M0.Z a=some (bX us n)/\us.length<=sizeLine/\Reps' S M0 all us} {hi:∀ q,c=some q->q.2=false/\∃ p,M0.m[q.1]?=some p/\p.1=a} (R:Mem S κ M h s) (l:Le M0 M) (co:condB c all h=true) :
  ∃ us n,s.heap.get? a=some (bX us n)/\us.length<=sizeLine/\Reps' S M all us:=by
 cases c with
 | none =>
  obtain ⟨us,n,e,z,r⟩:=hc rfl;exact ⟨us,n,R.z _ _ (l.z _ _ e),z,r.go l⟩
 | some q =>
  obtain ⟨i,q2⟩:=q;obtain ⟨h0,p,e,rfl⟩:=hi _ rfl;cases (show q2=false from h0);have co:(match h[i]? with
   | some (.l ys)=>peqs ys all
   | _=>false)=true:=co
  split at co
  ·rename_i ys ey;rw [<- peqs_eq co];obtain ⟨us,n,e1,e2,e3⟩:=R.cel i p _ (l.at e) ey;exact ⟨us,n,e1,e2,e3⟩
  ·cases co
def mK (hc:c=none->∃ us n,M0.Z a=some (bX us n)/\us.length<=sizeLine/\Reps' S M0 all us) (hi:∀ q,c=some q->q.2=false/\∃ p,M0.m[q.1]?=some p/\p.1=a):Turn S tg all c M0 [it] it (fun i h=>h.IsListIter it a i) where
 keep:=fun i h h' st k=>st.at fun o e=>k it (by simp) o e
 obj:=fun i h st b hb=>by
  rw [List.mem_singleton.mp hb];obtain ⟨o,e,_⟩:=st;exact ⟨o,e⟩
 item:=by
  intro A κ M h s E i x hd R l hf st hx co;obtain ⟨us,n,ho,hz,rr⟩:=xM (hc:=hc) (hi:=hi) R l co;obtain ⟨u,hu,ru⟩:=kH rr hx;refine wpAny_pyNext_list_item st (cA ho).isList (x:=u) (by simpa using hu) fun h' st' sb=>?_;have R1:Mem S κ M h { s with heap:=h' }:=R.turn (t:=s.toks) hf fun b o hb e=>(sb.2 b fun z=>hb (by simp [z])).trans e;obtain ⟨o,e,c,d⟩:=id st';exact ⟨u,rfl,xL (s:={ s with heap:=h' }) e c d (by decide) ⟨M,.refl,R1,ru,st',hf⟩⟩
 done:=by
  intro A κ M h s E i hd R l hf st hx co;obtain ⟨us,n,ho,hz,rr⟩:=xM (hc:=hc) (hi:=hi) R l co;have hl:=rr.length;exact wpAny_pyNext_list_end hd st (cA ho).isList (by simp;omega) fun h' eb=>⟨rfl,R.turn (t:=s.toks) hf fun b o hb e=>eb b o (fun z=>hb (by simp [z])) e⟩
 self:=fun _ _ _ _ _ st h=>wpAny_pyIter_listiter st h
def rC (e0:M0.Z a=some { cls:=.type "tuple",data:=.seq us.toArray n }) (r0:Reps' S M0 all us):Turn S tg all none M0 [it] it (fun i h=>h.IsTupleIter it a i) where
 keep:=fun i h h' st k=>st.at fun o e=>k it (by simp) o e
 obj:=fun i h st b hb=>by
  rw [List.mem_singleton.mp hb];obtain ⟨o,e,_⟩:=st;exact ⟨o,e⟩
 item:=by
  intro A κ M h s E i x hd R l hf st hx co;obtain ⟨u,hu,ru⟩:=kH (r0.go l) hx;refine wpAny_pyNext_tuple_item st (show s.heap.IsTuple a us.toArray from eE (R.z _ _ (l.z _ _ e0))) (x:=u) (by simpa using hu) fun h' st' sb=>?_;have R1:Mem S κ M h { s with heap:=h' }:=R.turn (t:=s.toks) hf fun b o hb e=>(sb.2 b fun z=>hb (by simp [z])).trans e;obtain ⟨o,e,c,d⟩:=id st';exact ⟨u,rfl,xL (s:={ s with heap:=h' }) e c d (by decide) ⟨M,.refl,R1,ru,st',hf⟩⟩
 done:=by
  intro A κ M h s E i hd R l hf st hx co;have hl:=r0.length;exact wpAny_pyNext_tuple_end hd st (show s.heap.IsTuple a us.toArray from eE (R.z _ _ (l.z _ _ e0))) (by simp;omega) fun h' eb=>⟨rfl,R.turn (t:=s.toks) hf fun b o hb e=>eb b o (fun z=>hb (by simp [z])) e⟩
 self:=fun _ _ _ _ _ st h=>wpAny_pyIter_tupleiter st h
def rng_get {lo:Int} {n i:Nat} {x:PyData} (e:(rng lo n)[i]?=some x):i < n/\x=.int (lo+i):=by
 unfold rng at e;rw [List.getElem?_map] at e;obtain ⟨j,e1,rfl⟩:=map_some e;obtain ⟨h1,h2⟩:=List.getElem?_eq_some_iff.mp e1;rw [List.getElem_range] at h2;subst h2;exact ⟨by simpa using h1,rfl⟩
def rD {lo:Int}:Turn S tg (rng lo n) none M0 [it] it (fun i h=>IsRangeIter h it (lo+(i:Nat)*1) ((n:Int) - (i:Nat)) 1) where
 keep:=fun i h h' st k=>k it (by simp) _ st
 obj:=fun i h st b hb=>by rw [List.mem_singleton.mp hb];exact ⟨_,st⟩
 item:=by
  intro A κ M h s E i x hd R l hf st hx co;obtain ⟨hi,rfl⟩:=rng_get hx;have W:=Walks.range (prog:=S.P) (w:=S.w) hd it lo 1 n;refine W.item i s _ _ hi st fun v h' tk hv st' kk=>?_;obtain ⟨t,rfl⟩:=hv;have R1:Mem S κ M h { s with heap:=h',toks:=tk }:=R.turn hf fun b o hb e=>kk b o (by simpa using hb) e;refine ⟨_,rfl,xL (s:={ s with heap:=h',toks:=tk }) (n:="range_iterator") st' rfl rfl (by decide) ⟨M,.refl,R1,rep_i.mpr ⟨t,?_⟩,st',hf⟩⟩;rw [Int.mul_one]
 done:=by
  intro A κ M h s E i hd R l hf st hx co;have hx:n<=i:=by simpa [rng] using hx
  exact wpAny_pyNext_range_end hd st (by omega) fun h' eb=>⟨rfl,R.turn (t:=s.toks) hf fun b o hb e=>eb b o (fun z=>hb (by simp [z])) e⟩
 self:=fun _ _ _ _ _ st h=>wpAny_pyIter_rangeiter st h
def Mem.one (R:Mem S κ M h s):∀ b∈[s.heap.objs.size],bH κ M b:=fun b hb=>by rw [List.mem_singleton.mp hb];exact R.size
def pN {lo hi:Int} {t u v:Tok} {tk:Nat} (R:Mem S κ M h s) (h1:-(2^62)<=lo) (h2:lo < 2^62) (h3:-(2^62)<=hi) (h4:hi < 2^62) (h5:hi - lo<=16000000) :
  Wp S A (pyIter (.ref s.heap.objs.size)) (Pi S κ M h tg (rng lo (hi - lo).toNat,none)) E { s with heap:=s.heap.push { cls:=.type "range",data:=.fields #[.int lo t,.int hi u,.int 1 v] },toks:=tk }:=by
 refine wpAny_pyIter_range (IsRange.new ..) (small_one h1 h2 h3 h4) ?_;have R1:Mem S κ M h { s with heap:=s.heap.push { cls:=.type "range",data:=.fields #[.int lo t,.int hi u,.int 1 v] },toks:=tk }:=R.kept fun b o e=>Heap.get?_push_of_some _ e;refine ⟨M,_,[(s.heap.push { cls:=.type "range",data:=.fields #[.int lo t,.int hi u,.int 1 v] }).objs.size],_,.refl,R1.kept (t:=tk) fun b o e=>Heap.get?_push_of_some _ e,rfl,rD,?_,R1.one,?_⟩
 case refine_2=>show (rng lo (hi - lo).toNat).length<=sizeLine;unfold rng;rw [List.length_map,List.length_range,sizeLine_eq];omega
 have e1:lo+((0:Nat):Int)*1=lo:=by simp
 have e2:(((hi - lo).toNat:Nat):Int) - ((0:Nat):Int)=Builtin.Range.rangeSize lo hi 1:=by rw [rangeSize_one];split<;>omega
 show IsRangeIter _ _ (lo+((0:Nat):Int)*1) ((((hi - lo).toNat:Nat):Int) - ((0:Nat):Int)) 1;rw [e1,e2];exact Heap.get?_push_size _ rfl
end
section
variable {X:Cx} {st:Sta} {d:Nat} {v:Evs} {a b tg iter:Expr} {κ:Kp} {M:Mp} {δ:DSt} {h h':aA} {s:Shared} {E:Value->Shared->Prop} {pos p:Pos}
def Pi.go {S:Sx} {M M':Mp} {q:List PyData×Cw} {u:Value} (l:Le M M') (x:Pi S κ M' h tg q u s):Pi S κ M h tg q u s:=let ⟨N,it,fp,tn,a,b⟩:=x;⟨N,it,fp,tn,l.trans a,b⟩
def rE (S:Snd v) (G:Good X st d):SI X tg iter (bK (v.E st iter)):=by
 intro κ M δ h s p h' R F e;obtain ⟨x,h1,e1,e⟩:=aG e;refine thn (S.E G iter R F e1) fun u s1 ⟨M1,l1,R1,r1⟩=>?_;rcases x with (_ | _ | _ | _ | xs | xs | _) | i<;>first | cases e;done | skip
 ·cases e;obtain ⟨a,us,n,rfl,z,⟨⟨n,rfl⟩,hz⟩,rr⟩:=rep_l.mp (show Rep X.S M1.Z (.list _) u from r1);exact wpAny_pyIter_list (cA (R1.z _ _ z)).isList (Pi.go l1 ⟨M1,_,[s1.heap.objs.size],_,.refl,R1.kept (t:=s1.toks) fun b o e=>Heap.get?_push_of_some _ e,rfl,mK (fun _=>⟨_,_,z,hz,rr⟩) (fun i z=>nomatch z),⟨_,Heap.get?_push_size _ rfl,rfl,rfl⟩,R1.one,by rw [rr.length];exact hz⟩)
 ·cases e;obtain ⟨a,us,n,rfl,z,hz,rr⟩:=eW R1 r1 rfl;exact wpAny_pyIter_tuple (show s1.heap.IsTuple a us.toArray from eE (R1.z _ _ z)) (Pi.go l1 ⟨M1,_,[s1.heap.objs.size],_,.refl,R1.kept (t:=s1.toks) fun b o e=>Heap.get?_push_of_some _ e,rfl,rC z rr,⟨_,Heap.get?_push_size _ rfl,rfl,rfl⟩,R1.one,by rw [rr.length];exact hz⟩)
 ·dsimp only at e;split at e
  ·rename_i xs ei;cases e;obtain ⟨p,ep,rfl⟩:=r1;obtain ⟨us,n,ho,hz,rr⟩:=R1.cel i p _ ep ei;exact wpAny_pyIter_list (cA ho).isList (Pi.go l1 ⟨M1,_,[s1.heap.objs.size],_,.refl,R1.kept (t:=s1.toks) fun b o e=>Heap.get?_push_of_some _ e,rfl,mK (fun z=>nomatch z) (fun j z=>by cases z;exact ⟨rfl,p,ep,rfl⟩),⟨_,Heap.get?_push_size _ rfl,rfl,rfl⟩,R1.one,by rw [rr.length];exact hz⟩)
  ·cases e
def aJ2 {i j:Int} (h:fY i j=true):j - i<=16000000/\-(2^62)<=i/\i < 2^62/\-(2^62)<=j/\j < 2^62:=by
 unfold fY at h
 simpa only [Bool.and_eq_true,decide_eq_true_eq] using h
def cY (G:Good X st d) {x:Str} (hx:(cE st x&&(slot st x).isNone&&st.bl.contains x)=true):aW x=true/\Gl X x/\X.S.mg x=none:=by
 rw [Bool.and_eq_true,Bool.and_eq_true] at hx;obtain ⟨h1,h2⟩:=kW G hx.1.1;exact ⟨h1,h2,G.bl _ hx.2⟩
theorem aN4 (S:Snd v) (G:Good X st d) (hx:(cE st "range"&&(slot st "range").isNone&&st.bl.contains "range")=true) (hs:aH a=true):SI X tg (.Call (.Name "range" p) [a] [] pos) (xb (v.E st a) fun w=>fun _ h=>(match w with
   | .d (.int j)=>if fY 0 j=true then some ((rng 0 j.toNat,none),h) else none
   | _=>none)):=by
 intro κ M δ h s q h' R F e;obtain ⟨h1,h2,h3⟩:=cY G hx;obtain ⟨x,hh,e1,e⟩:=aG e;have ea:aQ v st [a] δ h=some ([x],hh):=by unfold aQ;rw [if_pos hs];unfold aQ xb aD;rw [e1];rfl
 have es:=aZ (X:=X) (es:=[]) a hs;refine Call_ (cX F R h2 h3 boot_range h1 (PyProof.Rows.callWith_type1 (thn (bP S G [a] pos R F ea) fun us s1 ⟨M1,l1,R1,r0⟩=>?_) es rfl));obtain ⟨u,rfl,r1⟩:=w1 r0;split at e
 ·obtain ⟨hb,e⟩:=aF e;cases e;obtain ⟨t,rfl⟩:=wi.mp r1;obtain ⟨b1,b2,b3,b4,b5⟩:=aJ2 hb;refine call_range_1 (thn (pN (tg:=tg) R1 b2 b3 b4 b5 b1) fun _ _ q=>Pi.go l1 ?_);rw [Int.sub_zero] at q;exact q
 ·cases e
theorem aN5 (S:Snd v) (G:Good X st d) (hx:(cE st "range"&&(slot st "range").isNone&&st.bl.contains "range")=true) (hs:aH a=true) (hs2:aH b=true):SI X tg (.Call (.Name "range" p) [a,b] [] pos) (xb (v.E st a) fun u=>xb (v.E st b) fun w=>fun _ h=>(match u,w with
   | .d (.int i),.d (.int j)=>if fY i j=true then some ((rng i (j - i).toNat,none),h) else none
   | _,_=>none)):=by
 intro κ M δ h s q h' R F e;obtain ⟨h1,h2,h3⟩:=cY G hx;obtain ⟨x,hh,e1,e⟩:=aG e;obtain ⟨y,hh2,e2,e⟩:=aG e;have ea:aQ v st [a,b] δ h=some ([x,y],hh2):=by unfold aQ;rw [if_pos hs];unfold xb;rw [e1];unfold aQ;dsimp only [Option.bind];rw [if_pos hs2];unfold aQ xb aD;dsimp only;rw [e2];rfl
 refine Call_ (cX F R h2 h3 boot_range h1 (PyProof.Rows.callWith_type1 (thn (bP S G [a,b] pos R F ea) fun us s1 ⟨M1,l1,R1,r0⟩=>?_) (aZ a hs) (by rw [aZ b hs2];rfl)));obtain ⟨u,v,rfl,r1,r2⟩:=w2 r0;split at e
 ·obtain ⟨hb,e⟩:=aF e;cases e;obtain ⟨t,rfl⟩:=wi.mp r1;obtain ⟨t',rfl⟩:=wi.mp r2;obtain ⟨b1,b2,b3,b4,b5⟩:=aJ2 hb;exact call_range_2 (thn (pN R1 b2 b3 b4 b5 b1) fun _ _ q=>Pi.go l1 q)
 ·cases e
noncomputable def eQ (κ:Kp) (fp:List Addr) (hp:Heap):Kp:=fun a=>if a∈fp then (hp.get? a).map fun o=>(true,o) else κ a
noncomputable def unK (fp:List Addr) (κ:Kp):Kp:=fun a=>if a∈fp then none else κ a
def Mem.pin {S:Sx} {fp:List Addr} (R:Mem S κ M h s) (hf:∀ b∈fp,bH κ M b):Mem S (eQ κ fp s.heap) M h s:=by
 refine ⟨R.z,fun a b o e=>?_,R.len,R.ap,fun q hq a ha=>?_,R.cel,R.base,R.bare,R.os⟩
 ·unfold eQ at e;split at e
  ·rename_i hm;obtain ⟨o',e1,e2⟩:=map_some e;cases e2;exact ⟨fun _=>e1,⟨_,e1⟩,(hf a hm).1⟩
  ·exact R.k a b o e
 ·obtain ⟨h1,h2,h3⟩:=R.off q hq a ha;refine ⟨h1,?_,h3⟩;unfold eQ;rw [if_neg fun hm=>by rcases ha with z | z;exact ((hf a hm).2.2 q hq).1 z.symm;exact ((hf a hm).2.2 q hq).2 z.symm];exact h2
def Fra.kp {κ':Kp} (F:Fra X κ M δ) (k:∀ a,aZ9 X a->κ' a=κ a):Fra X κ' M δ :=
 ⟨F.ok,F.len,let ⟨o,m,h1,h2,h3⟩:=F.loc;⟨o,m,by rw [k _ (.inl rfl)];exact h1,h2,fun i x w a b c=>let ⟨u,r,l⟩:=h3 i x w a b c;⟨u,r,l.imp id fun ⟨q,c,o,e1,e2,e3⟩=>⟨q,c,o,e1,by rw [k _ (.inr (.inl ⟨x,e1⟩))];exact e2,e3⟩⟩⟩,fun x c e=>let ⟨o,v,h1,h2⟩:=F.cell x c e;⟨o,v,by rw [k _ (.inr (.inl ⟨x,e⟩))];exact h1,h2⟩,F.frs.kp fun a h=>k a (.inr (.inr h))⟩
def Fra.mine (F:Fra X κ M δ) {a:Addr} (ha:aZ9 X a):κ a≠none:=by
 rcases ha with rfl | ⟨x,e⟩ | ⟨l,env,z1,z2,z3⟩
 ·obtain ⟨o,m,h1,_⟩:=F.loc;rw [h1];exact fun z=>nomatch z
 ·obtain ⟨o,v,h1,_⟩:=F.cell x a e;rw [h1];exact fun z=>nomatch z
 ·obtain ⟨l',y1,y2⟩:=F.frs;rw [z1] at y1;cases y1;obtain ⟨_,L,o,y3,y4,_⟩:=y2 env z2;rw [z3] at y3;cases y3;rw [y4];exact fun z=>nomatch z
def Fra.pin {fp:List Addr} {hp:Heap} (F:Fra X κ M δ) (hf:∀ b∈fp,bH κ M b):Fra X (eQ κ fp hp) M δ:=F.kp fun a ha=>by
 unfold eQ;rw [if_neg fun hm=>F.mine ha (hf a hm).2.1]
def xN {S:Sx} {fp:List Addr} {hp:Heap} {κ2:Kp} {M2:Mp} {h2:aA} {s2:Shared} (F:Fra X κ M δ) (hf:∀ b∈fp,bH κ M b) (ho:∀ b∈fp,∃ o,hp.get? b=some o) (o2:Own X (eQ κ fp hp) κ2) (R2:Mem S κ2 M2 h2 s2) :
  Own X κ (unK fp κ2)/\Mem S (unK fp κ2) M2 h2 s2/\(∀ b∈fp,bH (unK fp κ2) M2 b)/\(∀ b∈fp,∀ o,hp.get? b=some o->s2.heap.get? b=some o)/\∀ δ',Fra X κ2 M2 δ'->Fra X (unK fp κ2) M2 δ':=by
 have same:∀ b∈fp,κ2 b=eQ κ fp hp b:=fun b hb=>by
  by_cases e:κ2 b=eQ κ fp hp b
  ·exact e
  ·refine absurd (hf b hb).2.1 (F.mine ?_);rcases o2 b e with z | z
   ·exact .inl z
   ·exact .inr (.inl z.2)
 have pins:∀ b∈fp,∀ o,hp.get? b=some o->κ2 b=some (true,o):=fun b hb o e=>by rw [same b hb];unfold eQ;rw [if_pos hb,e];rfl
 refine ⟨fun a ha=>?_,R2.less fun a x e=>?_,fun b hb=>?_,fun b hb o e=>?_,fun δ' F'=>F'.kp fun a ha=>?_⟩
 ·have nm:a∉fp:=fun hm=>ha (by unfold unK;rw [if_pos hm,(hf a hm).2.1]);refine o2 a fun e=>ha ?_;unfold unK;rw [if_neg nm,e];unfold eQ;rw [if_neg nm]
 ·unfold unK at e;split at e
  ·cases e
  ·exact e
 ·obtain ⟨o,e⟩:=ho b hb;have k2:=pins b hb o e;exact ⟨(R2.k b _ _ k2).2.2,by unfold unK;rw [if_pos hb],R2.kc k2⟩
 ·exact (R2.k b _ _ (pins b hb o e)).1 rfl
 ·have nm:a∉fp:=fun hm=>F.mine ha (hf a hm).2.1;unfold unK;rw [if_neg nm]
end
end DL

namespace DL
open PySem PySem.Spec PyProof.Rows L2 CI
section
variable {X:Cx} {st:Sta} {d:Nat} {v:Evs} {a b c tg iter:Expr} {κ:Kp} {M:Mp} {δ:DSt} {h h':aA} {s:Shared} {pos:Pos} {body els:List Stmt} {x:Str} {g:XG} {tb:XS}
def Ps.go {κ1:Kp} {M1:Mp} {fl:Fl} {f:Flow} (o:Own X κ κ1) (l:Le M M1) (p:Ps X κ1 M1 h fl f s):Ps X κ M h fl f s:=let ⟨κ2,M2,a,b,q⟩:=p;⟨κ2,M2,o.trans a,l.trans b,q⟩
def quiet (F:Fra X κ M δ):interactive X.env=false:=by simp [interactive,F.ok.kind]
theorem pO (S:Snd v) (G:Good X st d):∀ ss,SSs X ss (xSs v st ss)
 | []=>fun _ _ _ _ _ _ _ R F e=>by cases e;exact wpAny_execs_nil ⟨_,_,.refl,.refl,R,F⟩
 | t::r=>by
  intro κ M δ h s fl h' R F e;obtain ⟨⟨f1,h1⟩,e1,e⟩:=bind_some (show (v.S st t δ h).bind (fun p=>match p.1 with
   | .nx δ'=>xSs v st r δ' p.2
   | f=>some (f,p.2))=some (fl,h') from e)
  refine wpAny_execs_cons (thn (S.S G t R F e1) fun f s1 ⟨κ1,M1,o1,l1,R1,q⟩=>?_);cases f1 with
  | nx δ1 =>
   cases f<;>first | exact q.elim | skip
   exact thn (pO S G r R1 q e) fun _ _ p=>p.go o1 l1
  | rt w=>cases e;cases f<;>first | exact q.elim | exact ⟨κ1,M1,o1,l1,R1,q⟩
  | bk w=>cases e;cases f<;>first | exact q.elim | exact ⟨κ1,M1,o1,l1,R1,q⟩
  | ct w=>cases e;cases f<;>first | exact q.elim | exact ⟨κ1,M1,o1,l1,R1,q⟩
def jU {t:Stmt}:SS X t fun _ _=>none:=fun _ _ _ _ _ _ _ _ _ e=>by cases e
def bB2 {f:XR W} (hf:SE X a f):SS X (.Return (some a) pos) fun δ h=>(f δ h).bind fun p=>some (.rt p.1,p.2):=by
 intro κ M δ h s fl h' R F e;obtain ⟨⟨w,h1⟩,e1,e⟩:=bind_some e;cases e;exact wpAny_Return_some (thn (hf R F e1) fun u s1 ⟨M1,l1,R1,r1⟩=>⟨κ,M1,.refl,l1,R1,r1⟩)
def bR4 (S:Snd v) (G:Good X st d):SS X (.If c body els pos) fun δ h=>(v.T st c δ h).bind fun p=>if p.1=true then xSs v st body δ p.2 else xSs v st els δ p.2:=by
 intro κ M δ h s fl h' R F e;obtain ⟨⟨t,h1⟩,e1,e⟩:=bind_some e;refine wpAny_If (thn (S.T G c R F e1) fun t' s1 ⟨et,M1,l1,R1⟩=>?_);subst et;cases t' with
 | true=>exact thn (pO S G body R1 (F.go l1) e) fun _ _ p=>p.go .refl l1
 | false=>exact thn (pO S G els R1 (F.go l1) e) fun _ _ p=>p.go .refl l1
def aN6 (S:Snd v) (G:Good X st d) (hs:swapsWith a none pos.line X.env=pure false):SS X (.Expr a pos) fun δ h=>(v.E st a δ h).bind fun p=>some (.nx δ,p.2):=by
 intro κ M δ h s fl h' R F e;obtain ⟨⟨w,h1⟩,e1,e⟩:=bind_some e;cases e;exact wpAny_Expr_any (thn (S.E G a R F e1) fun u s1 ⟨M1,l1,R1,r1⟩=>⟨κ,M1,.refl,l1,R1,F.go l1⟩) (quiet F) hs
def tA {α:Type} {l:List α} {i:Nat} {x:α} (e:l[i]?=some x):l.drop i=x::l.drop (i+1):=by
 obtain ⟨hi,rfl⟩:=List.getElem?_eq_some_iff.mp e;exact List.drop_eq_getElem_cons hi
def bB3 {f:XR (List PyData×Cw)} (hd:X.A.handled=none) (hi:SI X tg iter f) (hg:SG X tg g) (hb:SSs X body tb) (hs:∀ x,foldedSetIterable iter X.env x=pure x) :
  SS X (.For tg iter body [] pos) fun δ h=>(f δ h).bind fun p=>bR g tb p.1.2 p.1.1 p.1.1 δ p.2:=by
 intro κ M δ h s fl h' R F e;obtain ⟨⟨⟨all,c⟩,h1⟩,e1,e⟩:=bind_some e;refine wpAny_For (thn (hi R F e1) fun v s1 q1=>thn q1 fun itv s2 q2=>?_) hs;obtain ⟨M2,it,fp,tn,l2,R2,rfl,T,t2,f2,_⟩:=q2;dsimp only at T e;have hp:PassesOwn (model X.S.P X.S.w) X.A X.env NE:=PassesOwn.never;obtain ⟨I,hI⟩:∃ I:Nat->Shared->Prop,I=fun n s'=>∃ i κ' M' δ' hh,n=all.length - i/\i<=all.length/\Own X κ κ'/\Le M2 M'/\Mem X.S κ' M' hh s'/\Fra X κ' M' δ'/\tn i s'.heap/\(∀ b∈fp,bH κ' M' b)/\bR g tb c all (all.drop i) δ' hh=some (fl,h'):=⟨_,rfl⟩;refine codeAny_forLoop_any I ?_ all.length (by rw [hI];exact ⟨0,κ,M2,δ,h1,rfl,Nat.zero_le _,.refl,.refl,R2,F.go l2,t2,f2,e⟩);intro n s3 hn;rw [hI] at hn;obtain ⟨i,κ3,M3,δ3,h3,rfl,hle,o3,l3,R3,F3,t3,f3,e3⟩:=hn;cases q:all[i]? with
 | none =>
  have hl:all.length<=i:=List.getElem?_eq_none_iff.mp q;rw [List.drop_of_length_le hl] at e3;obtain ⟨co,e3⟩:=aF (show (if condB c all h3=true then some (Fl.nx δ3,h3) else none)=some (fl,h') from e3);cases e3;refine wpAny_passesOwn hp (thn (T.done hd R3 l3 f3 t3 hl co) fun r s4 ⟨hr,R4⟩=>?_);subst hr;exact wpAny_execs_nil ⟨κ3,M3,o3,l2.trans l3,R4,F3⟩
 | some x =>
  have hlt:i < all.length:=(List.getElem?_eq_some_iff.mp q).1;rw [tA q] at e3;obtain ⟨co,e3⟩:=aF (show (if condB c all h3=true then (g (.d x) δ3 h3).bind (fun p=>(tb p.1 p.2).bind fun q=>(match q.1 with
    | .nx δ'=>bR g tb c all (all.drop (i+1)) δ' q.2
    | .ct δ'=>bR g tb c all (all.drop (i+1)) δ' q.2
    | .bk δ'=>some (.nx δ',q.2)
    | .rt w=>some (.rt w,q.2))) else none)=some (fl,h') from e3)
  obtain ⟨⟨δ4,h4⟩,e4,e3⟩:=bind_some e3;obtain ⟨⟨f5,h5⟩,e5,e3⟩:=bind_some e3;refine wpAny_passesOwn hp (thn (T.item hd R3 l3 f3 t3 q co) fun r s4 ⟨u,hr,q4⟩=>?_);subst hr;refine wpAny_passesOwn hp (thn q4 fun _ s5 ⟨M5,l5,R5,r5,t5,fr5⟩=>?_);have F5:=F3.go l5;refine wpAny_passesOwn hp (thn (hg (R5.pin fr5) (F5.pin fr5) (show RepW X.S M5 (.d x) u from r5) e4) fun _ s6 ⟨κ6,M6,o6,l6,R6,F6⟩=>?_);refine wpAny_passesOwn hp (thn (hb R6 F6 e5) fun f s7 ⟨κ7,M7,o7,l7,R7,q7⟩=>?_);obtain ⟨u1,u2,u3,u4,u5⟩:=xN F5 fr5 (T.obj _ _ t5) (o6.trans o7) R7;have l37:=l5.trans (l6.trans l7);have again:∀ {δ'},Fra X κ7 M7 δ'->bR g tb c all (all.drop (i+1)) δ' h5=some (fl,h')->∃ m,m < all.length - i/\I m s7:=fun F7 e7 =>
   ⟨all.length - (i+1),by omega,by rw [hI];exact ⟨i+1,_,M7,_,h5,rfl,hlt,o3.trans u1,l3.trans l37,u2,u5 _ F7,T.keep _ _ _ t5 u4,u3,e7⟩⟩
  cases f5 with
  | nx δ5=>cases f<;>first | exact q7.elim | exact again q7 e3
  | ct δ5=>cases f<;>first | exact q7.elim | exact again q7 e3
  | bk δ5=>cases e3;cases f<;>first | exact q7.elim | exact ⟨_,M7,o3.trans u1,l2.trans (l3.trans l37),u2,u5 _ q7⟩
  | rt w=>cases e3;cases f<;>first | exact q7.elim | exact ⟨_,M7,o3.trans u1,l2.trans (l3.trans l37),u2,q7⟩

def aN7 (G:Good X st d) {i:Nat} (hi:slot st x=some i) (hl:(nP st.S x&&(st.top||cO st.S x))=true):SG X (.Name x pos) fun w δ h=>some (δ.set i (some w),h):=by
 intro κ M δ h s w u δ' h' R F r e;cases e;obtain ⟨h1,h2⟩:=xH G hl;exact wpAny_assign_Name (xE F R (kA G hi) h1 h2 r fun s' κ' o R' F' _=>⟨κ',M,o,.refl,R',F'⟩)
def tB (e:Expr) (hs:aH e=true) (es:List Expr):(assignEach (e::es) X.env).map (·.2)=assign e X.env::(assignEach es X.env).map (·.2)/\(assignEach (e::es) X.env).length=(assignEach es X.env).length+1/\((assignEach es X.env).findIdx? (·.1)=none->(assignEach (e::es) X.env).findIdx? (·.1)=none):=by
 have t:assignEach (e::es) X.env=(false,assign e X.env)::assignEach es X.env:=by cases e<;>first | rfl | cases hs
 rw [t];refine ⟨rfl,rfl,fun z=>?_⟩;rw [List.findIdx?_cons,z];rfl
theorem tC:∀ (es:List Expr),es.all aH=true->(assignEach es X.env).length=es.length/\(assignEach es X.env).findIdx? (·.1)=none
 | [],_=>⟨rfl,rfl⟩
 | e::es,h=>by
  rw [List.all_cons,Bool.and_eq_true] at h;obtain ⟨h1,h2⟩:=tC es h.2;obtain ⟨_,h4,h5⟩:=tB (X:=X) e h.1 es;exact ⟨by rw [h4,h1];rfl,h5 h2⟩
theorem xO (S:Snd v) (G:Good X st d):∀ (es:List Expr),es.all aH=true->∀ {κ M δ h s xs us δ' h'},Mem X.S κ M h s->Fra X κ M δ->Reps' X.S M xs us->iV (jL v st es) xs δ h=some (δ',h') ->
  es.length=xs.length/\Wp X.S X.A (assignInOrder ((assignEach es X.env).map (·.2)) us) (fun _ s'=>∃ κ' M',Own X κ κ'/\Le M M'/\Mem X.S κ' M' h' s'/\Fra X κ' M' δ') NE s
 | [],_,κ,M,δ,h,s,xs,us,δ',h',R,F,r,e=>by
  cases xs with
  | nil=>cases e;cases r;exact ⟨rfl,assignInOrder_nil ⟨κ,M,.refl,.refl,R,F⟩⟩
  | cons _ _=>cases e
 | t::es,ha,κ,M,δ,h,s,xs,us,δ',h',R,F,r,e=>by
  rw [List.all_cons,Bool.and_eq_true] at ha;cases xs with
  | nil=>cases e
  | cons x xs =>
   cases r with
   | @cons _ u _ us r1 r2 =>
    obtain ⟨⟨δ1,h1⟩,e1,e⟩:=bind_some (show (v.G st t (.d x) δ h).bind (fun p=>iV (jL v st es) xs p.1 p.2)=some (δ',h') from e);have len:es.length=xs.length:=by
     have go:∀ (es:List Expr) (xs:List PyData) δ h r,iV (jL v st es) xs δ h=some r->es.length=xs.length:=by
      intro es;induction es with
      | nil=>intro xs δ h r e;cases xs with | nil=>rfl | cons _ _=>cases e
      | cons t es ih =>
       intro xs δ h r e;cases xs with
       | nil=>cases e
       | cons x xs =>
        obtain ⟨p,_,e⟩:=bind_some (show (v.G st t (.d x) δ h).bind (fun p=>iV (jL v st es) xs p.1 p.2)=some r from e);rw [List.length_cons,List.length_cons,ih _ _ _ _ e]
     exact go _ _ _ _ _ e
    refine ⟨by rw [List.length_cons,List.length_cons,len],?_⟩;rw [(tB (X:=X) t ha.1 es).1];refine assignInOrder_cons (thn (S.G G t R F (show RepW X.S M (.d x) u from r1) e1) fun _ s1 ⟨κ1,M1,o1,l1,R1,F1⟩=>?_);exact thn (xO S G es ha.2 R1 F1 (Reps'.go l1 r2) e).2 fun _ s2 ⟨κ2,M2,o2,l2,q⟩=>⟨κ2,M2,o1.trans o2,l1.trans l2,q⟩
def bB4 (S:Snd v) (G:Good X st d) {es:List Expr} {k} (ha:es.all aH=true):SG X (.Tuple es k pos) (bU (jL v st es)):=by
 intro κ M δ h s w u δ' h' R F r e;unfold bU at e;split at e
 ·obtain ⟨a,us,n,rfl,z,hz,rr⟩:=eW (h:=h) R r rfl;obtain ⟨h1,h2⟩:=tC (X:=X) es ha;obtain ⟨hl,_⟩:=xO S G es ha R F rr e;refine assign_Tuple_tuple G.rm.hd (eE (R.z _ _ z)) (by rw [h1,hl,rr.length];simp) h2 fun h2 hx=>?_;exact (xO S G es ha (R.kept (t:=s.toks) fun b o e=>hx b o (Nat.ne_of_lt (Heap.lt_size e)) e) F (by simpa using rr) e).2
 ·cases e
def rF (its:List Value) (n j:Nat) (u:Value):Obj.mapSeq (·.setIfInBounds j u) (bX its n)=bX (its.set j u) n:=by simp [Obj.mapSeq]
def Mem.upd {S:Sx} {i:Nat} {p:Addr×Addr} {us us':List Value} {n n' t:Nat} {xs:List PyData} {f:Obj->Obj} (R:Mem S κ M h s) (ei:M.m[i]?=some p) (hl:∃ ys,h[i]?=some (.l ys)) (ho:s.heap.get? p.1=some (bX us n)) (hf:f (bX us n)=bX us' n') (r:Reps' S M xs us') (z:us'.length<=sizeLine) :
  Mem S κ M (h.set i (.l xs)) { s with heap:=s.heap.update p.1 f,toks:=t }:=by
 have e:(s.heap.update p.1 f).get? p.1=some (bX us' n'):=by rw [Heap.get?_update_self f ho (by rw [hf]<;>rfl),hf]
 obtain ⟨_,_,o2,ho2⟩:=R.off p (List.mem_of_getElem? ei) p.2 (.inr rfl);refine R.wr ei (fun b o n1 _ q=>(Heap.get?_update_other _ _ (Ne.symm n1)).trans q) ⟨⟨_,e⟩,?_⟩ R.bare rfl ⟨us',n',e,z,r⟩
 by_cases hq:p.2=p.1
 ·exact ⟨_,by rw [hq];exact e⟩
 ·exact ⟨o2,(Heap.get?_update_other _ _ (Ne.symm hq)).trans ho2⟩
def kY {S:Sx} {Z:Zm} {k:Key} {y x:PyData} {u:Value} (ek:cR y=some k) (rx:Rep S Z x u) {kvs:List (PyData×PyData)} {vs:List (Key×Value)} (r:RepK S Z kvs vs):RepK S Z (nO kvs y x) (stored vs k u):=by
 unfold nO stored;have ea:(kvs.any fun p=>decide (cR p.1=cR y))=vs.any fun kv=>decide (kv.1=k):=by
  rw [ek];induction r with
  | nil=>rfl
  | cons h t ih=>rw [List.any_cons,List.any_cons,ih,h.1];simp
 rw [ea,ek];split
 ·rename_i hq;clear ea hq;induction r with
  | nil=>exact .nil
  | @cons p q ps qs h t ih =>
   rw [List.map_cons,List.map_cons];refine .cons ?_ ih
   by_cases e:q.1=k
   ·rw [if_pos (by rw [h.1,e]),if_pos e];exact ⟨h.1,rx⟩
   ·rw [if_neg (by rw [h.1];exact fun z=>e (Option.some.inj z)),if_neg e];exact h
 ·exact Paired.snoc r ⟨ek,rx⟩
def aN8 {S:Sx} {A:Around} {E:Value->Shared->Prop} {i j:Nat} {p:Addr×Addr} {xs:List PyData} {k:Int} {t:Tok} {x:PyData} {u:Value} {Q:Unit->Shared->Prop} (R:Mem S κ M h s) (ei:M.m[i]?=some p) (eh:h[i]?=some (.l xs)) (ej:ixN xs.length k=some j) (rx:Rep S M.Z x u)
  (q:∀ s',Mem S κ M (h.set i (.l (xs.set j x))) s'->Q () s'):Wp S A (setItem (.ref p.1) (.int k t) u) Q E s:=by
 obtain ⟨us,n,ho,hz,rr⟩:=R.cel i p _ ei eh;have hl:=rr.length;obtain ⟨h1,h2,h3,h4⟩:=nU ej;have hn:=nW;have R':=R.upd (t:=s.toks) ei ⟨_,eh⟩ ho (rF us n j u) (aX8 rx j rr) (by rw [List.length_set];exact hz)
 by_cases h0:0<=k
 ·have hk:k.toNat=j:=by rw [seqIndex_of h0 h4] at h1;exact Option.some.inj h1
  exact PySem.W.ki_setAt ho h0 (by omega) (by rw [List.size_toArray,<- hl];exact h4) (by rw [hk];exact q _ R')
 ·have hk:(k+(us.toArray.size:Int)).toNat=j:=by rw [seqIndex_neg (by omega) h3] at h1;rw [List.size_toArray,<- hl];exact Option.some.inj h1
  exact PySem.W.ki_setBack ho (by omega) (by rw [List.size_toArray,<- hl];exact h3) (by omega) (by rw [hk];exact q _ R')
def aN9 {S:Sx} {A:Around} {E:Value->Shared->Prop} {i:Nat} {p:Addr×Addr} {kvs:List (PyData×PyData)} {y x:PyData} {k:Key} {u uk:Value} {Q:Unit->Shared->Prop} (R:Mem S κ M h s) (ei:M.m[i]?=some p) (eh:h[i]?=some (.k kvs)) (ek:cR y=some k) (hlt:kvs.length < sizeLine) (ry:Rep S M.Z y uk) (rx:Rep S M.Z x u)
  (q:∀ s',Mem S κ M (h.set i (.k (nO kvs y x))) s'->Q () s'):Wp S A (setItem (.ref p.1) uk u) Q E s:=by
 obtain ⟨vs,dd,rk,hd,hz⟩:=R.cel i p _ ei eh;have hl:=rk.length;refine wpAny_setItem_pairs (hsz:=hz) (rA ek ry) dd fun h' dd' hs=>q _ ?_;obtain ⟨o',es',ep',ho',hx'⟩:=id dd';obtain ⟨_,_,o2,ho2⟩:=R.off p (List.mem_of_getElem? ei) p.2 (.inr rfl);refine R.wr ei (fun b o n1 _ q=>(hs.2 b n1).trans q) ⟨⟨_,ho'⟩,?_⟩ R.bare rfl ⟨_,dd',kY ek rx rk,hd,?_⟩
 ·by_cases hq:p.2=p.1
  ·exact ⟨_,by rw [hq];exact ho'⟩
  ·exact ⟨o2,(hs.2 _ hq).trans ho2⟩
 ·have:(nO kvs y x).length<=kvs.length+1:=by
   unfold nO;split
   ·rw [List.length_map];omega
   ·rw [List.length_append];simp
  rw [<- (kY ek rx rk).length];omega
def kZ {S:Sx} {Z:Zm} {y x:PyData} {a:Addr} {u:Value} (hk:hkB 4 y=true) (ry:Rep S Z y (.ref a)) (rx:Rep S Z x u) {kvs:List (PyData×PyData)} {xs:List (HK×Addr×Value)} (r:gH S Z kvs xs):gH S Z (kN kvs y x) (storedH xs ⟨y,hk⟩ a u):=by
 unfold kN storedH;rw [wY hk r];cases q:(atKey xs ⟨y,hk⟩).isSome with
 | false=>exact Paired.snoc r ⟨rfl,ry,rx⟩
 | true =>
  rw [if_pos rfl,if_pos rfl];clear q;unfold gH at r ⊢;induction r with
  | nil=>exact .nil
  | @cons p z _ _ b _ ih =>
   refine .cons ?_ ih;have e:(peq p.1 y=true) ↔ z.1=⟨y,hk⟩:=by
    rw [b.1,(fF z.1.2 hk).2];exact (Subtype.ext_iff (a1:=z.1) (a2:=⟨y,hk⟩)).symm
   unfold putAt;dsimp only
   by_cases c:z.1=⟨y,hk⟩
   ·rw [if_pos (e.mpr c),if_pos c];exact ⟨b.1,b.2.1,rx⟩
   ·rw [if_neg fun z'=>c (e.mp z'),if_neg c];exact b
def aD5 {S:Sx} {A:Around} {E:Value->Shared->Prop} {d i:Nat} {w:W} {p:Addr×Addr} {kvs:List (PyData×PyData)} {y x:PyData} {u uk:Value} {Q:Unit->Shared->Prop} (hr:Room d A) (R:Mem S κ M h s) (ei:M.m[i]?=some p) (eh:h[i]?=some (.n kvs)) (hy:(fH y&&hkB 4 y)=true) (hlt:kvs.length < sizeLine) (ry:Rep S M.Z y uk) (rx:Rep S M.Z x u)
  (q:∀ s',Mem S κ M (h.set i (.n (kN kvs y x))) s'->Q () s'):Wp S A (setItem (.ref p.1) uk u) Q E s:=by
 obtain ⟨j,p',xs,ej,ep,ei2,e3,dd,rr,hs,hz⟩:=wX (x:=.c i) (u:=.ref p.1) R ⟨p,ei,rfl⟩ (by unfold qW;dsimp only;rw [eh]);cases ej;rw [ei] at ep;cases ep;obtain ⟨hk,a,rfl,ik,ra⟩:=nT (x:=.d y) (h:=h) R ry rfl hy;have hl:=rr.length;refine wpAny_setItem_heap hr.nd ik dd (fun h' dd' sb=>q _ ?_) (hsz:=hz);obtain ⟨o',es',ep',ho',hx1,hx2,hx3,_,hx5⟩:=dd';obtain ⟨_,_,o2,ho2⟩:=R.off p (List.mem_of_getElem? ei) p.2 (.inr rfl);have rp:=kZ hk ra rx rr;refine R.wr ei (fun b o n1 _ q=>(sb.2 b n1).trans q) ⟨⟨_,ho'⟩,?_⟩ R.bare rfl ⟨_,⟨o',es',ep',ho',hx1,hx2,hx3,hx5⟩,rp,hs,?_⟩
 ·by_cases hq:p.2=p.1
  ·exact ⟨_,by rw [hq];exact ho'⟩
  ·exact ⟨o2,(sb.2 _ hq).trans ho2⟩
 ·have:(kN kvs y x).length<=kvs.length+1:=by
   unfold kN;split
   ·rw [List.length_map];omega
   ·rw [List.length_append];simp
  rw [<- rp.length];omega
def bB5 (S:Snd v) (G:Good X st d) (ha:∀ v,assign (.Subscript a b pos) X.env v=(do
   let ov <- holding [v] (eval a X.env)
   let iv <- holding [v,ov] (eval b X.env)
   standAt pos
   holding [v,ov,iv] (setItem ov iv v)
   release [v,ov,iv] [])):SG X (.Subscript a b pos) fun w δ h=>(v.E st a δ h).bind fun p=>(v.E st b δ p.2).bind fun q=>(match p.1,q.1,w with
  | .c j,.d y,.d x=>pI j y x δ q.2
  | _,_,_=>none):=by
 intro κ M δ h s w u δ' h' R F r e;obtain ⟨⟨x1,h1⟩,e1,e⟩:=bind_some e;obtain ⟨⟨x2,h2⟩,e2,e⟩:=bind_some e;rw [ha];refine wpAny_bind (wpAny_holding (thn (S.E G a R F e1) fun ov s1 ⟨M1,l1,R1,r1⟩=>?_));refine wpAny_bind (wpAny_holding (thn (S.E G b R1 (F.go l1) e2) fun iv s2 ⟨M2,l2,R2,r2⟩=>?_));refine wpAny_bind (wpAny_standAt (wpAny_bind (wpAny_holding ?_)));have l:=l1.trans l2;have rw':=r.go l;have fin:∀ {hh:aA} {s3:Shared},Mem X.S κ M2 hh s3->Wp X.S X.A (release [u,ov,iv] []) (fun _ s'=>∃ κ' M',Own X κ κ'/\Le M M'/\Mem X.S κ' M' hh s'/\Fra X κ' M' δ) NE s3:=fun R3=>wpAny_release ⟨κ,M2,.refl,l,R3,F.go l⟩;rcases x1 with _ | j
 ·cases e
 rcases x2 with y | _
 case c=>cases e
 rcases w with x | _
 case c=>cases e
 obtain ⟨p,ep,rfl⟩:=r1.go l2;dsimp only at e;unfold pI at e;cases ej:h2[j]? with
 | none=>rw [ej] at e;cases e
 | some c =>
  rw [ej] at e;cases c with
  | l xs =>
   cases y<;>first | cases e;done | skip
   rename_i k;obtain ⟨n,en,e⟩:=map_some e;cases e;obtain ⟨t,rfl⟩:=wi.mp r2;exact aN8 R2 ep ej en rw' fun s3 R3=>fin R3
  | k kvs =>
   obtain ⟨⟨hk,hlt⟩,e⟩:=aF e;cases e;obtain ⟨k,ek⟩:=Option.isSome_iff_exists.mp hk;exact aN9 R2 ep ej ek hlt r2 rw' fun s3 R3=>fin R3
  | n kvs =>
   obtain ⟨⟨hk,hlt⟩,e⟩:=aF e;cases e;exact aD5 (w:=.d .none) G.rm R2 ep ej hk hlt r2 rw' fun s3 R3=>fin R3
  | _=>cases e
end
end DL

namespace DL
open PySem PySem.Spec PyProof.Rows L2 CI
structure CompSc (N N':List Str) (ixs:List (Option Nat)) (S sc:Scope):Prop where
 kind:sc.kind=.function
 nocell:∀ y∈sc.names,y.2≠.cell
 loc:∀ y∈sc.names,y.2=.local->sc.names.lookup y.1=some .local
 free:∀ y∈sc.names,y.2=.free->S.names.lookup y.1=some .cell\/S.names.lookup y.1=some .free
 nd:N'.Nodup
 len:ixs.length=N'.length
 cap:((ixs.zip N').all fun p=>match p.1 with
  | none=>true
  | some i=>decide (N[i]?=some p.2)&&decide (sc.names.lookup p.2=some NameKind.free))=true


def CompSc.at {N N':List Str} {ixs:List (Option Nat)} {S sc:Scope} (h:CompSc N N' ixs S sc) {j i:Nat} {x:Str} (e1:N'[j]?=some x) (e2:ixs[j]?=some (some i)) :
  N[i]?=some x/\sc.names.lookup x=some .free:=by
 have hm:(some i,x)∈ixs.zip N':=by
  refine List.mem_of_getElem? (i:=j) ?_;rw [List.getElem?_zip_eq_some];exact ⟨e2,e1⟩
 have q:=List.all_eq_true.mp h.cap _ hm;simp only [Bool.and_eq_true,decide_eq_true_eq] at q;exact q

theorem fM {env:Env}:∀ (names:List (Str×NameKind)) (acc:List (Str×Addr)),(∀ y∈names,y.2=.free->∃ c,env.cells.lookup y.1=some c) ->
  (∀ x c,acc.lookup x=some c->env.cells.lookup x=some c) ->
  ∃ cl,(∀ x c,cl.lookup x=some c->env.cells.lookup x=some c)/\(∀ y∈names,y.2=.free->∃ c,cl.lookup y.1=some c)/\(∀ x c,acc.lookup x=some c->∃ d,cl.lookup x=some d) /\
   (forIn names acc fun (x:Str×NameKind) (r:List (Str×Addr))=>(if (x.2==NameKind.free)=true then (do let a <- cellOf env x.1;pure (ForInStep.yield ((x.1,a)::r))) else pure (ForInStep.yield r):Sem (ForInStep (List (Str×Addr)))))=(pure cl:Sem (List (Str×Addr)))
 | [],acc,_,ha=>⟨acc,ha,fun _ h=>(nomatch h),fun x c h=>⟨c,h⟩,rfl⟩
 | (n,k)::r,acc,h,ha=>by
  by_cases hk:k=.free
  ·subst hk;obtain ⟨c,hc⟩:=h (n,.free) List.mem_cons_self rfl;obtain ⟨cl,h1,h2,h3,h4⟩:=fM r ((n,c)::acc) (fun y hy=>h y (List.mem_cons_of_mem _ hy)) (fun x d hd=>by
    rw [List.lookup_cons] at hd;cases q:x==n with
    | true =>
     rw [q] at hd;have e1:x=n:=by simpa using q
     have e2:c=d:=Option.some.inj hd;rw [e1,<- e2];exact hc
    | false=>rw [q] at hd;exact ha x d hd)
   refine ⟨cl,h1,fun y hy hf=>?_,fun x d hd=>?_,?_⟩
   ·rcases List.mem_cons.mp hy with e | hy
    ·subst e;exact h3 n c (by simp [List.lookup_cons])
    ·exact h2 y hy hf
   ·cases q:x==n with
    | true =>
     have e1:x=n:=by simpa using q
     subst e1;exact h3 x c (by simp [List.lookup_cons])
    | false=>exact h3 x d (by rw [List.lookup_cons,q];exact hd)
   ·rw [<- h4,List.forIn_cons];have e:cellOf env n=pure c:=by unfold cellOf;rw [hc]
    show ((if (NameKind.free==NameKind.free)=true then (do let a <- cellOf env n;pure (ForInStep.yield ((n,a)::acc))) else pure (ForInStep.yield acc):Sem _) >>= _)=_;rw [if_pos (by decide),e];rfl
  ·obtain ⟨cl,h1,h2,h3,h4⟩:=fM r acc (fun y hy=>h y (List.mem_cons_of_mem _ hy)) ha;refine ⟨cl,h1,fun y hy hf=>?_,h3,?_⟩
   ·rcases List.mem_cons.mp hy with e | hy
    ·subst e;exact absurd hf hk
    ·exact h2 y hy hf
   ·rw [<- h4,List.forIn_cons];have e:(k==NameKind.free)=false:=by simpa using hk
    show ((if (k==NameKind.free)=true then (do let a <- cellOf env n;pure (ForInStep.yield ((n,a)::acc))) else pure (ForInStep.yield acc):Sem _) >>= _)=_;rw [if_neg (by rw [e];exact Bool.false_ne_true)];rfl
def lA {sc:Scope} {env:Env} (h:∀ y∈sc.names,y.2=.free->∃ c,env.cells.lookup y.1=some c) :
  ∃ cl,closureFor sc env=pure cl/\(∀ x c,cl.lookup x=some c->env.cells.lookup x=some c)/\(∀ y∈sc.names,y.2=.free->∃ c,cl.lookup y.1=some c):=by
 obtain ⟨cl,h1,h2,_,h4⟩:=fM (env:=env) sc.names [] h (fun x c e=>by simp at e);refine ⟨cl,?_,h1,h2⟩;unfold closureFor;exact (congrArg (fun m:Sem (List (Str×Addr))=>m >>= fun r=>pure r) h4).trans rfl

theorem dY {env:Env} {x:Str}:∀ {names:List (Str×NameKind)} {k:NameKind},names.lookup x=some k ->
  (names.map fun (n,k)=>if (k==NameKind.free&&env.scope.kind==.function&&env.kindOf n==some .cell) then (n,NameKind.cell) else (n,k)).lookup x
   = some (if (k==NameKind.free&&env.scope.kind==.function&&env.kindOf x==some .cell) then NameKind.cell else k)
 | [],_,h=>by simp at h
 | (n,k0)::r,k,h=>by
  rw [List.lookup_cons] at h;rw [List.map_cons];cases q:x==n with
  | true =>
   have e1:x=n:=by simpa using q
   subst e1;rw [q] at h;have e2:k0=k:=Option.some.inj h;subst e2;dsimp only
   by_cases hc:(k0==NameKind.free&&env.scope.kind==.function&&env.kindOf x==some .cell)=true
   ·rw [if_pos hc,if_pos hc,List.lookup_cons,q]
   ·rw [if_neg hc,if_neg hc,List.lookup_cons,q]
  | false =>
   rw [q] at h;have ih:=dY (env:=env) h;dsimp only
   by_cases hc:(k0==NameKind.free&&env.scope.kind==.function&&env.kindOf n==some .cell)=true
   ·rw [if_pos hc,List.lookup_cons,q];exact ih
   ·rw [if_neg hc,List.lookup_cons,q];exact ih
theorem hO {env:Env} {x:Str}:∀ {names:List (Str×NameKind)},names.lookup x=none ->
  (names.map fun (n,k)=>if (k==NameKind.free&&env.scope.kind==.function&&env.kindOf n==some .cell) then (n,NameKind.cell) else (n,k)).lookup x=none
 | [],_=>rfl
 | (n,k0)::r,h=>by
  rw [List.lookup_cons] at h;rw [List.map_cons];cases q:x==n with
  | true=>rw [q] at h;cases h
  | false =>
   rw [q] at h;have ih:=hO (env:=env) h;dsimp only
   by_cases hc:(k0==NameKind.free&&env.scope.kind==.function&&env.kindOf n==some .cell)=true
   ·rw [if_pos hc,List.lookup_cons,q];exact ih
   ·rw [if_neg hc,List.lookup_cons,q];exact ih

def uO {prog:Program} {w:World} {A:Around} {R:Result->Shared->Prop} {s:Shared} {elt target iter:Expr} {ifs:List Expr} {scope:Scope} {pos:Pos} {it acc:Value} {env:Env} (I:Nat->Shared->Prop)
  (turn:∀ n s,I n s->wpAny (model prog w) A (pyNext it) (fun r s₁=>match r with
   | none=>R (.ok .next) s₁
   | some v=>wpAny (model prog w) A (letOwnedTupleGo target it v) (fun _ t₁=>wpAny (model prog w) A (assign target env v) (fun _ s₂ =>
     wpAny (model prog w) A (forIn ifs true fun c r=>if r=true then do let ok <- isTrue c env (eval c env);pure (ForInStep.yield ok) else pure (ForInStep.yield r)) (fun ok s₃ =>
      if ok=true then wpAny (model prog w) A (eval elt env) (fun x s₄ =>
       wpAny (model prog w) A (call (.builtin "list.append") [acc,x]) (fun _ s₅=>∃ m,m < n/\I m s₅) (fun _ _=>False) s₄) (fun _ _=>False) s₃
      else ∃ m,m < n/\I m s₃) (fun _ _=>False) s₂) (fun _ _=>False) t₁) (fun _ _=>False) s₁) (fun _ _=>False) s)
  (n:Nat) (h:I n s):codeAny (model prog w) A (.compLoop (.ListComp elt [⟨target,iter,ifs,0⟩] scope pos) 0 it acc env) R s:=by
 refine codeAny_loop rfl I (fun n s hI=>?_) n h;show wpAny _ A ((compTurn (.ListComp elt [⟨target,iter,ifs,0⟩] scope pos) 0 it acc env).onRaise (fun x=>do noteFrame x env;theTreesLotGoes x)) _ _ s;refine wpAny_noted (wpAny_noRaise ?_);rw [compTurn_list];refine wpAny_bind (wpAny_standAt (wpAny_bind (thn (turn n s hI) fun r s₁ h₁=>?_)));cases r with
 | none=>exact wpAny_pure h₁
 | some v =>
  refine wpAny_bind (thn h₁ fun _ t₁ h₂=>wpAny_bind (thn h₂ fun _ s₂ h₃=>wpAny_bind (thn h₃ fun ok s₃ h₄=>?_)));cases ok with
  | false=>exact wpAny_pure ⟨rfl,h₄⟩
  | true=>exact wpAny_bind (wpAny_bind (thn h₄ fun x s₄ h₅=>wpAny_bind (thn h₅ fun _ s₅ h₆=>wpAny_pure (wpAny_pure ⟨rfl,h₆⟩))))

def aD6 {ixs:List (Option Nat)} {δ:DSt} {j:Nat} {w:W} (e:(aU ixs δ)[j]?=some (some w)):∃ i,ixs[j]?=some (some i)/\δ[i]?=some (some w):=by
 unfold aU at e;rw [List.getElem?_map] at e;cases h:ixs[j]? with
 | none=>rw [h] at e;cases e
 | some o =>
  rw [h] at e;cases o with
  | none=>cases e
  | some i =>
   refine ⟨i,rfl,?_⟩;have e':(δ[i]?).bind id=some w:=Option.some.inj e;cases q:δ[i]? with
   | none=>rw [q] at e';cases e'
   | some w=>rw [q] at e';exact congrArg some e'
def Pl (S:Sx) (κ:Kp) (M:Mp) (h:aA) (ws:List W) (u:Value) (s:Shared):Prop :=
 ∃ M',Le M M'/\Mem S κ M' h s/\∃ a us n,u=.ref a/\s.heap.get? a=some (bX us n)/\bH κ M' a/\us.length<=sizeLine/\RepWs S M' ws us
def eH (g:XG) (tt:XR Bool) (te:XR W) (c:Cw) (all:List PyData):List PyData->DSt->aA->List W->Option (List W×aA)
 | [],_,h,ac=>if condB c all h=true then some (ac,h) else none
 | x::r,δ,h,ac=>if condB c all h=true then
   (g (.d x) δ h).bind fun p=>(tt p.1 p.2).bind fun q=>if q.1=true then
     (te p.1 q.2).bind fun y=>eH g tt te c all r p.1 y.2 (ac++[y.1])
    else eH g tt te c all r p.1 q.2 ac
  else none
theorem hU {g:XG} {tt:XR Bool} {te:XR W} {c:Cw} {all:List PyData}:∀ {r:List PyData} {δ:DSt} {h:aA} {ac xs:List PyData} {h':aA},aR g tt te c all r δ h ac=some (xs,h')->eH g tt te c all r δ h (ac.map .d)=some (xs.map .d,h')
 | [],δ,h,ac,xs,h',e=>by
  unfold aR at e;obtain ⟨co,e⟩:=aF e;cases e;unfold eH;rw [if_pos co]
 | x::r,δ,h,ac,xs,h',e=>by
  unfold aR at e;obtain ⟨co,e⟩:=aF e;obtain ⟨p,e1,e⟩:=bind_some e;obtain ⟨q,e2,e⟩:=bind_some e;unfold eH;rw [if_pos co,e1];show (tt p.1 p.2).bind _=_;rw [e2];show (if q.1=true then _ else _)=_
  by_cases hq:q.1=true
  ·rw [if_pos hq] at e ⊢;obtain ⟨⟨y,hy⟩,e3,e⟩:=bind_some e;rw [e3];cases y with
   | c i=>cases e
   | d z =>
    have:=hU (show aR g tt te c all r p.1 hy (ac++[z])=_ from e);rw [List.map_append] at this;exact this
  ·rw [if_neg hq] at e ⊢;exact hU e
theorem jA {g:XG} {tt:XR Bool} {te:XR W} {c:Cw} {all:List PyData}:∀ {r:List PyData} {δ:DSt} {h:aA} {ac xs:List Nat} {h':aA},gK g tt te c all r δ h ac=some (xs,h')->eH g tt te c all r δ h (ac.map .c)=some (xs.map .c,h')
 | [],δ,h,ac,xs,h',e=>by
  unfold gK at e;obtain ⟨co,e⟩:=aF e;cases e;unfold eH;rw [if_pos co]
 | x::r,δ,h,ac,xs,h',e=>by
  unfold gK at e;obtain ⟨co,e⟩:=aF e;obtain ⟨p,e1,e⟩:=bind_some e;obtain ⟨q,e2,e⟩:=bind_some e;unfold eH;rw [if_pos co,e1];show (tt p.1 p.2).bind _=_;rw [e2];show (if q.1=true then _ else _)=_
  by_cases hq:q.1=true
  ·rw [if_pos hq] at e ⊢;obtain ⟨⟨y,hy⟩,e3,e⟩:=bind_some e;rw [e3];cases y with
   | d i=>cases e
   | c z =>
    have:=jA (show gK g tt te c all r p.1 hy (ac++[z])=_ from e);rw [List.map_append] at this;exact this
  ·rw [if_neg hq] at e ⊢;exact jA e
noncomputable def blk (X:Cx) (N':List Str) (sc:Scope) (cl:List (Str×Addr)) (C:Addr):Cx:={ X with N:=N',env:=compEnvC sc cl C X.env,fn:=false }
def SIf (X:Cx) (ifs:List Expr) (f:XR Bool):Prop:=∀ ⦃κ M δ h s w h'⦄,Mem X.S κ M h s->Fra X κ M δ->f δ h=some (w,h')->Wp X.S X.A (forIn ifs true fun c r=>if r=true then do let ok <- isTrue c X.env (eval c X.env);pure (ForInStep.yield ok) else pure (ForInStep.yield r)) (Pt X.S κ M h' w) NE s
section
variable {X:Cx} {κ:Kp} {M:Mp} {δ:DSt} {h h':aA} {s:Shared} {N':List Str} {ixs:List (Option Nat)} {sc:Scope} {cl:List (Str×Addr)} {C:Addr} {tg iter elt:Expr} {ifs:List Expr} {pos:Pos} {g:XG} {tt:XR Bool} {te:XR W} {f:XR (List PyData×Cw)}
def uP {κ':Kp} {o:Obj} (F:Fra X κ M δ) (SC:CompSc X.N N' ixs X.env.scope sc) (hcl1:∀ x c,cl.lookup x=some c->X.env.cells.lookup x=some c) (hcl2:∀ y∈sc.names,y.2=.free->∃ c,cl.lookup y.1=some c)
  (k:∀ a,κ a≠none->κ' a=κ a) (hC:κ' C=some (false,o)) (ho:kT o fun _=>none) (hb:X.S.base.objs.size<=C):Fra (blk X N' sc cl C) κ' M (aU ixs δ):=by
 have kfree:∀ {x:Str} {k:NameKind},(relabel sc X.env).names.lookup x=some k->k=.cell\/k=.free->(x,NameKind.free)∈sc.names:=fun {x k} e hk=>by
  cases q:sc.names.lookup x with
  | none =>
   have z:=hO (env:=X.env) q;have z':(relabel sc X.env).names.lookup x=none:=z;rw [e] at z';cases z'
  | some k0 =>
   have z:=dY (env:=X.env) q;have z':(relabel sc X.env).names.lookup x=_:=z;rw [e] at z';have m:=PySem.mem_of_lookup q;have hz:=Option.some.inj z'
   by_cases hc:(k0==NameKind.free&&X.env.scope.kind==.function&&X.env.kindOf x==some .cell)=true
   ·have h0:k0=.free:=by
     simp only [Bool.and_eq_true,beq_iff_eq] at hc;exact hc.1.1
    rw [<- h0];exact m
   ·rw [if_neg hc] at hz;subst hz;rcases hk with hk | hk
    ·exact absurd hk (SC.nocell _ m)
    ·rw [<- hk];exact m
 refine ⟨⟨F.ok.mod,SC.kind,F.ok.glob,F.ok.blt,fun x y c e1 e2=>F.ok.inj x y c (hcl1 x c e1) (hcl1 y c e2),fun x hx=>?_,hb,SC.nd⟩,?_,⟨o,_,hC,ho,fun j x w e1 e2 e3=>?_⟩,fun x c e=>?_,F.frs.kp fun a z=>k a (F.mine (.inr (.inr z)))⟩
 ·rcases hx with hx | hx
  ·exact hcl2 _ (kfree hx (.inl rfl)) rfl
  ·exact hcl2 _ (kfree hx (.inr rfl)) rfl
 ·show (aU ixs δ).length=N'.length;unfold aU;rw [List.length_map];exact SC.len
 ·obtain ⟨i,ei,ev⟩:=aD6 e2;obtain ⟨eN,ef⟩:=SC.at e1 ei;have hm:=PySem.mem_of_lookup ef;have hvis:X.env.scope.names.lookup x=some .cell\/X.env.scope.names.lookup x=some .free:=SC.free _ hm rfl;obtain ⟨_,m,_,_,hl⟩:=F.loc;obtain ⟨u,r,l⟩:=hl i x w eN ev (.inr hvis);refine ⟨u,r,?_⟩;rcases l with ⟨hk,_⟩ | ⟨_,c,oc,ec,eo,ed⟩
  ·have hk':X.env.scope.names.lookup x=some .local:=hk;rcases hvis with z | z
   ·rw [hk'] at z;cases z
   ·rw [hk'] at z;cases z
  ·obtain ⟨c',ec'⟩:=hcl2 _ hm rfl;have e5:=hcl1 _ _ ec';rw [ec] at e5;have e6:c=c':=Option.some.inj e5;subst e6;refine .inr ⟨?_,c,oc,ec',by rw [k c (by rw [eo];exact fun z=>nomatch z)];exact eo,ed⟩;have z:=dY (env:=X.env) ef;have z':(relabel sc X.env).names.lookup x=_:=z
   by_cases hc:(NameKind.free==NameKind.free&&X.env.scope.kind==.function&&X.env.kindOf x==some .cell)=true
   ·rw [if_pos hc] at z';exact .inl z'
   ·rw [if_neg hc] at z';exact .inr z'
 ·obtain ⟨oc,v,e1,e2⟩:=F.cell x c (hcl1 x c e);exact ⟨oc,v,by rw [k c (by rw [e1];exact fun z=>nomatch z)];exact e1,e2⟩
def uQ {S:Sx} {A:Around} {E:Value->Shared->Prop} {a:Addr} {us:List Value} {n:Nat} {u:Value} {Q:Value->Shared->Prop} (R:Mem S κ M h s) (ea:κ a=some (true,bX us n)) (hz:us.length < sizeLine)
  (q:∀ s' n',Mem S (κ.up a (true,bX (us++[u]) n')) M h s'->(∀ b o,b≠a->s.heap.get? b=some o->s'.heap.get? b=some o)->Q .none s'):Wp S A (call (.builtin "list.append") [.ref a,u]) Q E s:=by
 have e:=(R.k a _ _ ea).1 rfl;refine call_meets F.slot_list_append ⟨_,e,rfl⟩ F.entry_list_append (F.args_list_append_2 _ _) (PySem.list_append a us.toArray n u (by rw [List.size_toArray];omega)) ⟨e,?_⟩;have q2:=PySem.IsL.update e (·.push u);have ep:us.toArray.push u=(us++[u]).toArray:=by simp
 rw [ep] at q2;have k:∀ b o,b≠a->s.heap.get? b=some o->(s.heap.update a (Obj.mapSeq (·.push u))).get? b=some o:=fun b o hb e=>(Heap.get?_update_other s.heap _ (Ne.symm hb)).trans e;exact q _ _ (R.own ea k q2 R.bare rfl) k
def pP (hd:X.A.handled=none) (SC:CompSc X.N N' ixs X.env.scope sc) (hcl1:∀ x c,cl.lookup x=some c->X.env.cells.lookup x=some c) (hcl2:∀ y∈sc.names,y.2=.free->∃ c,cl.lookup y.1=some c)
  (hg:∀ cl C,SG (blk X N' sc cl C) tg g) (ht:∀ cl C,SIf (blk X N' sc cl C) ifs tt) (he:∀ cl C,SE (blk X N' sc cl C) elt te) {all:List PyData} {c:Cw} {it:Addr} {fp:List Addr} {tn:Nat->Heap->Prop} {ws:List W} {R':Value->Addr->Result->Shared->Prop}
  (F:Fra X κ M δ) (R:Mem X.S κ M h s) (T:Turn X.S tg all c M fp it tn) (t0:tn 0 s.heap) (f0:∀ b∈fp,bH κ M b) (hz:all.length<=sizeLine) (e:eH g tt te c all all (aU ixs δ) h []=some (ws,h'))
  (hR:∀ {s':Shared} {m:Str->Option Value} {M':Mp} {us:List Value} {n:Nat},Le M M'->Mem X.S κ M' h' s'->s'.heap.get? s.heap.objs.size=some (bX us n)->bH κ M' s.heap.objs.size->bH κ M' (s.heap.objs.size+1)->us.length<=sizeLine->RepWs X.S M' ws us->s'.heap.Ns (s.heap.objs.size+1) m->R' (.ref s.heap.objs.size) (s.heap.objs.size+1) (.ok .next) s') :
  Wp X.S X.A (newList []) (fun acc s₃=>Wp X.S X.A (newFunctionEnv sc X.env.globals cl [] X.env.qual none .none (some X.env)) (fun cenv s₄ =>
   codeAny (model X.S.P X.S.w) X.A (.compStart (.ListComp elt [⟨tg,iter,ifs,0⟩] sc pos) 0 (.ref it) acc { cenv with scope:=relabel sc X.env }) (R' acc cenv.locals) s₄) NE s₃) NE s:=by
 refine wpAny_newObj_type (wpAny_newFunctionEnv SC.nocell (by intro y hy;simp at hy) (fun h₁ hns₁ hsb₁=>?_) SC.kind);dsimp only at hns₁ hsb₁ ⊢;have eC:(s.heap.push { cls:=.type "list",dict:=none,data:=.seq ([]:List Value).toArray }).objs.size=s.heap.objs.size+1:=by rw [Heap.size_push]
 rw [eC] at hns₁ hsb₁ ⊢;obtain ⟨acc,ea⟩:∃ a,a=s.heap.objs.size:=⟨_,rfl⟩;rw [<- ea] at hns₁ hsb₁ hR ⊢;have nAC:acc≠acc+1:=Nat.ne_of_lt (Nat.lt_succ_self _);have old:∀ b o,s.heap.get? b=some o->h₁.get? b=some o:=fun b o e=>hsb₁.extBut b o (by rw [ea];exact Nat.ne_of_lt (Nat.lt_succ_of_lt (Heap.lt_size e))) (Heap.get?_push_of_some _ (Heap.get?_push_of_some _ e));have hacc:h₁.get? acc=some (bX [] 0):=by
  refine hsb₁.extBut _ _ nAC ?_;rw [ea];exact Heap.get?_push_of_some _ (Heap.get?_push_size _ rfl)
 obtain ⟨oC,es,ep,hoC,hd1,hk1,hm1⟩:=id hns₁;have fA:bH κ M acc:=ea ▸ R.size;have fC:bH κ M (acc+1):=R.new (Heap.get?_none_of_le (by rw [ea];exact Nat.le_succ _));have R1:Mem X.S κ M h { s with heap:=h₁,toks:=s.toks+([]:List (Str×Value)).length }:=R.kept old;have R2:=(R1.more (b:=true) ⟨fA.1,fA.2.2⟩ hacc).more (b:=false) ⟨fC.1,fC.2.2⟩ hoC;have hfl:∀ b∈fp,b≠acc/\b≠acc+1:=fun b hb=>by
  obtain ⟨o,q⟩:=T.obj _ _ t0 b hb;have:=Heap.lt_size q;rw [<- ea] at this;exact ⟨Nat.ne_of_lt this,Nat.ne_of_lt (Nat.lt_succ_of_lt this)⟩
 have F2:Fra (blk X N' sc cl (acc+1)) ((κ.up acc (true,bX [] 0)).up (acc+1) (false,oC)) M (aU ixs δ):=uP F SC hcl1 hcl2 (fun a ha=>by
  rw [cD fun z=>ha (by rw [z];exact fC.2.1),cD fun z=>ha (by rw [z];exact fA.2.1)]) gW ⟨es,ep,hd1,hk1,hm1⟩ (by rw [ea];exact Nat.le_succ_of_le (F.size R))
 have f2:∀ b∈fp,bH ((κ.up acc (true,bX [] 0)).up (acc+1) (false,oC)) M b:=fun b hb=>⟨(f0 b hb).1,by rw [cD (hfl b hb).2,cD (hfl b hb).1];exact (f0 b hb).2.1,(f0 b hb).2.2⟩;generalize hY:blk X N' sc cl (acc+1)=Y at F2;have hg':SG Y tg g:=by subst hY;exact hg _ _
 have ht':SIf Y ifs tt:=by subst hY;exact ht _ _
 have he':SE Y elt te:=by subst hY;exact he _ _
 have eS:Y.S=X.S:=by subst hY;rfl
 have eA:Y.A=X.A:=by subst hY;rfl
 have eL:Y.env.locals=acc+1:=by subst hY;rfl
 have eF:Y.fn=false:=by subst hY;rfl
 have loop:∀ s₃:Shared,s₃={ s with heap:=h₁,toks:=s.toks+([]:List (Str×Value)).length } ->
   codeAny (model X.S.P X.S.w) X.A (.compLoop (.ListComp elt [⟨tg,iter,ifs,0⟩] sc pos) 0 (.ref it) (.ref acc) Y.env) (R' (.ref acc) (acc+1)) s₃:=by
  rintro s₃ rfl;clear hY;obtain ⟨I,hI⟩:∃ I:Nat->Shared->Prop,I=fun n s'=>∃ i κ' M' δ' hh us m ac,n=all.length - i/\i<=all.length/\(κ' acc=some (true,bX us m)/\∀ a,a≠acc->a≠acc+1->κ' a=κ a)/\Le M M'/\Mem X.S κ' M' hh s'/\Fra Y κ' M' δ'/\tn i s'.heap/\(∀ b∈fp,bH κ' M' b)/\ac.length<=i/\RepWs X.S M' ac us/\eH g tt te c all (all.drop i) δ' hh ac=some (ws,h'):=⟨_,rfl⟩;refine uO I ?_ all.length (by rw [hI];exact ⟨0,_,M,_,h,[],0,[],rfl,Nat.zero_le _,⟨by rw [cD nAC];exact gW,fun a h1 h2=>by rw [cD h2,cD h1]⟩,.refl,R2,F2,T.keep _ _ _ t0 (fun b _ o e=>old b o e),f2,Nat.le_refl _,.nil,e⟩);intro n s3 hn;rw [hI] at hn;obtain ⟨i,κ3,M3,δ3,h3,us,m,ac,rfl,hle,⟨ka,ko⟩,l3,R3,F3,t3,f3,hac,rac,e3⟩:=hn;have hlen:=rac.length;have back:∀ {κ7 M7 h7 s7},(κ7 acc=some (true,bX us m)/\∀ a,a≠acc->a≠acc+1->κ7 a=κ a)->Mem X.S κ7 M7 h7 s7->Mem X.S κ M7 h7 s7:=fun k R7=>R7.less fun a x q=>by
   rw [k.2 a (fun z=>by rw [z,fA.2.1] at q;cases q) (fun z=>by rw [z,fC.2.1] at q;cases q)];exact q
  cases q:all[i]? with
  | none =>
   have hl:all.length<=i:=List.getElem?_eq_none_iff.mp q;rw [List.drop_of_length_le hl] at e3;obtain ⟨co,e3⟩:=aF (show (if condB c all h3=true then some (ac,h3) else none)=some (ws,h') from e3);cases e3;refine thn (T.done hd R3 l3 f3 t3 hl co) fun r s4 ⟨hr,R4⟩=>?_;subst hr;obtain ⟨mC,hnC,_⟩:=F3.ns (h:=h') (s:=s4) (by rw [eS];exact R4);rw [eL] at hnC;have ho:=(R4.k acc _ _ ka).1 rfl;have za:=(R4.k acc _ _ ka).2.2;obtain ⟨oL,_,kL,_⟩:=F3.loc;rw [eL] at kL;have R5:=back ⟨ka,ko⟩ R4;have fr:bH κ M3 acc:=⟨za,fA.2.1,R4.kc ka⟩;exact hR l3 R5 ho fr ⟨(R4.k _ _ _ kL).2.2,fC.2.1,R4.kc kL⟩ (by omega) rac hnC
  | some x =>
   have hlt:i < all.length:=(List.getElem?_eq_some_iff.mp q).1;rw [tA q] at e3;unfold eH at e3;obtain ⟨co,e3⟩:=aF e3;obtain ⟨⟨δ4,h4⟩,e4,e3⟩:=bind_some e3;obtain ⟨⟨tb,h5⟩,e5,e3⟩:=bind_some e3;refine thn (T.item hd R3 l3 f3 t3 q co) fun r s4 ⟨u,hr,q4⟩=>?_;subst hr;refine thn q4 fun _ s5 ⟨M5,l5,R5,r5,t5,fr5⟩=>?_;have F5:=F3.go l5;rw [<- eS] at R5;have w6:=hg' (R5.pin fr5) (F5.pin fr5) (show RepW Y.S M5 (.d x) u by rw [eS];exact r5) e4;rw [eS,eA] at w6;refine thn w6 fun _ s6 ⟨κ6,M6,o6,l6,R6,F6⟩=>?_;rw [<- eS] at R6;have w7:=ht' R6 F6 e5;rw [eS,eA] at w7;refine thn w7 fun t' s7 ⟨et,M7,l7,R7⟩=>?_;subst et;have notC:∀ a,a≠acc+1->κ6 a=eQ κ3 fp s5.heap a:=fun a ha=>by
    by_cases z:κ6 a=eQ κ3 fp s5.heap a
    ·exact z
    ·rcases o6 a z with y | y
     ·rw [eL] at y;exact absurd y ha
     ·rw [eF] at y;exact absurd y.1 Bool.false_ne_true
   have k6:κ6 acc=some (true,bX us m):=by
    rw [notC acc nAC];unfold eQ;rw [if_neg fun hm=>(hfl acc hm).1 rfl];exact ka
   have kun:∀ κ8:Kp,(∀ a,a≠acc->κ8 a=κ6 a)->∀ a,a≠acc->a≠acc+1->unK fp κ8 a=κ a:=fun κ8 hk a h1 h2=>by
    unfold unK;split
    ·rename_i hm;rw [<- ko a h1 h2];exact (f3 a hm).2.1.symm
    ·rename_i hm;rw [hk a h1,notC a h2];unfold eQ;rw [if_neg hm];exact ko a h1 h2
   cases t' with
   | false =>
    obtain ⟨u1,u2,u3,u4,u5⟩:=xN F5 fr5 (T.obj _ _ t5) o6 R7;exact ⟨all.length - (i+1),by omega,by rw [hI];exact ⟨i+1,_,M7,δ4,h5,us,m,ac,rfl,hlt,⟨by unfold unK;rw [if_neg fun hm=>(hfl acc hm).1 rfl];exact k6,kun κ6 fun _ _=>rfl⟩,l3.trans (l5.trans (l6.trans l7)),u2,u5 _ (F6.go l7),T.keep _ _ _ t5 u4,u3,by omega,rac.go (l5.trans (l6.trans l7)),e3⟩⟩
   | true =>
    obtain ⟨⟨y,h8⟩,e8,e3⟩:=bind_some (show (te δ4 h5).bind (fun y=>eH g tt te c all (all.drop (i+1)) δ4 y.2 (ac++[y.1]))=some (ws,h') from e3);rw [<- eS] at R7;have w8:=he' R7 (F6.go l7) e8;rw [eS,eA] at w8;refine thn w8 fun v s8 ⟨M8,l8,R8,r8⟩=>?_;refine uQ R8 k6 (by omega) fun s9 m9 R9 k9=>?_;have o9:Own Y (eQ κ3 fp s5.heap) κ6:=o6;obtain ⟨_,u2,u3,u4,_⟩:=xN (X:=Y) F5 fr5 (T.obj _ _ t5) o9 R8;have u4':∀ b∈fp,∀ o,s5.heap.get? b=some o->s9.heap.get? b=some o:=fun b hb o e=>k9 b o (hfl b hb).1 (u4 b hb o e);have Rn:Mem X.S (unK fp (κ6.up acc (true,bX (us++[v]) m9))) M8 h8 s9:=R9.less fun a x q=>by
     unfold unK at q;split at q
     ·cases q
     ·exact q
    have fn:∀ b∈fp,bH (unK fp (κ6.up acc (true,bX (us++[v]) m9))) M8 b:=fun b hb=>⟨(u3 b hb).1,by unfold unK;rw [if_pos hb],(u3 b hb).2.2⟩;have Fn:Fra Y (unK fp (κ6.up acc (true,bX (us++[v]) m9))) M8 δ4:=(F6.go (l7.trans l8)).kp fun a ha=>by
     have z:=F5.mine ha;have n1:a∉fp:=fun hm=>z (fr5 a hm).2.1;have n2:a≠acc:=fun hz=>by
      rcases ha with y | ⟨x,y⟩ | ⟨l,env,z1,z2,z3⟩
      ·rw [eL] at y;exact nAC (hz.symm.trans y)
      ·obtain ⟨o,vv,q1,q2⟩:=F3.cell x a y;rw [hz,ka] at q1;cases q1;cases q2
      ·obtain ⟨l',y1,y2⟩:=F3.frs;rw [z1] at y1;cases y1;obtain ⟨_,L,o,y3,y4,_⟩:=y2 env z2;rw [z3] at y3;cases y3;rw [hz,ka] at y4;cases y4
     unfold unK;rw [if_neg n1,cD n2]
    have l:=l3.trans (l5.trans (l6.trans (l7.trans l8)));exact ⟨all.length - (i+1),by omega,by rw [hI];exact ⟨i+1,_,M8,δ4,h8,us++[v],m9,ac++[y],rfl,hlt,⟨by unfold unK;rw [if_neg fun hm=>(hfl acc hm).1 rfl];exact gW,kun _ fun a h1=>cD h1⟩,l,Rn,Fn,T.keep _ _ _ t5 u4',fn,by rw [List.length_append,List.length_singleton];omega,Paired.snoc (rac.go (l5.trans (l6.trans (l7.trans l8)))) r8,e3⟩⟩
 have eEnv:Y.env={ (newEnv sc (acc+1) X.env.globals cl X.env.qual none .none (some X.env) builtinsNs) with scope:=relabel sc X.env }:=by subst hY;rfl
 rw [eEnv] at loop;exact codeAny_compStart_list (loop _ rfl) (T.self X.A 0 _ _ _ (T.keep _ _ _ t0 fun b _ o e=>old b o e) (loop _ rfl))
end
end DL

namespace DL
open PySem PySem.Spec PyProof.Rows L2 CI
section
variable {X:Cx} {st:Sta} {d:Nat} {v:Evs} {κ:Kp} {M:Mp} {δ:DSt} {h h' h2:aA} {s:Shared} {N':List Str} {ixs:List (Option Nat)} {sc:Scope} {a b e tg iter elt:Expr} {es:List Expr} {ifs:List Expr} {pos:Pos} {g:XG} {tt:XR Bool} {te:XR W} {f:XR (List PyData×Cw)} {x:Str} {i:Nat} {w:W}
def Mem.drop {S:Sx} {C:Addr} {h3:Heap} (R:Mem S κ M h s) (f:bH κ M C) (k:Heap.SameBut C s.heap h3):Mem S κ M h { s with heap:=h3 }:=R.keep (fun b o e nf=>(k.2 b fun z=>nf (by rw [z];exact f)).trans e) R.bare rfl
def xP {all:List PyData} {c:Cw} {h1:aA} {ws:List W} (hd:X.A.handled=none) (SC:CompSc X.N N' ixs X.env.scope sc) (hi:SI X tg iter f) (hg:∀ cl C,SG (blk X N' sc cl C) tg g) (ht:∀ cl C,SIf (blk X N' sc cl C) ifs tt) (he:∀ cl C,SE (blk X N' sc cl C) elt te) (hs:∀ x,foldedSetIterable iter X.env x=pure x)
  (R:Mem X.S κ M h s) (F:Fra X κ M δ) (e1:f δ h=some ((all,c),h1)) (e2:eH g tt te c all all (aU ixs δ) h1 []=some (ws,h')):Wp X.S X.A (eval (.ListComp elt [⟨tg,iter,ifs,0⟩] sc pos) X.env) (Pl X.S κ M h' ws) NE s:=by
 obtain ⟨cl,ecl,hcl1,hcl2⟩:=lA (sc:=sc) (env:=X.env) fun y hy hf=>F.ok.has y.1 (SC.free y hy hf);rw [eval_ListComp];refine wpAny_comprehension_free (use:=none) rfl hs ecl SC.kind SC.loc ?_;refine thn (hi R F e1) fun v s1 q1=>thn q1 fun itv s2 q2=>?_;obtain ⟨M2,it,fp,tn,l2,R2,rfl,T,t2,f2,hz⟩:=q2;refine pP (R':=fun acc C=>compPost (model X.S.P X.S.w) X.A NE none (Pl X.S κ M h' ws) acc C) hd SC hcl1 hcl2 hg ht he (F.go l2) R2 T t2 f2 hz e2 fun {s' m M' us n} l R ho fa fc z r hn=>⟨m,hn,fun h3 k3=>?_⟩;exact ⟨M',l2.trans l,R.drop fc k3,_,us,n,rfl,(k3.2 _ (Nat.ne_of_lt (Nat.lt_succ_self _))).trans ho,fa,z,r⟩
def aO0 {all:List PyData} {c:Cw} {h1:aA} {ws:List W} {py spos:Pos} (hd:X.A.handled=none) (SC:CompSc X.N N' ixs X.env.scope sc) (hi:SI X tg iter f) (hg:∀ cl C,SG (blk X N' sc cl C) tg g) (ht:∀ cl C,SIf (blk X N' sc cl C) ifs tt) (he:∀ cl C,SE (blk X N' sc cl C) elt te) (hs:∀ x,foldedSetIterable iter X.env x=pure x)
  (R:Mem X.S κ M h s) (F:Fra X κ M δ) (e1:f δ h=some ((all,c),h1)) (e2:eH g tt te c all all (aU ixs δ) h1 []=some (ws,h')) (cv:∀ {κ:Kp} {M:Mp} {u:Value} {s:Shared},Pl X.S κ M h' ws u s->Pw X.S κ M h2 w u s)
  (hiN:X.N[i]?=some x) (hx:X.env.scope.names.lookup x=some .local) (hsw:swapsWith (.ListComp elt [⟨tg,iter,ifs,0⟩] sc pos) (some (.Name x py)) spos.line X.env=pure true):Wp X.S X.A (exec (.Assign [.Name x py] (.ListComp elt [⟨tg,iter,ifs,0⟩] sc pos) spos) X.env) (Ps X κ M h2 (.nx (δ.set i (some w)))) NE s:=by
 obtain ⟨cl,ecl,hcl1,hcl2⟩:=lA (sc:=sc) (env:=X.env) fun y hy hf=>F.ok.has y.1 (SC.free y hy hf);rw [exec_Assign_Name_used _ _ _ _ hsw];refine wpAny_bind (wpAny_standAt (wpAny_bind ?_));show wpAny _ _ (do let _ <- comprehension (.ListComp elt [⟨tg,iter,ifs,0⟩] sc pos) sc X.env _ (newList []) false (eval iter X.env) (some (assign (.Name x py) X.env))) _ _ s;refine wpAny_bind (thn (wpAny_comprehension_free (use:=some (assign (.Name x py) X.env)) (Q:=fun _ s'=>Ps X κ M h2 (.nx (δ.set i (some w))) .next s') rfl hs ecl SC.kind SC.loc ?_) fun _ s' hq=>wpAny_pure (wpAny_pure hq));refine thn (hi R F e1) fun v s1 q1=>thn q1 fun itv s2 q2=>?_;obtain ⟨M2,it,fp,tn,l2,R2,rfl,T,t2,f2,hz⟩:=q2;refine pP (R':=fun acc C=>compPost (model X.S.P X.S.w) X.A NE (some (assign (.Name x py) X.env)) (fun _ s'=>Ps X κ M h2 (.nx (δ.set i (some w))) .next s') acc C) hd SC hcl1 hcl2 hg ht he (F.go l2) R2 T t2 f2 hz e2 fun {s' m M' us n} l R ho fa fc z r hn=>?_;show wpAny _ _ (assign (.Name x py) X.env (.ref s2.heap.objs.size)) _ _ s';generalize eC:s2.heap.objs.size+1=C at fc hn;have nA:s2.heap.objs.size≠C:=by rw [<- eC];exact Nat.ne_of_lt (Nat.lt_succ_self _)
 obtain ⟨oC,es,ep,hoC,hC⟩:=id hn;have RC:=R.more (b:=true) ⟨fc.1,fc.2.2⟩ hoC;have FC:Fra X (κ.up C (true,oC)) M' δ:=((F.go l2).go l).kp fun a ha=>cD fun z=>F.mine ha (by rw [z];exact fc.2.1);obtain ⟨M3,l3,R3,r3⟩:=cv ⟨M',.refl,RC,_,us,n,rfl,ho,⟨fa.1,by rw [cD nA];exact fa.2.1,fa.2.2⟩,z,r⟩;refine wpAny_assign_Name (xE (FC.go l3) R3 hiN (.inl hx) (.inr hx) r3 fun s4 κ4 o4 R4 F4 _=>?_);have kC:κ4 C=some (true,oC):=by
  by_cases q:κ4 C=κ.up C (true,oC) C
  ·rw [q];exact gW
  ·have own:C=X.env.locals\/∃ x,X.env.cells.lookup x=some C:=by
    rcases o4 C q with y | y
    ·exact .inl y
    ·exact .inr y.2
   exact absurd fc.2.1 (F.mine (own.imp_right .inl))
 have h4:=(R4.k C _ _ kC).1 rfl;refine ⟨m,⟨oC,es,ep,h4,hC⟩,fun h5 k5=>⟨unK [C] κ4,M3,fun a ha=>?_,l2.trans (l.trans l3),?_,F4.kp fun a ha=>?_⟩⟩
 ·have na:a≠C:=fun z=>ha (by unfold unK;rw [if_pos (by simp [z]),z];exact fc.2.1.symm);refine o4 a fun q=>ha ?_;unfold unK;rw [if_neg (by simpa using na),q,cD na]
 ·have R5:Mem X.S (unK [C] κ4) M3 h2 s4:=R4.less fun a x q=>by
   unfold unK at q;split at q
   ·cases q
   ·exact q
  exact R5.drop ⟨(R4.k C _ _ kC).2.2,by unfold unK;rw [if_pos (by simp)],R4.kc kC⟩ k5
 ·unfold unK;rw [if_neg fun hm=>F.mine ha (by rw [List.mem_singleton.mp hm];exact fc.2.1)]
def bB6 {S:Sx} {xs:List PyData} {u:Value} (p:Pl S κ M h (xs.map .d) u s):Pf S κ M h xs u s:=let ⟨N,l,R,a,us,n,e1,e2,f,z,r⟩:=p;⟨N,l,R,a,us,n,e1,e2,f,z,show Paired (fun a b=>RepW S N (.d a) b) xs us from sS r⟩
def bR5 {S:Sx} {is:List Nat} {u:Value} (p:Pl S κ M h (is.map .c) u s):Pw S κ M (h++[.r is]) (.c h.length) u s:=by
 obtain ⟨N,l,R,a,us,n,rfl,e,f,z,r⟩:=p;exact ⟨N.cel (a,a),l.trans .cel,R.add f f ⟨⟨_,e⟩,_,e⟩ ⟨us,n,e,z,r.go .cel⟩,(a,a),by show (N.m++[(a,a)])[h.length]?=_;rw [<- R.len];simp,rfl⟩
def oB {N:List Str} {S:Scope} (h:pG N sc S=true):CompSc N (uI sc) (mG N sc) S sc:=by
 unfold pG at h;simp only [Bool.and_eq_true,decide_eq_true_eq,List.all_eq_true] at h;obtain ⟨h1,h2,h3,h4,h5,h6⟩:=h;refine ⟨h1,fun y hy e=>?_,fun y hy e=>?_,fun y hy e=>?_,h5,by unfold mG;rw [List.length_map],?_⟩
 ·have:=h2 y hy;rw [e] at this;simp at this
 ·have:=h3 y hy;rw [e] at this
  simpa using this
 ·have:=h4 y hy;rw [e] at this
  simpa using this
 ·rw [List.all_eq_true];exact h6
def cG (G:Good X st d) (cl:List (Str×Addr)) (C:Addr):Good (blk X (uI sc) sc cl C) (st.blk sc) d:=by
 refine ⟨G.bl,G.gc,G.tk,G.fn,G.fnW,G.cls,G.om,G.fo,rfl,?_,(fun z=>nomatch z),G.rm,fun q z=>nomatch z⟩;show relabel sc X.env=aL3 sc st.S;unfold relabel aL3 Env.kindOf;rw [G.S]
theorem rG (S:Snd v) (G:Good X st d):∀ ifs,SIf X ifs (aC5 v st ifs)
 | []=>fun _ _ _ _ _ _ _ R F e=>by cases e;exact wpAny_tests_nil ⟨rfl,_,.refl,R⟩
 | [c]=>fun _ _ _ _ _ _ _ R F e=>wpAny_tests_one (S.T G c R F e)
 | _::_::_=>fun _ _ _ _ _ _ _ R F e=>by cases e
def oE (h:hG e=false) (env:Env) (y:Value):foldedSetIterable e env y=pure y:=by
 cases e<;>first | rfl | cases h
def ItS (v:Evs):Prop:=∀ {X:Cx} {st:Sta} {d:Nat},Good X st d->∀ tg iter,SI X tg iter (mF v st tg iter)
def aO1 (S:Snd v) (I:ItS v) (G:Good X st d):SF X (.ListComp elt [⟨tg,iter,ifs,0⟩] sc pos) (jK v st elt tg iter ifs sc):=by
 unfold jK;split
 ·rename_i hc;rw [Bool.and_eq_true] at hc;have hs:hG iter=false:=by simpa using hc.2
  intro κ M δ h s w h' R F e;obtain ⟨⟨all,c⟩,h1,e1,e⟩:=aG e;exact thn (xP G.rm.hd (by rw [G.S,G.N];exact oB hc.1) (I G tg iter) (fun cl C=>S.G (cG G cl C) tg) (fun cl C=>rG S (cG G cl C) ifs) (fun cl C=>S.E (cG G cl C) elt) (oE hs _) R F e1 (hU e)) fun _ _ p=>bB6 p
 ·exact fun _ _ _ _ _ _ _ _ _ e=>by cases e
def mL {f:XR (List PyData)} (hf:SF X e f):SE X e (aV f):=by
 intro κ M δ h s w h' R F e;obtain ⟨⟨xs,h1⟩,e1,e⟩:=bind_some (show (f δ h).bind _=_ from e);cases e;exact thn (hf R F e1) fun _ _ p=>wV p
def lB {f:XR (List PyData)} (hf:SF X e f):SE X e (aM f):=by
 intro κ M δ h s w h' R F e;obtain ⟨⟨xs,h1⟩,e1,e⟩:=bind_some (show (f δ h).bind _=_ from e);cases e;exact thn (hf R F e1) fun _ _ p=>nR p
def fE:SF X e xno:=fun _ _ _ _ _ _ _ _ _ e=>by cases e
def Pf.go {S:Sx} {M M':Mp} {xs:List PyData} {u:Value} (l:Le M M') (p:Pf S κ M' h xs u s):Pf S κ M h xs u s:=let ⟨N,a,b⟩:=p;⟨N,l.trans a,b⟩
theorem bB7 (S:Snd v) (G:Good X st d):SF X (.BinOp a .Add b pos) (xb (v.E st a) fun u=>xb (v.E st b) fun w=>fun _ h=>(match ref h u,ref h w with
  | some (.list xs),some (.list ys)=>if xs.length+ys.length<=sizeLine then some (xs++ys,h) else none
  | _,_=>none)):=by
 intro κ M δ h s w h' R F e;obtain ⟨x,h1,e1,e⟩:=aG e;obtain ⟨y,h2,e2,e⟩:=aG e;refine wpAny_BinOp (thn (S.E G a R F e1) fun u s1 ⟨M1,l1,R1,r1⟩=>thn (S.E G b R1 (F.go l1) e2) fun v s2 ⟨M2,l2,R2,r2⟩=>?_);split at e
 ·rename_i ha hb;obtain ⟨hz,e⟩:=aF e;cases e;obtain ⟨a,us,n,rfl,ea,la,ra'⟩:=ref_l R2 (r1.go l2) ha;obtain ⟨b,vs,m,rfl,eb,lb,rb'⟩:=ref_l R2 r2 hb;have k1:=ra'.length;have k2:=rb'.length;refine PySem.P.add_list ea eb ?_ (by rw [List.size_toArray,List.size_toArray];omega);have ea:us.toArray++vs.toArray=(us++vs).toArray:=by simp
  rw [ea];exact Pf.go (l1.trans l2) (R2.lstP (t:=s2.toks) (uH ra' rb') (by rw [List.length_append];omega))
 ·cases e
theorem bR6 (S:Snd v) (G:Good X st d) {lo hi:Option Expr} {p2:Pos}:SF X (.Subscript a (.Slice lo hi none p2) pos) (xb (v.E st a) fun x=>xb (iW v st lo) fun l=>xb (iW v st hi) fun u=>fun _ h=>(match ref h x with
  | some (.list xs)=>some (cut xs l u,h)
  | _=>none)):=by
 intro κ M δ h s w h' R F e;refine bB1 S G (Q:=Pf X.S κ M h') (r:=(w,h')) R F e fun l1 R1 r1 hs pl pu e=>?_;split at e
 ·rename_i ea;cases e;obtain ⟨t,q⟩:=sl_l (A:=X.A) (E:=NE) R1 r1 ea hs pl pu;exact ⟨"list",_,slot_list_getitem.lookup,t,thn q fun _ _ p=>p.go l1⟩
 ·cases e
def bB8 (S:Snd v) (G:Good X st d) {lo hi:Option Expr} {p2:Pos}:SE X (.Subscript a (.Slice lo hi none p2) pos) (xb (v.E st a) fun x=>xb (iW v st lo) fun l=>xb (iW v st hi) fun u=>fun _ h=>xSl x l u h):=by
 intro κ M δ h s w h' R F e;refine bB1 S G (Q:=Pw X.S κ M h') (r:=(w,h')) R F e fun l1 R1 r1 hs pl pu e=>?_;unfold xSl at e;split at e
 ·cases e;obtain ⟨t,q⟩:=sl_t (A:=X.A) (E:=NE) R1 r1 hs pl pu;exact ⟨"tuple",_,PyProof.Rows.slot_tuple_getitem.lookup,t,thn q fun _ _ p=>p.go l1⟩
 ·split at e
  ·rename_i ea;cases e;obtain ⟨t,q⟩:=sl_l (A:=X.A) (E:=NE) R1 r1 ea hs pl pu;exact ⟨"list",_,slot_list_getitem.lookup,t,thn q fun _ _ p=>(nR p).go l1⟩
  ·cases e
theorem bB9 (S:Snd v) (G:Good X st d) {p:Pos}:SF X (.BinOp (.List es p) .Mult b pos) (xb (aV (xPl (aQ v st es))) fun u=>xb (v.E st b) fun w=>fun _ h=>(match u,w with
  | .c i,.d (.int k)=>(match h[i]? with
   | some (.l xs)=>if -(2^63)<=k/\k < 2^63/\xs.length*k.toNat<=sizeLine then some ((List.replicate k.toNat xs).flatten,h) else none
   | _=>none)
  | _,_=>none)):=by
 intro κ M δ h s w h' R F e;obtain ⟨x,h1,e1,e⟩:=aG e;obtain ⟨y,h2,e2,e⟩:=aG e;refine wpAny_BinOp (thn (mL (rB S G) R F e1) fun u s1 ⟨M1,l1,R1,r1⟩=>thn (S.E G b R1 (F.go l1) e2) fun v s2 ⟨M2,l2,R2,r2⟩=>?_);rcases x with _ | i
 ·cases e
 rcases y with (_ | _ | k | _ | _ | _ | _) | _<;>first | cases e;done | skip
 dsimp only at e;split at e
 ·rename_i xs ei;obtain ⟨⟨q1,q2,hz⟩,e⟩:=aF e;cases e;obtain ⟨t,rfl⟩:=wi.mp r2;obtain ⟨p,ep,rfl⟩:=r1.go l2;obtain ⟨us,n,ho,hl,rr⟩:=R2.cel i p _ ep ei;have hlen:=rr.length;have hsz:us.toArray.size*k.toNat<=sizeLine:=by rw [List.size_toArray,<- hlen];exact hz
  have hcap:¬ us.toArray.size*k.toNat > (2^63 - 1) / 8:=by
   have:(sizeLine:Nat)<=(2^63 - 1) / 8:=by decide
   omega
  have hfit:¬ (!Builtin.List.listFitsIndex k)=true:=by rw [fitsIndex_both q1 q2];exact Bool.false_ne_true
  have hlong:¬ Builtin.List.listTooLong (us.toArray.size*k.toNat)=true:=by
   unfold Builtin.List.listTooLong;rw [decide_eq_false (by omega)];exact Bool.false_ne_true
  have hnew:List.foldl (fun x1 x2=>x1++x2) #[] (List.replicate (if us.toArray.isEmpty=true then 0 else k.toNat) us.toArray)=(List.replicate k.toNat us).flatten.toArray:=by
   have f0:∀ m:Nat,List.foldl (fun x1 x2=>x1++x2) #[] (List.replicate m us.toArray)=(List.replicate m us).flatten.toArray:=fun m=>by
    have:=iZ us m [];rw [List.nil_append] at this;exact this
   rw [f0];cases us with
   | nil=>simp
   | cons a r'=>rw [if_neg (by simp)]
  refine wpAny_binaryOp_repeat_ref (T:="list") (U:="int") (by decide) ⟨_,ho,rfl⟩ (fun s'=>typeIs_int s' k t) noFill_list_mul PySem.F.fills_int_mul PySem.F.slot_int_rmul repeat_list PySem.F.slot_int_index.lookup
   (call_meets PySem.F.slot_int_rmul (typeIs_int s2 k t) PySem.F.entry_int_rmul (PySem.F.args_int_rmul_2 _ _) (int___rmul___int_list k t p.1 us.toArray n)
    ⟨ho,rfl,⟨_,ho,rfl⟩,call_meets PySem.F.slot_list_mul ⟨_,ho,rfl⟩ PySem.F.entry_list_mul (PySem.F.args_list_mul_2 _ _) (AutoListH.list___mul___list_int_3 p.1 us.toArray n k t hfit hcap hlong) ⟨ho,?_⟩⟩)
  rw [hnew];exact Pf.go (l1.trans l2) (R2.lstP (t:=s2.toks) (n:=0) (aM3 rr k.toNat) (by rw [nS,Nat.mul_comm,<- hlen];exact hz))
 ·cases e
end
end DL

namespace DL
open PySem PySem.Spec PyProof.Rows L2 CI
section
variable {S:Sx} {κ:Kp} {M:Mp} {h h':aA} {s:Shared} {A:Around} {E:Value->Shared->Prop} {d:Nat}
def Room.deeper {k:Nat} (r:Room (k+1) A) (env:Env):Room k (A.deeper env) :=
 ⟨r.hd,by have:=r.dp;show A.depth+1+3*k+5 < _;omega,by have:=r.un;show A.units+3+16*k+200 < _;omega⟩
def rH {C:Addr} {us:List Value} {kw:List (Str×Value)}:(A.under (.builtin "type.__call__" ⟨.ref C::us,kw⟩)).depth=A.depth+1:=by
 first | rfl | simp [Around.under,Code.weight,Code.isCreation,Code.isGuard,Code.isCaller,Code.frames,Code.isFrame,guardIds]
def rI {C:Addr} {us:List Value} {kw:List (Str×Value)}:(A.under (.builtin "type.__call__" ⟨.ref C::us,kw⟩)).units=A.units+1:=by
 first | rfl | simp [Around.under,Code.cUnits,Code.frames,Code.isFrame]
def Room.make {k:Nat} (r:Room (k+1) A) (C:Addr) (us:List Value) (kw:List (Str×Value)):Room k (A.under (.builtin "type.__call__" ⟨.ref C::us,kw⟩)) :=
 ⟨r.hd,by have:=r.dp;rw [rH];omega,by have:=r.un;rw [rI];omega⟩
def FrO.make (r:FrO κ A) (C:Addr) (us:List Value) (kw:List (Str×Value)):FrO κ (A.under (.builtin "type.__call__" ⟨.ref C::us,kw⟩)):=by
 have:(A.under (.builtin "type.__call__" ⟨.ref C::us,kw⟩)).frames=A.frames:=by
  first | rfl | simp [Around.under,Code.frames,Code.isFrame]
 unfold FrO;rw [this];exact r
def xQ {f:Addr} {fd:FuncData} {ps:List Str} {m:XFW} {us:List Value} {ws:List W} {w:W} (F:FnS S d f fd ps m) (hr:Room d A) (fo:FrO κ A) (hb:eG S.K fd ps) (md:Mod S) (hz:S.base.objs.size<=s.heap.objs.size) (R:Mem S κ M h s) (r:RepWs S M ws us) (e:m ws h=some (w,h')):Wp S A (call (.ref f) us) (Pw S κ M h' w) E s:=by
 have hl:us.length=ps.length:=by rw [<- r.length];exact F.len _ _ _ e
 refine wpAny_call (codeAny_mono (F.run (args:=⟨us,[]⟩) hr fo md hz R (hb s us (md.kin.keeps R.bk) hl) r e) fun r s' ⟨u,hq,p⟩=>?_);subst hq;exact p
def Mem.made {C:Addr} (R:Mem S κ M h s):Mem S κ (M.cel (s.heap.objs.size+1,s.heap.objs.size)) (h++[.o C []]) { s with heap:=(s.heap.push PySem.W.emptyDict).push (PySem.W.instObj C s.heap.objs.size) }:=by
 have e1:(s.heap.push PySem.W.emptyDict).get? s.heap.objs.size=some PySem.W.emptyDict:=Heap.get?_push_size s.heap rfl;have e1':=Heap.get?_push_of_some (PySem.W.instObj C s.heap.objs.size) e1;have e2:((s.heap.push PySem.W.emptyDict).push (PySem.W.instObj C s.heap.objs.size)).get? (s.heap.objs.size+1)=some (PySem.W.instObj C s.heap.objs.size):=by
  have:=Heap.get?_push_size (s.heap.push PySem.W.emptyDict) (o:=PySem.W.instObj C s.heap.objs.size) rfl
  rwa [Heap.size_push] at this
 have e3:(s.heap.push PySem.W.emptyDict).Ns s.heap.objs.size (fun _=>none):=⟨PySem.W.emptyDict,#[],_,e1,rfl,(fun e he=>absurd he (by simp)),fun _=>rfl⟩;have R1:Mem S κ M h { s with heap:=(s.heap.push PySem.W.emptyDict).push (PySem.W.instObj C s.heap.objs.size) }:=R.kept (t:=s.toks) fun b o e=>Heap.get?_push_of_some _ (Heap.get?_push_of_some _ e);refine R1.add (p:=(s.heap.objs.size+1,s.heap.objs.size)) (R.new (Heap.get?_none_of_le (Nat.le_succ _))) R.size ⟨⟨_,e2⟩,_,e1'⟩ ?_;exact ⟨Nat.ne_of_lt (Nat.lt_succ_self _),Nat.zero_le _,e2,fun _=>none,(Heap.Ns1.of_empty e3).at fun o q=>Heap.get?_push_of_some _ q,fun _=>True.intro,fun y hy=>absurd rfl hy⟩
def xR {k:Nat} {C f:Addr} {fd:FuncData} {ps:List Str} {m:XFW} {us:List Value} {ws:List W} {w:W} (K:Mk S.K C f) (F:FnS S k f fd ps m) (hr:Room (k+1) A) (fo:FrO κ A) (hb:eG S.K fd ps) (md:Mod S) (hz:S.base.objs.size<=s.heap.objs.size) (R:Mem S κ M h s) (r:RepWs S M ws us) (e:xMk C m ws h=some (w,h')):Wp S A (call (.ref C) us) (Pw S κ M h' w) E s:=by
 obtain ⟨⟨w1,h1⟩,e1,e⟩:=bind_some (show (m (.c h.length::ws) (h++[.o C []])).bind _=_ from e);have R2:=R.made (C:=C);have ez:(M.cel (s.heap.objs.size+1,s.heap.objs.size)).m[h.length]?=some (s.heap.objs.size+1,s.heap.objs.size):=by show (M.m++[_])[h.length]?=_;rw [<- R.len];simp
 have r2:RepWs S (M.cel (s.heap.objs.size+1,s.heap.objs.size)) (.c h.length::ws) (Value.ref (s.heap.objs.size+1)::us):=.cons ⟨_,ez,rfl⟩ (r.go .cel);have hl:(Value.ref (s.heap.objs.size+1)::us).length=ps.length:=by rw [<- r2.length];exact F.len _ _ _ e1
 have kin:=md.kin.keeps R.bk;refine wpAny_call (xG (f:=f) kin K.makes K.init (beq_iff_eq.mp K.fn) (codeAny_mono (F.run (args:=⟨Value.ref (s.heap.objs.size+1)::us,[]⟩) (hr.make C us []) (fo.make C us []) md (by rw [Heap.size_push,Heap.size_push];omega) R2 (hb _ _ (md.kin.keeps R2.bk) hl) r2 e1) fun r s' ⟨u,hq,M3,l3,R3,r3⟩=>?_));subst hq;rcases w1 with (_ | _ | _ | _ | _ | _ | _) | _<;>first | cases e;done | skip
 cases e;exact ⟨wn.mp r3,M3,Le.trans .cel l3,R3,⟨_,l3.at ez,rfl⟩⟩
theorem mM (f g:Str) (w:W):∀ fs:List (Str×W),(gI f w fs).lookup g=if g=f then some w else fs.lookup g
 | []=>by
  show List.lookup g [(f,w)]=_
  by_cases h:g=f
  ·have hb:(g==f)=true:=beq_iff_eq.mpr h;simp only [List.lookup,hb,if_pos h]
  ·have hb:(g==f)=false:=beq_eq_false_iff_ne.mpr h;simp only [List.lookup,hb,if_neg h]
 | (k,x)::r=>by
  have ih:=mM f g w r;rw [show gI f w ((k,x)::r)=(if k=f then (k,w)::r else (k,x)::gI f w r) from rfl]
  by_cases hk:k=f
  ·rw [if_pos hk]
   by_cases h:g=k
   ·have hb:(g==k)=true:=beq_iff_eq.mpr h;simp only [List.lookup,hb,if_pos (h.trans hk)]
   ·have hb:(g==k)=false:=beq_eq_false_iff_ne.mpr h;simp only [List.lookup,hb,if_neg (fun e:g=f=>h (e.trans hk.symm))]
  ·rw [if_neg hk]
   by_cases h:g=k
   ·have hb:(g==k)=true:=beq_iff_eq.mpr h;simp only [List.lookup,hb,if_neg (fun e:g=f=>hk (h.symm.trans e))]
   ·have hb:(g==k)=false:=beq_eq_false_iff_ne.mpr h;simp only [List.lookup,hb];exact ih
theorem mO (f:Str) (w:W):∀ fs:List (Str×W),f∈(gI f w fs).map (·.1)/\(∀ g,g∈fs.map (·.1)->g∈(gI f w fs).map (·.1))/\(gI f w fs).length<=fs.length+1
 | []=>⟨by simp [gI],fun g h=>by simp at h,by simp [gI]⟩
 | (k,x)::r=>by
  obtain ⟨i1,i2,i3⟩:=mO f w r;rw [show gI f w ((k,x)::r)=(if k=f then (k,w)::r else (k,x)::gI f w r) from rfl]
  by_cases hk:k=f
  ·rw [if_pos hk];subst hk;exact ⟨by simp,fun g h=>by simpa using h,by rw [List.length_cons,List.length_cons];omega⟩
  ·rw [if_neg hk];refine ⟨?_,fun g h=>?_,by rw [List.length_cons,List.length_cons];omega⟩
   ·rw [List.map_cons];exact List.mem_cons_of_mem _ i1
   ·rw [List.map_cons] at h ⊢;rcases List.mem_cons.mp h with e | e
    ·exact List.mem_cons.mpr (.inl e)
    ·exact List.mem_cons_of_mem _ (i2 g e)
def uR {w:W} {u:Value} (r:RepW S M w u):PySem.W.handedIn u=true:=by
 cases w with
 | c i=>obtain ⟨p,_,rfl⟩:=r;rfl
 | d x =>
  cases x with
  | none=>cases wn.mp r;rfl
  | bool b=>cases wb.mp r;rfl
  | int i=>obtain ⟨t,rfl⟩:=wi.mp r;rfl
  | str x=>obtain ⟨⟨t,rfl⟩,_⟩:=rep_s.mp (show Rep S M.Z _ _ from r);rfl
  | list x=>obtain ⟨a,_,_,rfl,_⟩:=rep_l.mp (show Rep S M.Z _ _ from r);rfl
  | tuple x=>obtain ⟨a,_,_,rfl,_⟩:=rep_t.mp (show Rep S M.Z _ _ from r);rfl
  | dict x=>obtain ⟨a,_,_,rfl,_⟩:=rep_d.mp (show Rep S M.Z _ _ from r);rfl
def oF {i:Nat} {p:Addr×Addr} {C:Addr} {fs:List (Str×W)} (R:Mem S κ M h s) (ep:M.m[i]?=some p) (ei:h[i]?=some (.o C fs)):∃ mA,ObjM s.heap p.1 p.2 C mA/\(∀ f,RelO S M (fs.lookup f) (mA f))/\PySem.Within mA (fs.map (·.1))/\fs.length<=1000:=by
 obtain ⟨ne,z,ob,mA,n,r,q⟩:=R.cel i p _ ep ei;exact ⟨mA,⟨ob,n,ne⟩,r,q,z⟩
def RelO.some_of {w:W} {o:Option Value} (r:RelO S M (some w) o):∃ u,o=some u/\RepW S M w u:=by
 cases o with
 | none=>exact (show False from r).elim
 | some u=>exact ⟨u,rfl,r⟩
def RelO.none_of {o:Option Value} (r:RelO S M none o):o=none:=by
 cases o with
 | none=>rfl
 | some u=>exact (show False from r).elim
def rJ {b:Bool} {i:Nat} {p:Addr×Addr} {C:Addr} {fs:List (Str×W)} {f:Str} {w:W} (kin:S.K.In S.base) (R:Mem S κ M h s) (ep:M.m[i]?=some p) (ei:h[i]?=some (.o C fs)) (c:Cls S.K C) (n:NoAttr S.K C f) (l:fs.lookup f=some w):Wp S A (getAttr (.ref p.1) f b) (Pw S κ M h w) E s:=by
 obtain ⟨mA,O,r,_⟩:=oF R ep ei;obtain ⟨u,hu,ru⟩:=RelO.some_of (w:=w) (o:=mA f) (by rw [<- l];exact r f);exact aD2 (kin.keeps R.bk) O (c.get f) c.hd n hu (uR ru) ((R.tok _).pw ru)
def rK {i:Nat} {p:Addr×Addr} {C:Addr} {fs:List (Str×W)} {f:Str} {w:W} {u:Value} {Q:Unit->Shared->Prop} (kin:S.K.In S.base) (R:Mem S κ M h s) (ep:M.m[i]?=some p) (ei:h[i]?=some (.o C fs)) (c:Cls S.K C) (n:NoAttr S.K C f) (hl:fs.length < 1000) (rw':RepW S M w u)
  (q:∀ s',Mem S κ M (h.set i (.o C (gI f w fs))) s'->Q () s'):Wp S A (setAttr (.ref p.1) f u) Q E s:=by
 obtain ⟨mA,O,r,wi,_⟩:=oF R ep ei;have hz:(fs.map (·.1)).length<=sizeLine:=by rw [List.length_map,sizeLine_eq];omega
 refine aD3 (kin.keeps R.bk) O c.sa c.po n.taker c.hd wi hz fun h' O' sb=>q _ ?_;have hd:∃ o,h'.get? p.2=some o:=let ⟨o,_,_,e',_⟩:=O'.ns;⟨o,e'⟩
 obtain ⟨k1,k2,k3⟩:=mO f w fs;refine R.wr ep (fun b o _ n2 q=>(sb.2 b n2).trans q) ⟨⟨_,O'.obj⟩,hd⟩ R.bare rfl ⟨O.ne,by omega,O'.obj,_,O'.ns,fun g=>?_,fun g hg=>?_⟩
 ·show RelO S M ((gI f w fs).lookup g) (if g=f then some u else mA g);rw [mM]
  by_cases q:g=f
  ·rw [if_pos q,if_pos q];exact rw'
  ·rw [if_neg q,if_neg q];exact r g
 ·by_cases q:g=f
  ·rw [q];exact k1
  ·refine k2 g (wi g fun z=>hg ?_);show (if g=f then some u else mA g)=none;rw [if_neg q];exact z
def Mem.lset {i:Nat} {p:Addr×Addr} {us us':List Value} {n t:Nat} {c:Cell} {f:Array Value->Array Value} (R:Mem S κ M h s) (ei:M.m[i]?=some p) (e:s.heap.get? p.1=some (bX us n)) (hf:f us.toArray=us'.toArray)
  (x:∀ (h2:Heap) (n':Nat),h2.get? p.1=some (bX us' n')->CellOk S M h2 p c):Mem S κ M (h.set i c) { s with heap:=s.heap.update p.1 (Obj.mapSeq f),toks:=t }:=by
 have q:=PySem.IsL.update e f;rw [hf] at q;obtain ⟨_,_,o2,ho2⟩:=R.off p (List.mem_of_getElem? ei) p.2 (.inr rfl);refine R.wr ei (fun b o n1 _ q=>(Heap.get?_update_other _ _ (Ne.symm n1)).trans q) ⟨⟨_,q⟩,?_⟩ R.bare rfl (x _ _ q)
 by_cases hq:p.2=p.1
 ·exact ⟨_,by rw [hq];exact q⟩
 ·exact ⟨o2,(Heap.get?_update_other _ _ (Ne.symm hq)).trans ho2⟩
def aO2 {i:Nat} {p:Addr×Addr} {xs:List PyData} {x:PyData} {u:Value} (R:Mem S κ M h s) (ep:M.m[i]?=some p) (ei:h[i]?=some (.l xs)) (hz:xs.length < sizeLine) (rx:Rep S M.Z x u):Wp S A (call (.builtin "list.append") [.ref p.1,u]) (Pw S κ M (h.set i (.l (xs++[x]))) (.d .none)) E s:=by
 obtain ⟨us,n,e,hl,r⟩:=R.cel i p _ ep ei;have hlen:=r.length;refine call_meets F.slot_list_append ⟨_,e,rfl⟩ F.entry_list_append (F.args_list_append_2 _ _) (PySem.list_append p.1 us.toArray n u (by rw [List.size_toArray];omega)) ⟨e,?_⟩;exact (R.lset (t:=s.toks) (us':=us++[u]) (c:=.l (xs++[x])) ep e (by simp) fun h2 n' e'=>⟨_,n',e',by rw [List.length_append,List.length_singleton];omega,Paired.snoc r rx⟩).pn
theorem mP {α:Type}:∀ (l:List α) (i:Nat),(l.eraseIdx i).length<=l.length
 | [],_=>Nat.le_refl _
 | _::_,0=>Nat.le_succ _
 | _::r,i+1=>Nat.succ_le_succ (mP r i)
def aO3 {i j:Nat} {p:Addr×Addr} {xs:List PyData} {x:PyData} {k:Int} {t:Tok} (R:Mem S κ M h s) (ep:M.m[i]?=some p) (ei:h[i]?=some (.l xs)) (ej:ixN xs.length k=some j) (ex:xs[j]?=some x) (h1:-(2^63)<=k) (h2:k < 2^63):Wp S A (call (.builtin "list.pop") [.ref p.1,.int k t]) (Pw S κ M (h.set i (.l (xs.eraseIdx j))) (.d x)) E s:=by
 obtain ⟨us,n,e,hl,r⟩:=R.cel i p _ ep ei;have hlen:=r.length;obtain ⟨u,hu,ru⟩:=kH r ex;refine call_meets F.slot_list_pop ⟨_,e,rfl⟩ F.entry_list_pop (F.args_list_pop_2 _ _)
  (MeetsSeq.list_pop_at p.1 us.toArray n k t j u (fitsIndex_both h1 h2) (by rw [List.size_toArray,<- hlen];exact (nU ej).1) (by rw [<- Array.getElem?_toList];exact hu) (by rw [List.size_toArray];omega)) ⟨e,?_⟩
 have R1:=R.lset (t:=s.toks) (us':=us.eraseIdx j) (c:=.l (xs.eraseIdx j)) (f:=(·.eraseIdxIfInBounds j)) ep e (by show us.toArray.eraseIdxIfInBounds j=_;rw [List.eraseIdxIfInBounds_toArray]) fun h2 n' e'=>⟨_,n',e',Nat.le_trans (mP us j) hl,wG j r⟩;exact R1.pw ru
def aO4 {i:Nat} {p:Addr×Addr} {xs ys:List PyData} {b:Addr} {vs:List Value} {m:Nat} (R:Mem S κ M h s) (ep:M.m[i]?=some p) (ei:h[i]?=some (.l xs)) (eb:s.heap.get? b=some (bX vs m)) (rb:Reps' S M ys vs) (hz:xs.length+ys.length<=sizeLine) :
  Wp S A (call (.builtin "list.extend") [.ref p.1,.ref b]) (Pw S κ M (h.set i (.l (xs++ys))) (.d .none)) E s:=by
 obtain ⟨us,n,e,hl,r⟩:=R.cel i p _ ep ei;have h1:=r.length;have h2:=rb.length;have hsz:us.toArray.size+vs.toArray.size<=sizeLine:=by rw [List.size_toArray,List.size_toArray];omega
 have hlong:¬ (!us.toArray.isEmpty&&Builtin.List.listTooLong (us.toArray.size+vs.toArray.size))=true:=by
  unfold Builtin.List.listTooLong;rw [decide_eq_false (by omega),Bool.and_false];exact Bool.false_ne_true
 refine call_meets F.slot_list_extend ⟨_,e,rfl⟩ F.entry_list_extend (F.args_list_extend_2 _ _)
  (AutoSeq1.list_extend_list_list_0 p.1 us.toArray n b vs.toArray m hlong (by rw [List.size_toArray];omega) (by omega)) ⟨e,eb,?_⟩
 exact (R.lset (t:=s.toks) (us':=us++vs) (c:=.l (xs++ys)) ep e (by simp) fun h2 n' e'=>⟨_,n',e',by rw [List.length_append];omega,uH r rb⟩).pn
def xS {x:W} {xs:List PyData} {z:PyData} {u v:Value} {j:Nat} (hr:Room d A) (R:Mem S κ M h s) (r1:RepW S M (.d (.list xs)) u) (r2:RepW S M (.d z) v) (hp:(aI 64 (.list xs)&&aI 64 z)=true) (ej:xs.findIdx? (fun y=>PyData.eqv y z)=some j):Wp S A (call (.builtin "list.index") [u,v]) (Pw S κ M h (.d (.int j))) E s:=by
 rw [Bool.and_eq_true] at hp;obtain ⟨⟨as,z1⟩,s1⟩:=lV (h:=h) R r1 rfl hp.1;obtain ⟨⟨bs,z2⟩,s2⟩:=lV (h:=h) R r2 rfl hp.2;obtain ⟨p,us,n,rfl,ho,hz,rr⟩:=ref_l (h:=h) R r1 rfl;cases z1 with
 | @list _ o items m _ _ h1 h2 h3 h4 =>
  rw [ho] at h1;cases h1;injection h3 with h3 _
  subst h3;have cl:=SeqAt.canLay_of_shaped s1;rw [PyData.canLay0] at cl;have em:=SeqAt.readsAll_map xs _ _ cl h4;have hl:=rr.length;obtain ⟨hjl,hit,hno⟩:=List.findIdx?_eq_some_iff_getElem.mp ej;have sz:us.toArray.size=us.length:=List.size_toArray;have at_:∀ (m:Nat) (hm:m < us.toArray.size) (hm':m < xs.length),SeqAt.readOf s.heap us.toArray[m]=xs[m]:=fun m hm hm'=>by
   have:xs[m]?=(us.toArray.toList.map (SeqAt.readOf s.heap))[m]?:=by rw [em]
   rw [List.getElem?_map,List.getElem?_eq_getElem hm',Array.getElem?_toList,Array.getElem?_eq_getElem hm] at this;exact (Option.some.inj this).symm
  have hsl:(sizeLine:Int) < 2^63 - 1:=by decide
  refine call_meets PySem.F.slot_list_index ⟨_,ho,rfl⟩ PySem.F.entry_list_index (PySem.F.args_list_index_2 _ _)
   (SeqAt.list_indexAt p us.toArray n none #[] v (fun y=>PyData.eqv (SeqAt.readOf s.heap y) z) j (by omega) (by omega) ?_ ?_) ⟨ho,SeqAt.items_eqAt h4 z2 cl (SeqAt.canLay_of_shaped s2) ?_,R.pi⟩
  ·show PyData.eqv (SeqAt.readOf s.heap us.toArray[j]) z=true;rw [at_ j (by omega) hjl];exact hit
  ·intro m hm hmj;show PyData.eqv (SeqAt.readOf s.heap us.toArray[m]) z=false;rw [at_ m hm (by omega)];exact Bool.eq_false_iff.mpr (hno m hmj)
  ·exact room_in_shaped (xs:=xs) (A:=A) s2 hr.u65
end
def xT {prog:Program} {w:World} {A:Around} {E:Value->Shared->Prop} {s:Shared} {env:Env} {o:Expr} {name:Str} {apos pos:Pos} {args:List Expr} {Q:Value->Shared->Prop}
  (hbase:attributeBase o name env (eval o env)=eval o env)
  (hfew:((backTo pos (starEach args env)).all (fun x=>!x.1)&&(backToKw pos (keywordEach [] env)).all (fun x=>x.1.isSome)&&decide (args.length+([]:List Keyword).length+(if ([]:List Keyword).isEmpty then 0 else 1) < 30))=true)
  (hline:(apos.endLine==pos.line)=true)
  (h:wpAny (model prog w) A (eval o env) (fun ov s₁=>∀ pl,wpAny (model prog w) A (getMethod ov name pl) (fun fx s₂=>wpAny (model prog w) A (callWith pos fx.1 fx.2 (backTo pos (starEach args env)) (backToKw pos (keywordEach [] env))) Q E s₂) E s₁) E s) :
  wpAny (model prog w) A (eval (.Call (.Attribute o name apos) args [] pos) env) Q E s:=by
 rw [arm_eval_Call,hbase];refine wpAny_bind (wpAny_mono h (fun ov s₁ h₁=>?_) fun _ _ e=>e);refine wpAny_bind (wpAny_standAt ?_);have hform:methodCallForm (args.length+([]:List Keyword).length) (backTo pos (starEach args env)) (backToKw pos (keywordEach [] env))=true:=hfew;have hpos:methodCallPos true o env apos pos=pure pos:=by unfold methodCallPos;simp [hline]
 unfold methodCall;rw [hform];exact wpAny_bind (wpAny_holding (wpAny_mono (h₁ _) (fun fx s₂ h₂=>wpAny_bind (wpAny_of_eq hpos h₂)) fun _ _ x=>x))
section
variable {X:Cx} {st:Sta} {d:Nat} {v:Evs} {κ:Kp} {M:Mp} {δ:DSt} {h h':aA} {s:Shared} {a o:Expr} {es:List Expr} {pos p apos:Pos} {x m:Str} {w:W}
def Fra.kin (F:Fra X κ M δ):X.S.K.In X.S.base:=F.ok.mod.kin
theorem tE (S:Snd v) (G:Good X st d) (l:List Nat):∀ (es:List Expr) (n:Nat),SA X es (gJ v st l n es)
 | [],n=>fun pos _ _ _ _ _ _ _ R F e=>by cases e;exact Calls.spliced_nil ⟨_,.refl,R,.nil⟩
 | a::es,n=>by
  intro pos κ M δ h s ws h' R F e;have e:(if aH a=true then xb (if (l.contains n&&!wN a)=true then aV (v.F st a) else v.E st a) fun w=>xb (gJ v st l (n+1) es) fun ws=>aD (w::ws) else xno) δ h=some (ws,h'):=e
  by_cases hs:aH a=true
  ·rw [if_pos hs] at e;obtain ⟨x,h1,e1,e⟩:=aG e;obtain ⟨y,h2,e2,e⟩:=aG e;cases e;have ha:SE X a (if (l.contains n&&!wN a)=true then aV (v.F st a) else v.E st a):=by
    split
    ·exact mL (S.F G a)
    ·exact S.E G a
   rw [aZ a hs];show Wp _ _ (spliced ((false,eval a X.env)::backTo pos (starEach es X.env))) _ _ s;refine Calls.spliced_cons (thn (ha R F e1) fun u s1 ⟨M1,l1,R1,r1⟩=>?_);exact thn (tE S G l es (n+1) pos R1 (F.go l1) e2) fun us s2 ⟨M2,l2,R2,r2⟩=>⟨M2,l1.trans l2,R2,.cons (r1.go l2) r2⟩
  ·rw [if_neg hs] at e;cases e
theorem lC {v:Evs} {st:Sta} {l:List Nat}:∀ {es:List Expr} {n:Nat} {δ:DSt} {h:aA} {r:List W×aA},gJ v st l n es δ h=some r->es.all aH=true
 | [],_,_,_,_,_=>rfl
 | a::es,n,δ,h,r,e=>by
  have e:(if aH a=true then xb (if (l.contains n&&!wN a)=true then aV (v.F st a) else v.E st a) fun w=>xb (gJ v st l (n+1) es) fun ws=>aD (w::ws) else xno) δ h=some r:=e
  by_cases hs:aH a=true
  ·rw [if_pos hs] at e;obtain ⟨x,h1,e1,e⟩:=aG e;obtain ⟨y,h2,e2,e⟩:=aG e;rw [List.all_cons,hs,lC e2];rfl
  ·rw [if_neg hs] at e;cases e
def xU {m:XFW} {fa:XR (List W)} (G:Good X st d) (ht:cE st x=true) (hm:FnG X.S d x m) (hA:SA X (a::es) fa) (hstar:∀ {δ h r},fa δ h=some r->(a::es).all aH=true):SE X (.Call (.Name x p) (a::es) [] pos) (xb fa fun ws=>fun _ h=>m ws h):=by
 intro κ M δ h s w h' R F e;obtain ⟨hn,hg⟩:=kW G ht;obtain ⟨ws,h1,e1,e⟩:=aG e;have hst:=hstar e1;rw [List.all_cons,Bool.and_eq_true] at hst;rcases hm with z | ⟨f,fd,ps,mg,kp,hb,FF⟩
 ·rw [z] at e;cases e
 refine wpAny_Call_Name_kw (eZ F R hg mg hn ?_);refine PySem.W.callWith_K (h₀:=X.S.base) F.kin kp (thn (hA pos R F e1) fun us s1 ⟨M1,l1,R1,r1⟩=>⟨F.kin.keeps R1.bk,?_⟩) (aZ a hst.1) (bD pos es hst.2);exact thn (xQ FF G.rm F.frs hb F.ok.mod ((F.go l1).size R1) R1 r1 e) fun _ _ q=>q.go l1
def bC0 (S:Snd v) (G:Good X st d) {m:XFW} (ht:cE st x=true) (hm:FnG X.S d x m):SE X (.Call (.Name x p) (a::es) [] pos) (xb (aQ v st (a::es)) fun ws=>fun _ h=>m ws h):=xU G ht hm (bP S G _) dU
def bR7 (S:Snd v) (G:Good X st d) {C:Addr} {m:XFW} (ht:cE st x=true) (hm:st.ob.cls x=some (C,m)):SE X (.Call (.Name x p) (a::es) [] pos) (xb (aQ v st (a::es)) fun ws=>fun _ h=>xMk C m ws h):=by
 intro κ M δ h s w h' R F e;obtain ⟨hn,hg⟩:=kW G ht;obtain ⟨ws,h1,e1,e⟩:=aG e;have hst:=dU e1;rw [List.all_cons,Bool.and_eq_true] at hst;rcases G.cls _ _ _ hm with z | ⟨k,f,fd,ps,hk,K,FF,mg,hb⟩
 ·unfold xMk at e;rw [z] at e;cases e
 refine wpAny_Call_Name_kw (eZ F R hg mg hn ?_);refine PySem.W.callWith_K (h₀:=X.S.base) F.kin K.kp (thn (bP S G _ pos R F e1) fun us s1 ⟨M1,l1,R1,r1⟩=>⟨F.kin.keeps R1.bk,?_⟩) (aZ a hst.1) (bD pos es hst.2);exact thn (xR K FF (G.rm.mono hk) F.frs hb F.ok.mod ((F.go l1).size R1) R1 r1 e) fun _ _ q=>q.go l1
theorem pQ (env:Env) (cpos:Pos):∀ (es:List Expr),es.all aH=true->(backTo cpos (starEach es env)).all (fun x=>!x.1)=true
 | [],_=>rfl
 | e::es,h=>by
  rw [List.all_cons,Bool.and_eq_true] at h;have t:starEach (e::es) env=(false,eval e env)::starEach es env:=by
   have h1:=h.1;cases e<;>first | rfl | cases h1
  rw [t];exact pQ env cpos es h.2
def rL (hs:(a::es).all aH=true) (hl:(a::es).length < 29) (env:Env) (cpos:Pos) :
  ((backTo cpos (starEach (a::es) env)).all (fun x=>!x.1)&&(backToKw cpos (keywordEach [] env)).all (fun x=>x.1.isSome)
   && decide ((a::es).length+([]:List Keyword).length+(if ([]:List Keyword).isEmpty then 0 else 1) < 30))=true:=by
 rw [pQ _ _ _ hs];have:(a::es).length+0+0 < 30:=by omega
 show (true&&true&&decide _)=true;simp only [Bool.true_and,decide_eq_true_eq];exact this
def oG (ho:fJ o=true) (m:Str) (env:Env):attributeBase o m env (eval o env)=eval o env:=by
 cases o<;>first | rfl | cases ho
def uS (ho:wQ o=true) (m:Str) (env:Env):attributeBase o m env (eval o env)=eval o env:=by
 cases o<;>first | rfl | (cases ho;done) | skip
 rename_i f a k p;cases f<;>first | (cases ho;done) | skip
 cases a<;>first | (cases ho;done) | skip
 cases k<;>first | (cases ho;done) | rfl
def bR8 (S:Snd v) (G:Good X st d) {C:Addr} {g:XFW} (hm:st.ob.om m=some (C,g)) (ho:wQ o=true) (hl:(apos.endLine==pos.line)=true) (hn:(a::es).length < 29) (hst:(a::es).all aH=true) :
  SE X (.Call (.Attribute o m apos) (a::es) [] pos) (xMo v st o m C g (a::es)):=by
 intro κ M δ h s w h' R F e;obtain ⟨x,h1,e1,e⟩:=aG e;have hst':=hst;rw [List.all_cons,Bool.and_eq_true] at hst';rcases x with _ | j
 ·cases e
 dsimp only at e;split at e
 ·rename_i C' fs ej;obtain ⟨⟨hC,hlk⟩,e5⟩:=aF e;clear e;subst hC;obtain ⟨⟨ws,h2⟩,e2,e⟩:=bind_some e5;rcases G.om _ _ _ hm with z | ⟨c,f,fd,ps,hM,FF,hb⟩
  ·rw [z] at e;cases e
  refine xT (uS ho _ _) (rL hst hn _ _) hl (thn (S.E G o R F e1) fun u s1 ⟨M1,l1,R1,r1⟩ pl=>?_);obtain ⟨p,ep,rfl⟩:=id r1;obtain ⟨mA,O,r,_⟩:=oF R1 ep ej;refine xF (F.kin.keeps R1.bk) O (c.get m) hM.at_ hM.fn (RelO.none_of (by rw [<- hlk];exact r m)) ?_;refine PySem.W.callWith_K (first:=[.ref p.1]) (h₀:=X.S.base) F.kin hM.kp (thn (bP S G _ pos R1 (F.go l1) e2) fun us s2 ⟨M2,l2,R2,r2⟩=>⟨F.kin.keeps R2.bk,?_⟩) (aZ a hst'.1) (bD pos es hst'.2);exact thn (xQ (us:=.ref p.1::us) FF G.rm F.frs hb F.ok.mod (((F.go l1).go l2).size R2) R2 (.cons (r1.go l2) r2) e) fun _ _ q=>q.go (l1.trans l2)
 ·cases e
def bC1 (S:Snd v) (G:Good X st d) {f:Str} (ho:fJ o=true):SE X (.Attribute o f pos) (aY8 v st o f):=by
 intro κ M δ h s w h' R F e;obtain ⟨x,h1,e1,e⟩:=aG e;refine Attribute_any_ (thn (S.E G o R F e1) fun u s1 ⟨M1,l1,R1,r1⟩=>?_) (by rw [arm_eval_Attribute,oG ho]);rcases x with _ | j
 ·cases e
 dsimp only at e;split at e
 ·rename_i C fs ej;obtain ⟨hf,e⟩:=aF e;obtain ⟨w2,e3,e4⟩:=map_some e;cases e4;obtain ⟨h5,h6⟩:=G.fo C f hf;obtain ⟨p,ep,rfl⟩:=r1;exact thn (rJ F.kin R1 ep ej h5 h6 e3) fun _ _ q=>q.go l1
 ·cases e
theorem bC2 (S:Snd v) (G:Good X st d) {f:Str} {b:Expr} {fb:XR W} (hb:SE X b fb) (hs:swapsWith b (some (.Attribute o f apos)) pos.line X.env=pure false):SS X (.Assign [.Attribute o f apos] b pos) fun δ h=>(fb δ h).bind fun p=>(v.E st o δ p.2).bind fun q=>match q.1 with
 | .c j=>(match q.2[j]? with
  | some (.o C fs)=>if st.ob.fo C f=true/\fs.length < 1000 then some (.nx δ,q.2.set j (.o C (gI f p.1 fs))) else none
  | _=>none)
 | _=>none:=by
 intro κ M δ h s fl h' R F e;obtain ⟨⟨w,h1⟩,e1,e⟩:=bind_some e;obtain ⟨⟨x,h2⟩,e2,e⟩:=bind_some e;refine plainObj_wpAny_Assign_Attribute (thn (hb R F e1) fun u s1 ⟨M1,l1,R1,r1⟩=>thn (S.E G o R1 (F.go l1) e2) fun ov s2 ⟨M2,l2,R2,r2⟩=>?_) hs;rcases x with _ | j
 ·cases e
 dsimp only at e;split at e
 ·rename_i C fs ej;obtain ⟨⟨hf,hlt⟩,e⟩:=aF e;cases e;obtain ⟨h5,h6⟩:=G.fo C f hf;obtain ⟨p,ep,rfl⟩:=r2;exact rK F.kin R2 ep ej h5 h6 hlt (r1.go l2) fun s3 R3=>⟨κ,M2,.refl,l1.trans l2,R3,F.go (l1.trans l2)⟩
 ·cases e
def lD (S:Snd v) (G:Good X st d) {f:Value} {ws:List W} {h1:aA} {Q:Value->Shared->Prop} (hx:(cE st x&&(slot st x).isNone&&st.bl.contains x)=true) (hv:bootBuiltins x=some f) (hf:(∃ i,f=.builtin i)\/∃ i,f=.type i) (R:Mem X.S κ M h s) (F:Fra X κ M δ) (e:aQ v st (a::es) δ h=some (ws,h1))
  (q:∀ {M1 us s1},Le M M1->Mem X.S κ M1 h1 s1->RepWs X.S M1 ws us->Wp X.S X.A (call f us) Q NE s1):Wp X.S X.A (eval (.Call (.Name x p) (a::es) [] pos) X.env) Q NE s:=by
 obtain ⟨h1,h2,h3⟩:=cY G hx;have hst:=dU e;rw [List.all_cons,Bool.and_eq_true] at hst;refine wpAny_Call_Name_kw (cX F R h2 h3 hv h1 ?_);rcases hf with ⟨i,rfl⟩ | ⟨i,rfl⟩
 ·exact PyProof.Rows.callWith_builtin1 (thn (bP S G _ pos R F e) fun us s1 ⟨M1,l1,R1,r1⟩=>q l1 R1 r1) (aZ a hst.1) (bD pos es hst.2)
 ·exact PyProof.Rows.callWith_type1 (thn (bP S G _ pos R F e) fun us s1 ⟨M1,l1,R1,r1⟩=>q l1 R1 r1) (aZ a hst.1) (bD pos es hst.2)
def oH (F:Fra X κ M δ) (R:Mem X.S κ M h s):(s.heap.objs.size==sysModules)=false:=by
 have h:mainGlobals < s.heap.objs.size:=(F.ok.mod.glob.keeps R.bk).lt;have:sysModules < s.heap.objs.size:=Nat.lt_trans (by decide) h;exact beq_eq_false_iff_ne.mpr (Nat.ne_of_gt this)
def bC3 (S:Snd v) (G:Good X st d) {f:Value} {g:List W->aA->Option (W×aA)} (hx:(cE st x&&(slot st x).isNone&&st.bl.contains x)=true) (hv:bootBuiltins x=some f) (hf:(∃ i,f=.builtin i)\/∃ i,f=.type i) (hg:BfS X.S f g):SE X (.Call (.Name x p) (a::es) [] pos) (xb (aQ v st (a::es)) fun ws=>fun _ h=>g ws h):=by
 intro κ M δ h s w h' R F e;obtain ⟨ws,h1,e1,e⟩:=aG e;exact lD S G hx hv hf R F e1 fun l1 R1 r1=>thn (hg G.rm F.kin (oH (F.go l1) R1) R1 r1 e) fun _ _ q=>q.go l1
theorem bC4 (S:Snd v) (G:Good X st d) (hx:(cE st "list"&&(slot st "list").isNone&&st.bl.contains "list")=true):SF X (.Call (.Name "list" p) (a::es) [] pos) (xb (aQ v st (a::es)) fun ws=>fun _ h=>(match ws with
  | [w]=>(match ref h w with
   | some (.list xs)=>some (xs,h)
   | some (.tuple xs)=>some (xs,h)
   | _=>none)
  | _=>none)):=by
 intro κ M δ h s w h' R F e;obtain ⟨ws,h1,e1,e⟩:=aG e;refine lD (f:=.type "list") S G hx (by decide +kernel) (.inr ⟨_,rfl⟩) R F e1 fun {M1 us s1} l1 R1 r1=>?_;rcases ws with _ | ⟨x,_ | ⟨_,_⟩⟩
 ·cases e
 ·obtain ⟨u,rfl,ru⟩:=w1 r1;dsimp only at e;split at e
  ·rename_i ex;cases e;exact thn (xB R1 ru (.inl ex)) fun _ _ q=>q.go l1
  ·rename_i ex;cases e;exact thn (xB R1 ru (.inr ex)) fun _ _ q=>q.go l1
  ·cases e
 ·cases e
def aD7 {T:Str} {Ts:String} (h:aC4 T=some Ts):bootBuiltins T=some (.type Ts)/\kS Ts:=by
 unfold aC4 at h;split at h
 ·rename_i e;cases h;subst e;exact ⟨by decide +kernel,aD0⟩
 split at h
 ·rename_i e;cases h;subst e;exact ⟨by decide +kernel,xC⟩
 split at h
 ·rename_i e;cases h;subst e;exact ⟨by decide +kernel,aD1⟩
 split at h
 ·rename_i e;cases h;subst e;exact ⟨by decide +kernel,uM⟩
 split at h
 ·rename_i e;cases h;subst e;exact ⟨by decide +kernel,xD⟩
 ·cases h
def bC5 (S:Snd v) (G:Good X st d) {T:Str} {Ts:String} {q:Pos} (hx:(cE st "isinstance"&&(slot st "isinstance").isNone&&st.bl.contains "isinstance")=true) (hs:aH a=true) (hT:(cE st T&&(slot st T).isNone&&st.bl.contains T)=true) (ht:aC4 T=some Ts) :
  SE X (.Call (.Name "isinstance" p) [a,.Name T q] [] pos) (xb (v.E st a) fun w=>fun _ h=>(ref h w).bind fun d=>some (.d (.bool (isi d Ts)),h)):=by
 intro κ M δ h s w h' R F e;obtain ⟨x,h1,e1,e⟩:=aG e;obtain ⟨z,ez,e⟩:=bind_some e;cases e;obtain ⟨n1,n2,n3⟩:=cY G hx;obtain ⟨m1,m2,m3⟩:=cY G hT;obtain ⟨hb,hk⟩:=aD7 ht;refine wpAny_Call_Name_kw (cX (u:=.builtin "isinstance") F R n2 n3 (by decide +kernel) n1 ?_);refine PyProof.Rows.callWith_builtin1 ?_ (aZ a hs) (bD pos [.Name T q] rfl);rw [aZ a hs];show Wp _ _ (spliced ((false,eval a X.env)::backTo pos (starEach [.Name T q] X.env))) _ _ s;refine Calls.spliced_cons (thn (S.E G a R F e1) fun u s1 ⟨M1,l1,R1,r1⟩=>?_);rw [aZ (X:=X) (es:=[]) (.Name T q) rfl];show Wp _ _ (spliced ((false,eval (.Name T q) X.env)::[])) _ _ s1;refine Calls.spliced_cons (cX (F.go l1) R1 m2 m3 hb m1 (Calls.spliced_nil ?_));exact thn (aM8 F.kin hk R1 r1 ez) fun _ _ q=>q.go l1
def oI (S:Snd v) (G:Good X st d) {id:String} {x:W} {h1 h2:aA} {ws:List W} {Q:Value->Shared->Prop} (slot:Slot "list" m id) (hty:typeOf (.builtin id)=pure (.type "method_descriptor")) (ho:fJ o=true) (hl:(apos.endLine==pos.line)=true) (hn:(a::es).length < 29)
  (R:Mem X.S κ M h s) (F:Fra X κ M δ) (e1:v.E st o δ h=some (x,h1)) (et:(∃ xs,DL.ref h1 x=some (.list xs))\/∃ i xs,x=.c i/\h1[i]?=some (.r xs)) (e2:aQ v st (a::es) δ h1=some (ws,h2))
  (q:∀ {M2 u us s2},Le M M2->Mem X.S κ M2 h2 s2->RepW X.S M2 x u->RepWs X.S M2 ws us->Wp X.S X.A (call (.builtin id) (u::us)) Q NE s2):Wp X.S X.A (eval (.Call (.Attribute o m apos) (a::es) [] pos) X.env) Q NE s:=by
 have hst:=dU e2;have hst':=hst;rw [List.all_cons,Bool.and_eq_true] at hst';refine wpAny_Call_method_late (oG ho _ _) (rL hst hn _ _) hl rfl (thn (S.E G o R F e1) fun u s1 ⟨M1,l1,R1,r1⟩=>?_);have ty:∃ b us n,u=.ref b/\s1.heap.get? b=some (bX us n):=by
  obtain ⟨xs,ex⟩ | ⟨i,xs,rfl,ei⟩:=et
  ·obtain ⟨b,us,n,rfl,ho,_⟩:=ref_l R1 r1 ex;exact ⟨b,us,n,rfl,ho⟩
  ·obtain ⟨p,ep,rfl⟩:=r1;obtain ⟨us,n,ho,_⟩:=R1.cel i p _ ep ei;exact ⟨_,us,n,rfl,ho⟩
 obtain ⟨b,us,n,rfl,hob⟩:=ty;refine ⟨"list",id,PySem.F.plainAttrs_list,slot,hty,(cA hob).isList.typeIs,fun c ec=>by cases ec;exact ⟨_,hob,rfl⟩,?_⟩;have hA:=bP S G _ pos R1 (F.go l1) e2;rw [aZ a hst'.1] at hA ⊢;refine Calls.callWith_builtin (by show (false||(backTo pos (starEach es X.env)).any (·.1))=false;rw [bD pos es hst'.2]<;>rfl) (Calls.evalArgs_plain ?_);exact thn hA fun us s2 ⟨M2,l2,R2,r2⟩=>q (l1.trans l2) R2 (r1.go l2) r2
end
end DL

namespace PySem
open PyProof.Rows
section
variable {prog:Program} {w:World} {A:Around} {E:Value->Shared->Prop} {s:Shared}
def hV {it t:Addr} {i:Nat} {items:Array Value} {x:Value} {Q:Value->Shared->Prop} (hit:s.heap.IsTupleIter it t i) (hl:s.heap.IsTuple t items) (hx:items[i]?=some x)
  (hQ:∀ h',h'.IsTupleIter it t (i+1)->Heap.SameBut it s.heap h'->Q x { s with heap:=h' }):wpAny (model prog w) A (Builtin.SmallTypes.nextOf (.ref it)) Q E s:=by
 obtain ⟨o,ho,hc,hd⟩:=id hit;obtain ⟨ol,hol,hlc,nl,hdl⟩:=hl;unfold Builtin.SmallTypes.nextOf;refine wpAny_bind (wpAny_callSpecial?_slot (hit.typeIs) F.slot_tuple_iterator_next (wpAny_call_entry F.slot_tuple_iterator_next hit.typeIs F.entry_tuple_iterator_next ?_ (F.args_tuple_iterator_next_1 _)));refine wpAny_bind (wpAny_pure (a:=(Value.ref it,[])) ?_);refine wpAny_bind (wpAny_field ho hd rfl ?_);rw [if_neg (by exact Bool.false_ne_true)];refine wpAny_bind (wpAny_field ho hd rfl ?_);refine wpAny_bind (wpAny_seqItems hol hdl ?_);show wpAny _ _ (match items[((i:Int)).toNat]? with | some x=>_ | none=>_) _ _ _;rw [Int.toNat_natCast,hx];refine wpAny_bind (wpAny_setField ho hd (by simp) ?_);refine wpAny_pure ⟨x,rfl,wpAny_pure (hQ _ ⟨_,Heap.get?_update_self _ ho (Obj.isFreed_of_fields (Obj.data_mapFields hd _)),(Obj.cls_mapFields o _).trans hc,?_⟩ (Heap.SameBut.update _ _ _))⟩;rw [Obj.data_mapFields hd];rfl
def jB {it t:Addr} {i:Nat} {items:Array Value} {Q:Value->Shared->Prop} (hh:A.handled=none) (hit:s.heap.IsTupleIter it t i) (hl:s.heap.IsTuple t items) (hx:items[i]?=none)
  (hE:∀ h' e,Heap.ExtBut it s.heap h'->(∃ o,h'.get? e=some o/\o.cls=.type "StopIteration")->E (.ref e) { s with heap:=h' }):wpAny (model prog w) A (Builtin.SmallTypes.nextOf (.ref it)) Q E s:=by
 obtain ⟨o,ho,hc,hd⟩:=id hit;obtain ⟨ol,hol,hlc,nl,hdl⟩:=hl;unfold Builtin.SmallTypes.nextOf;refine wpAny_bind (wpAny_callSpecial?_slot (hit.typeIs) F.slot_tuple_iterator_next (wpAny_call_entry F.slot_tuple_iterator_next hit.typeIs F.entry_tuple_iterator_next ?_ (F.args_tuple_iterator_next_1 _)));refine wpAny_bind (wpAny_pure (a:=(Value.ref it,[])) ?_);refine wpAny_bind (wpAny_field ho hd rfl ?_);rw [if_neg (by exact Bool.false_ne_true)];refine wpAny_bind (wpAny_field ho hd rfl ?_);refine wpAny_bind (wpAny_seqItems hol hdl ?_);show wpAny _ _ (match items[((i:Int)).toNat]? with | some x=>_ | none=>_) _ _ _;rw [Int.toNat_natCast,hx];refine wpAny_bind (wpAny_rule ?_);refine wpAny_bind (wpAny_setField ho hd (by simp) ?_);unfold Builtin.SmallTypes.stopIteration newExc;refine wpAny_bind (wpAny_bind (wpAny_newObj_type ?_ (by show (([]:List Value).toArray.size<=sizeLine);simp)));refine wpAny_bind (wpAny_pure (a:=Value.none) ?_);refine wpAny_newObj_type ?_ (sizeOk_excFields ..);unfold raiseNew;refine wpAny_bind (wpAny_handled ?_);rw [show A.in1.handled=none from hh];refine wpAny_throw (hE _ _ (fun b o' hb e=>?_) ⟨_,Heap.get?_push_size _ rfl,rfl⟩);refine Heap.get?_push_of_some _ (Heap.get?_push_of_some _ ?_);rw [(Heap.SameBut.update s.heap it _).2 b hb];exact e
noncomputable def SqAt:Bool->Heap->Addr->Array Value->Prop
 | true,h,l,xs=>h.IsTuple l xs
 | false,h,l,xs=>h.IsList l xs
noncomputable def ItAt:Bool->Heap->Addr->Addr->Nat->Prop
 | true,h,it,l,k=>h.IsTupleIter it l k
 | false,h,it,l,k=>h.IsListIter it l k
def hW (b:Bool) (l:Addr):Obj:={ cls:=.type (if b=true then "tuple_iterator" else "list_iterator"),data:=.fields #[.ref l,.int 0 0] }
def SqAt.keep {b:Bool} {h h':Heap} {l:Addr} {xs:Array Value} (x:SqAt b h l xs) (k:∀ o,h.get? l=some o->h'.get? l=some o):SqAt b h' l xs:=by
 cases b<;>exact let ⟨o,h1,h2⟩:=x;⟨o,k o h1,h2⟩
def ItAt.keep {b:Bool} {h h':Heap} {it l:Addr} {i:Nat} (x:ItAt b h it l i) (k:∀ o,h.get? it=some o->h'.get? it=some o):ItAt b h' it l i:=by
 cases b<;>exact let ⟨o,h1,h2⟩:=x;⟨o,k o h1,h2⟩
def ItAt.new {b:Bool} {h:Heap} {it l:Addr} (e:h.get? it=some (hW b l)):ItAt b h it l 0:=by
 cases b<;>exact ⟨_,e,rfl,rfl⟩
def dW {b:Bool} {l:Addr} {xs:Array Value} {Q:Value->Shared->Prop} (hl:SqAt b s.heap l xs) (h:Q (.ref s.heap.objs.size) { s with heap:=s.heap.push (hW b l) }):wpAny (model prog w) A (pyIter (.ref l)) Q E s:=by
 cases b
 ·exact wpAny_pyIter_list hl h
 ·exact wpAny_pyIter_tuple hl h
def eI {b:Bool} {it l:Addr} {i:Nat} {items:Array Value} {x:Value} {Q:Value->Shared->Prop} (hit:ItAt b s.heap it l i) (hl:SqAt b s.heap l items) (hx:items[i]?=some x)
  (hQ:∀ h',ItAt b h' it l (i+1)->Heap.SameBut it s.heap h'->Q x { s with heap:=h' }):wpAny (model prog w) A (Builtin.SmallTypes.nextOf (.ref it)) Q E s:=by
 cases b
 ·exact wpAny_nextOf_list_item hit hl hx hQ
 ·exact hV hit hl hx hQ
def gM {b:Bool} {it l:Addr} {i:Nat} {items:Array Value} {Q:Value->Shared->Prop} (hh:A.handled=none) (hit:ItAt b s.heap it l i) (hl:SqAt b s.heap l items) (hx:items[i]?=none)
  (hE:∀ h' e,Heap.ExtBut it s.heap h'->(∃ o,h'.get? e=some o/\o.cls=.type "StopIteration")->E (.ref e) { s with heap:=h' }):wpAny (model prog w) A (Builtin.SmallTypes.nextOf (.ref it)) Q E s:=by
 cases b
 ·exact wpAny_nextOf_list_end hh hit hl hx hE
 ·exact jB hh hit hl hx hE
abbrev zH1 (b:Bool) (h:Heap) (l1:Addr):Heap:=h.push (hW b l1)
abbrev zH2 (b c:Bool) (h:Heap) (l1 l2:Addr):Heap:=(zH1 b h l1).push (hW c l2)
abbrev zH3 (b c:Bool) (h:Heap) (l1 l2:Addr):Heap:=(zH2 b c h l1 l2).push { cls:=.type "tuple",data:=.seq #[.ref h.objs.size,.ref (zH1 b h l1).objs.size] }
abbrev zH4 (b c:Bool) (h:Heap) (l1 l2:Addr):Heap:=(zH3 b c h l1 l2).push { cls:=.type "tuple",data:=.seq #[.none,.none] }
abbrev zH5 (b c:Bool) (h:Heap) (l1 l2:Addr):Heap:=(zH4 b c h l1 l2).push { cls:=.type "zip",data:=.fields #[.none,.bool false,.bool false,.ref (zH2 b c h l1 l2).objs.size,.ref (zH3 b c h l1 l2).objs.size] }
def aD8 (b c:Bool) (l1 l2:Addr) (xs ys:Array Value):Meets (Builtin.«zip.__new__» { pos:=[.type "zip",.ref l1,.ref l2] }) fun _ R s=>SqAt b s.heap l1 xs/\SqAt c s.heap l2 ys /\
  R (.ok (.ret (.ref (zH4 b c s.heap l1 l2).objs.size))) { s with heap:=zH5 b c s.heap l1 l2 }:=by
 refine Meets.of_wp fun prog w A R s h=>?_;obtain ⟨h1,h2,h⟩:=h;unfold Builtin.«zip.__new__»;refine wpAny_bind (wpAny_pure (a:=(Value.type "zip",[Value.ref l1,Value.ref l2])) ?_);dsimp only;rw [if_neg (by decide)];refine wpAny_bind ?_;unfold Builtin.SmallTypes.iterAll;refine wpAny_bind ?_;rw [List.forIn_cons];refine wpAny_bind (wpAny_bind (wpAny_holding (dW h1 (wpAny_pure ?_))));dsimp only;rw [List.forIn_cons];refine wpAny_bind (wpAny_bind (wpAny_holding (dW (h2.keep fun o e=>Heap.get?_push_of_some _ e) (wpAny_pure ?_))));dsimp only;rw [List.forIn_nil];refine wpAny_pure (wpAny_pure ?_);refine wpAny_bind (wpAny_newObj_type ?_ (by show (_:Array Value).size<=sizeLine;simp [sizeLine_eq]));refine wpAny_bind (wpAny_newObj_type ?_ (by show (_:Array Value).size<=sizeLine;simp [sizeLine_eq]));refine wpAny_bind ?_;unfold Builtin.SmallTypes.newRecord;refine wpAny_newObj_type (wpAny_pure ⟨_,rfl,h⟩) ?_;simp [sizeOk,Builtin.SmallTypes.ownedTupleFields,sizeLine_eq]
def xV {b c:Bool} {l1 l2:Addr} {xs ys:Array Value} {Q:Value->Shared->Prop} (h1:SqAt b s.heap l1 xs) (h2:SqAt c s.heap l2 ys)
  (h:∀ h',IsZip h' (s.heap.objs.size+4) (s.heap.objs.size+2) (s.heap.objs.size+3) .none->IsPair h' (s.heap.objs.size+2) (.ref s.heap.objs.size) (.ref (s.heap.objs.size+1))->IsPair h' (s.heap.objs.size+3) .none .none ->
   ItAt b h' s.heap.objs.size l1 0->ItAt c h' (s.heap.objs.size+1) l2 0->h'.objs.size=s.heap.objs.size+5->(∀ a o,s.heap.get? a=some o->h'.get? a=some o)->Q (.ref (s.heap.objs.size+4)) { s with heap:=h' }) :
  wpAny (model prog w) A (call (.type "zip") [.ref l1,.ref l2]) Q E s:=by
 have z1:(zH1 b s.heap l1).objs.size=s.heap.objs.size+1:=Heap.size_push ..;have z2:(zH2 b c s.heap l1 l2).objs.size=s.heap.objs.size+2:=by rw [zH2,Heap.size_push,z1]
 have z3:(zH3 b c s.heap l1 l2).objs.size=s.heap.objs.size+3:=by rw [zH3,Heap.size_push,z2]
 have z4:(zH4 b c s.heap l1 l2).objs.size=s.heap.objs.size+4:=by rw [zH4,Heap.size_push,z3]
 have z5:(zH5 b c s.heap l1 l2).objs.size=s.heap.objs.size+5:=by rw [zH5,Heap.size_push,z4]
 have g5:(zH5 b c s.heap l1 l2).get? (zH4 b c s.heap l1 l2).objs.size=_:=Heap.get?_push_size _ rfl;have g4:(zH5 b c s.heap l1 l2).get? (zH3 b c s.heap l1 l2).objs.size=_:=Heap.get?_push_of_some _ (Heap.get?_push_size _ rfl);have g3:(zH5 b c s.heap l1 l2).get? (zH2 b c s.heap l1 l2).objs.size=_:=Heap.get?_push_of_some _ (Heap.get?_push_of_some _ (Heap.get?_push_size _ rfl));have g2:(zH5 b c s.heap l1 l2).get? (zH1 b s.heap l1).objs.size=_:=Heap.get?_push_of_some _ (Heap.get?_push_of_some _ (Heap.get?_push_of_some _ (Heap.get?_push_size _ rfl)));have g1:(zH5 b c s.heap l1 l2).get? s.heap.objs.size=_:=Heap.get?_push_of_some _ (Heap.get?_push_of_some _ (Heap.get?_push_of_some _ (Heap.get?_push_of_some _ (Heap.get?_push_size _ rfl))));refine callType_new F.called_zip (by decide) (F.typeCall_zip_2 _ _) (F.newCall_zip_2 _ _) (fun obj=>F.args_object_init_3 obj _ _) F.entry_zip_new (aD8 b c l1 l2 xs ys) ⟨h1,h2,?_⟩;have q:=h (zH5 b c s.heap l1 l2) (by rw [z4,z3,z2] at g5;exact g5) (by rw [z2,z1] at g3;exact g3) (by rw [z3] at g4;exact g4) (.new g1) (.new (by rw [z1] at g2;exact g2)) z5
  (fun a o e=>Heap.get?_push_of_some _ (Heap.get?_push_of_some _ (Heap.get?_push_of_some _ (Heap.get?_push_of_some _ (Heap.get?_push_of_some _ e)))))
 rw [<- z4] at q;exact ⟨⟨_,g5,rfl⟩,q⟩
def oJ {h:Heap} {z TI TO:Addr} {f0 x:Value} (hz:IsZip h z TI TO f0):IsZip (h.update z (Obj.mapFields fun a=>a.setIfInBounds 0 x)) z TI TO x:=by
 refine (Heap.get?_update_self _ hz (Obj.isFreed_of_fields (Obj.data_mapFields rfl _))).trans ?_;rfl
def xW {h:Heap} {z TI TO:Addr} {f0:Value} (hz:IsZip h z TI TO f0):IsZip (h.update z (Obj.mapFields fun a=>a.setIfInBounds 1 (.bool false))) z TI TO f0:=by
 refine (Heap.get?_update_self _ hz (Obj.isFreed_of_fields (Obj.data_mapFields rfl _))).trans ?_;rfl
structure ZApart (z TI TO i1 i2:Addr):Prop where
 TIz:TI≠z
 TOz:TO≠z
 i1z:i1≠z
 i2z:i2≠z
 TITO:TI≠TO
 TOi1:TO≠i1
 TOi2:TO≠i2
 TIi1:TI≠i1
 TIi2:TI≠i2
 i12:i1≠i2
def uT {b c:Bool} {z TI TO i1 i2 l1 l2:Addr} {k:Nat} {xs ys:Array Value} {x y u v:Value} {Q:Value->Shared->Prop} (D:ZApart z TI TO i1 i2) (hz:IsZip s.heap z TI TO .none) (hTI:IsPair s.heap TI (.ref i1) (.ref i2)) (hTO:IsPair s.heap TO u v)
  (h1:ItAt b s.heap i1 l1 k) (h2:ItAt c s.heap i2 l2 k) (q1:SqAt b s.heap l1 xs) (q2:SqAt c s.heap l2 ys) (nz1:l1≠z) (nz2:l2≠z) (nT2:l2≠TO) (n21:l2≠i1) (hx:xs[k]?=some x) (hy:ys[k]?=some y)
  (hQ:∀ h',IsZip h' z TI TO (rawInt s.heap.objs.size)->IsPair h' TO x y->ItAt b h' i1 l1 (k+1)->ItAt c h' i2 l2 (k+1)->IsPair h' s.heap.objs.size x y->h'.objs.size=s.heap.objs.size+1 ->
   (∀ a o,a≠z->a≠TO->a≠i1->a≠i2->s.heap.get? a=some o->h'.get? a=some o)->Q (.ref s.heap.objs.size) { s with heap:=h' }) :
  wpAny (model prog w) A (Builtin.«zip.__next__» { pos:=[.ref z] }) (fun fin s'=>∃ v,fin=Fin.done (.ret v)/\Q v s') E s:=by
 unfold Builtin.«zip.__next__»;refine wpAny_bind (wpAny_pure (a:=(Value.ref z,[])) ?_);refine wpAny_bind (wpAny_field hz rfl rfl ?_);refine wpAny_bind (wpAny_field hz rfl rfl ?_);refine wpAny_bind (wpAny_seqItems hTI rfl ?_);dsimp only;rw [if_neg (by simp)];refine wpAny_bind ?_;unfold Builtin.SmallTypes.ownedTupleIsFree;refine wpAny_bind (wpAny_field hz rfl rfl ?_);refine wpAny_pure ?_;rw [if_pos rfl];refine wpAny_bind (wpAny_rule ?_);refine wpAny_bind (wpAny_field hz rfl rfl ?_);refine wpAny_bind (wpAny_setField hz rfl (by simp) ?_);have e1:=Heap.SameBut.update s.heap z (Obj.mapFields fun a=>a.setIfInBounds 0 Value.ellipsis);have hz1:=oJ (x:=Value.ellipsis) hz;generalize s.heap.update z (Obj.mapFields fun a=>a.setIfInBounds 0 Value.ellipsis)=H1 at e1 hz1 ⊢;have h11:ItAt b H1 i1 l1 k:=h1.keep fun o e=>(e1.2 _ D.i1z).trans e;have q11:SqAt b H1 l1 xs:=q1.keep fun o e=>(e1.2 _ nz1).trans e;have hTO1:IsPair H1 TO u v:=(e1.2 _ D.TOz).trans hTO;refine wpAny_bind ?_;rw [show [Value.ref i1,Value.ref i2].zipIdx=[(Value.ref i1,0),(Value.ref i2,1)] from rfl,List.forIn_cons];refine wpAny_bind (wpAny_bind (wpAny_onRaise ?_))
 change wpAny _ _ (Builtin.SmallTypes.nextOf (Value.ref i1) >>= fun v=>pure (some v)) _ _ _
 refine wpAny_bind (eI h11 q11 hx fun H2 h12 e2=>wpAny_pure ?_);have hz2:IsZip H2 z TI TO .ellipsis:=(e2.2 _ D.i1z.symm).trans hz1;have hTO2:IsPair H2 TO u v:=(e2.2 _ D.TOi1).trans hTO1;refine wpAny_bind (wpAny_seqItems hTO2 rfl (wpAny_bind (wpAny_updateSeq_pair hTO2 fun H3 hTO3 e3=>wpAny_bind (wpAny_letGo (wpAny_pure ?_)))));have hTO3:IsPair H3 TO x v:=hTO3;have hz3:IsZip H3 z TI TO .ellipsis:=(e3.2 _ D.TOz.symm).trans hz2;have h23:ItAt c H3 i2 l2 k:=h2.keep fun o e=>(e3.2 _ D.TOi2.symm).trans ((e2.2 _ D.i12.symm).trans ((e1.2 _ D.i2z).trans e));have q23:SqAt c H3 l2 ys:=q2.keep fun o e=>(e3.2 _ nT2).trans ((e2.2 _ n21).trans ((e1.2 _ nz2).trans e));dsimp only;rw [List.forIn_cons];refine wpAny_bind (wpAny_bind (wpAny_onRaise ?_))
 change wpAny _ _ (Builtin.SmallTypes.nextOf (Value.ref i2) >>= fun v=>pure (some v)) _ _ _
 refine wpAny_bind (eI h23 q23 hy fun H4 h24 e4=>wpAny_pure ?_);have hz4:IsZip H4 z TI TO .ellipsis:=(e4.2 _ D.i2z.symm).trans hz3;have hTO4:IsPair H4 TO x v:=(e4.2 _ D.TOi2).trans hTO3;refine wpAny_bind (wpAny_seqItems hTO4 rfl (wpAny_bind (wpAny_updateSeq_pair hTO4 fun H5 hTO5 e5=>wpAny_bind (wpAny_letGo (wpAny_pure ?_)))));have hTO5:IsPair H5 TO x y:=hTO5;have hz5:IsZip H5 z TI TO .ellipsis:=(e5.2 _ D.TOz.symm).trans hz4;dsimp only;rw [List.forIn_nil];refine wpAny_pure ?_;refine wpAny_bind (wpAny_seqItems hTO5 rfl ?_);refine wpAny_bind (wpAny_newObj_type ?_ (by simp [sizeOk,sizeLine_eq]));have es:H5.objs.size=s.heap.objs.size:=by rw [e5.1,e4.1,e3.1,e2.1,e1.1]
 have g6:IsPair (H5.push { cls:=.type "tuple",data:=.seq #[x,y] }) H5.objs.size x y:=Heap.get?_push_size _ rfl;have k6:∀ a o,H5.get? a=some o->(H5.push { cls:=.type "tuple",data:=.seq #[x,y] }).get? a=some o:=fun a o e=>Heap.get?_push_of_some _ e;have s6:(H5.push { cls:=.type "tuple",data:=.seq #[x,y] }).objs.size=s.heap.objs.size+1:=by rw [Heap.size_push,es]
 have hz6:=k6 _ _ hz5;refine wpAny_bind ?_;unfold Builtin.SmallTypes.ownedTupleHandOut;refine wpAny_bind (wpAny_setField hz6 rfl (by simp) ?_);have hz7:=oJ (x:=rawInt H5.objs.size) hz6;refine wpAny_setField hz7 rfl (by simp) ?_;have hz8:=xW hz7;have e7:=Heap.SameBut.update (H5.push { cls:=.type "tuple",data:=.seq #[x,y] }) z (Obj.mapFields fun a=>a.setIfInBounds 0 (rawInt H5.objs.size));have e8:=Heap.SameBut.update ((H5.push { cls:=.type "tuple",data:=.seq #[x,y] }).update z (Obj.mapFields fun a=>a.setIfInBounds 0 (rawInt H5.objs.size))) z (Obj.mapFields fun a=>a.setIfInBounds 1 (.bool false));have kk:∀ a o,a≠z->H5.get? a=some o->(((H5.push { cls:=.type "tuple",data:=.seq #[x,y] }).update z (Obj.mapFields fun a=>a.setIfInBounds 0 (rawInt H5.objs.size))).update z (Obj.mapFields fun a=>a.setIfInBounds 1 (.bool false))).get? a=some o :=
  fun a o n e=>(e8.2 a n).trans ((e7.2 a n).trans (k6 a o e))
 have nsz:H5.objs.size≠z:=fun e=>by
  have:=Heap.lt_size hz5;rw [<- e] at this;exact Nat.lt_irrefl _ this
 have g8:=(e8.2 _ nsz).trans ((e7.2 _ nsz).trans g6);have hs8:=e8.1.trans (e7.1.trans s6);have h15:ItAt b H5 i1 l1 (k+1):=h12.keep fun o e=>(e5.2 _ D.TOi1.symm).trans ((e4.2 _ D.i12).trans ((e3.2 _ D.TOi1.symm).trans e));have h25:ItAt c H5 i2 l2 (k+1):=h24.keep fun o e=>(e5.2 _ D.TOi2.symm).trans e;have q:=hQ _ (by rw [es] at hz8;rw [es];exact hz8) (kk _ _ D.TOz hTO5) (h15.keep fun o e=>kk _ _ D.i1z e) (h25.keep fun o e=>kk _ _ D.i2z e) (by rw [<- es];exact g8) hs8
  (fun a o n1 n2 n3 n4 e=>kk _ _ n1 ((e5.2 _ n2).trans ((e4.2 _ n4).trans ((e3.2 _ n2).trans ((e2.2 _ n3).trans ((e1.2 _ n1).trans e))))))
 refine wpAny_pure ⟨_,rfl,?_⟩;rw [<- es] at q;exact q
def xX {b c:Bool} {z TI TO i1 i2 l1 l2:Addr} {k:Nat} {xs ys:Array Value} {u v:Value} {Q:Fin->Shared->Prop} (hh:A.handled=none) (D:ZApart z TI TO i1 i2) (hz:IsZip s.heap z TI TO .none) (hTI:IsPair s.heap TI (.ref i1) (.ref i2)) (hTO:IsPair s.heap TO u v)
  (h1:ItAt b s.heap i1 l1 k) (h2:ItAt c s.heap i2 l2 k) (q1:SqAt b s.heap l1 xs) (q2:SqAt c s.heap l2 ys) (nz1:l1≠z) (nz2:l2≠z) (nT2:l2≠TO) (n21:l2≠i1) (hn:xs[k]?=none\/ys[k]?=none)
  (hE:∀ h' e,(∀ a o,a≠z->a≠TO->a≠i1->a≠i2->s.heap.get? a=some o->h'.get? a=some o)->(∃ o,h'.get? e=some o/\o.cls=.type "StopIteration")->E (.ref e) { s with heap:=h' }) :
  wpAny (model prog w) A (Builtin.«zip.__next__» { pos:=[.ref z] }) Q E s:=by
 unfold Builtin.«zip.__next__»;refine wpAny_bind (wpAny_pure (a:=(Value.ref z,[])) ?_);refine wpAny_bind (wpAny_field hz rfl rfl ?_);refine wpAny_bind (wpAny_field hz rfl rfl ?_);refine wpAny_bind (wpAny_seqItems hTI rfl ?_);dsimp only;rw [if_neg (by simp)];refine wpAny_bind ?_;unfold Builtin.SmallTypes.ownedTupleIsFree;refine wpAny_bind (wpAny_field hz rfl rfl ?_);refine wpAny_pure ?_;rw [if_pos rfl];refine wpAny_bind (wpAny_rule ?_);refine wpAny_bind (wpAny_field hz rfl rfl ?_);refine wpAny_bind (wpAny_setField hz rfl (by simp) ?_);have e1:=Heap.SameBut.update s.heap z (Obj.mapFields fun a=>a.setIfInBounds 0 Value.ellipsis);have hz1:=oJ (x:=Value.ellipsis) hz;generalize s.heap.update z (Obj.mapFields fun a=>a.setIfInBounds 0 Value.ellipsis)=H1 at e1 hz1 ⊢;have h11:ItAt b H1 i1 l1 k:=h1.keep fun o e=>(e1.2 _ D.i1z).trans e;have q11:SqAt b H1 l1 xs:=q1.keep fun o e=>(e1.2 _ nz1).trans e;have hTO1:IsPair H1 TO u v:=(e1.2 _ D.TOz).trans hTO;have aO:∀ (H4 H5:Heap) (e:Addr),IsZip H5 z TI TO .ellipsis->(∀ a o,a≠z->a≠TO->a≠i1->a≠i2->s.heap.get? a=some o->H5.get? a=some o)->(∃ o,H5.get? e=some o/\o.cls=.type "StopIteration") ->
   wpAny (model prog w) A (setField (.ref z) 0 .none) (fun _ s''=>E (.ref e) s'') E { s with heap:=H5 }:=fun H4 H5 e hz5 kk ⟨o,ho,hc⟩=>by
  refine wpAny_setField hz5 rfl (by simp) ?_;have e6:=Heap.SameBut.update H5 z (Obj.mapFields fun a=>a.setIfInBounds 0 Value.none);refine hE _ e (fun a o n1 n2 n3 n4 g=>(e6.2 _ n1).trans (kk a o n1 n2 n3 n4 g)) ⟨o,(e6.2 _ fun z'=>?_).trans ho,hc⟩;rw [z'] at ho;have hz5:H5.get? z=_:=hz5;rw [ho] at hz5;cases hz5;simp at hc
 refine wpAny_bind ?_;rw [show [Value.ref i1,Value.ref i2].zipIdx=[(Value.ref i1,0),(Value.ref i2,1)] from rfl,List.forIn_cons];refine wpAny_bind (wpAny_bind (wpAny_onRaise ?_))
 change wpAny _ _ (Builtin.SmallTypes.nextOf (Value.ref i1) >>= fun v=>pure (some v)) _ _ _
 by_cases hx:xs[k]?=none
 ·refine wpAny_bind (gM hh h11 q11 hx fun H2 e g2 he=>aO H2 H2 e ?_ (fun a o n1 n2 n3 n4 g=>?_) he)
  ·exact g2 _ _ D.i1z.symm hz1
  ·exact g2 _ _ n3 ((e1.2 _ n1).trans g)
 obtain ⟨x,hx⟩:=Option.ne_none_iff_exists'.mp hx;have hy:ys[k]?=none:=hn.resolve_left (by rw [hx];simp);refine wpAny_bind (eI h11 q11 hx fun H2 h12 e2=>wpAny_pure ?_);have hz2:IsZip H2 z TI TO .ellipsis:=(e2.2 _ D.i1z.symm).trans hz1;have hTO2:IsPair H2 TO u v:=(e2.2 _ D.TOi1).trans hTO1;refine wpAny_bind (wpAny_seqItems hTO2 rfl (wpAny_bind (wpAny_updateSeq_pair hTO2 fun H3 hTO3 e3=>wpAny_bind (wpAny_letGo (wpAny_pure ?_)))));have hz3:IsZip H3 z TI TO .ellipsis:=(e3.2 _ D.TOz.symm).trans hz2;have h23:ItAt c H3 i2 l2 k:=h2.keep fun o e=>(e3.2 _ D.TOi2.symm).trans ((e2.2 _ D.i12.symm).trans ((e1.2 _ D.i2z).trans e));have q23:SqAt c H3 l2 ys:=q2.keep fun o e=>(e3.2 _ nT2).trans ((e2.2 _ n21).trans ((e1.2 _ nz2).trans e));dsimp only;rw [List.forIn_cons];refine wpAny_bind (wpAny_bind (wpAny_onRaise ?_))
 change wpAny _ _ (Builtin.SmallTypes.nextOf (Value.ref i2) >>= fun v=>pure (some v)) _ _ _
 refine wpAny_bind (gM hh h23 q23 hy fun H4 e g4 he=>aO H4 H4 e ?_ (fun a o n1 n2 n3 n4 g=>?_) he)
 ·exact g4 _ _ D.i2z.symm hz3
 ·exact g4 _ _ n4 ((e3.2 _ n2).trans ((e2.2 _ n3).trans ((e1.2 _ n1).trans g)))
end
end PySem
namespace PySem
open PySem.Spec PyProof.Rows
def SqAt.ob {b:Bool} {h:Heap} {l:Addr} {xs:Array Value} (x:SqAt b h l xs):∃ o,h.get? l=some o:=by cases b<;>exact ⟨_,x.choose_spec.1⟩
def ItAt.ob {b:Bool} {h:Heap} {it l:Addr} {i:Nat} (x:ItAt b h it l i):∃ o,h.get? it=some o:=by cases b<;>exact ⟨_,x.choose_spec.1⟩
def xY (b:Bool) (l:Addr) (xs:Array Value):Meets (Builtin.«enumerate.__new__» ⟨[.type "enumerate",.ref l],[]⟩) fun _ R s=>SqAt b s.heap l xs /\
  R (.ok (.ret (.ref (s.heap.push (hW b l)).objs.size))) { s with heap:=(s.heap.push (hW b l)).push { cls:=.type "enumerate",data:=.fields #[.none,.bool false,.ref s.heap.objs.size,rawInt 0,.none,.none] } }:=by
 refine Meets.of_wp fun prog w A R s h=>?_;obtain ⟨h1,h⟩:=h;obtain ⟨o,ho⟩:=h1.ob;obtain ⟨hp,g,d,tk,os⟩:=s;have hsub:=sub_enumerate
 wp_walk using AutoSeq1.wpAny_loadPart' ho
 refine wpAny_stack_any fun st=>wpAny_pure ?_;split
 ·rename_i c _ _ _ _ _;cases (c==Value.type "enumerate")
  ·wp_walk using AutoSeq1.wpAny_loadPart' ho,dW h1
   exact ⟨_,rfl,h⟩
  ·wp_walk using AutoSeq1.wpAny_loadPart' ho,dW h1
   exact ⟨_,rfl,h⟩
 ·wp_walk using AutoSeq1.wpAny_loadPart' ho,dW h1
  exact ⟨_,rfl,h⟩
section
variable {prog:Program} {w:World} {A:Around} {E:Value->Shared->Prop} {s:Shared}
def aD9 {b:Bool} {e it l:Addr} {i:Nat} {items:Array Value} {x old:Value} {Q:Option Value->Shared->Prop}
  (he:IsEnum s.heap e it i old) (hit:ItAt b s.heap it l i) (hl:SqAt b s.heap l items) (hx:items[i]?=some x) (hne:e≠it)
  (hQ:∀ h',IsEnumOut h' e it ((i:Int)+1) x s.heap.objs.size->ItAt b h' it l (i+1)->h'.get? s.heap.objs.size=some { cls:=.type "tuple",data:=.seq #[.int i s.toks,x] }->h'.objs.size=s.heap.objs.size+1 ->
   (∀ c o,c≠e->c≠it->s.heap.get? c=some o->h'.get? c=some o)->Q (some (.ref s.heap.objs.size)) { s with heap:=h',toks:=s.toks+1 }):wpAny (model prog w) A (pyNext (.ref e)) Q E s:=by
 have hT:s.TypeIs (.ref e) "enumerate":=⟨_,he,rfl⟩;have ne':∀ {h1 h2:Heap},Heap.SameBut e h1 h2->∀ o,h1.get? it=some o->h2.get? it=some o:=fun sb o q=>(sb.2 _ hne.symm).trans q;unfold pyNext;refine wpAny_bind (wpAny_attempt (wpAny_callSpecial?_slot (name:=Str.ofString "__next__") hT F.slot_enumerate_next (wpAny_call_entry F.slot_enumerate_next hT F.entry_enumerate_next ?_ (F.args_enumerate_next_1 _))));unfold Builtin.«enumerate.__next__»;refine wpAny_bind (wpAny_pure (a:=(Value.ref e,[])) (wpAny_bind (wpAny_field he rfl (x:=.ref it) rfl (wpAny_bind (eI hit hl hx fun H1 it1 e1=>?_)))));have he1:IsEnum H1 e it i old:=(e1.2 _ hne).trans he;refine wpAny_bind (wpAny_field he1 rfl (x:=rawInt i) rfl ?_);dsimp only [rawInt];refine wpAny_bind (wpAny_field he1 rfl (x:=.none) rfl ?_);rw [if_pos (by rfl)];refine wpAny_bind (wpAny_mkInt ?_);refine wpAny_bind (wpAny_setField_rec he1 (by simp) fun H2 he2 s2=>wpAny_bind (wpAny_setField_rec (s:={ s with heap:=H2,toks:=s.toks+1 }) he2 (by simp) fun H3 he3 s3=>?_));have he3':IsEnum H3 e it ((i:Int)+1) old:=he3;have z3:H3.objs.size=s.heap.objs.size:=by
  have q2:H2.objs.size=H1.objs.size:=s2.1;have q3:H3.objs.size=H2.objs.size:=s3.1;rw [q3,q2];exact e1.1
 refine wpAny_bind (wpAny_newTuple (items:=[.int i s.toks,x]) ?_);have he4:IsEnum (H3.push { cls:=.type "tuple",data:=.seq #[.int i s.toks,x] }) e it ((i:Int)+1) old:=Heap.get?_push_of_some _ he3';have g4:(H3.push { cls:=.type "tuple",data:=.seq #[.int i s.toks,x] }).get? s.heap.objs.size=some { cls:=.type "tuple",data:=.seq #[.int i s.toks,x] }:=by rw [<- z3];exact Heap.get?_push_size _ rfl
 have z4:(H3.push { cls:=.type "tuple",data:=.seq #[.int i s.toks,x] }).objs.size=s.heap.objs.size+1:=by rw [Heap.size_push,z3]
 have k4:∀ c o,c≠e->c≠it->s.heap.get? c=some o->(H3.push { cls:=.type "tuple",data:=.seq #[.int i s.toks,x] }).get? c=some o:=fun c o n1 n2 q=>Heap.get?_push_of_some _ ((s3.2 _ n1).trans ((s2.2 _ n1).trans ((e1.2 _ n2).trans q)));have it4:ItAt b (H3.push { cls:=.type "tuple",data:=.seq #[.int i s.toks,x] }) it l (i+1):=it1.keep fun o q=>Heap.get?_push_of_some _ (ne' s3 o (ne' s2 o q));refine wpAny_bind ?_;unfold Builtin.SmallTypes.ownedTupleIsFree;refine wpAny_bind (wpAny_field he4 rfl (x:=.none) rfl (wpAny_pure ?_));rw [if_pos rfl];have el:s.heap.objs.size≠e:=Nat.ne_of_gt (Heap.lt_size he);refine wpAny_bind (wpAny_rule (wpAny_bind (wpAny_field he4 rfl (x:=old) rfl (wpAny_bind (wpAny_setField_rec (s:={ s with heap:=H3.push { cls:=.type "tuple",data:=.seq #[.int i s.toks,x] },toks:=s.toks+1 }) he4 (by simp) fun H5 he5 s5=>wpAny_bind ?_)))));unfold Builtin.SmallTypes.ownedTupleHandOut;rw [z3];refine wpAny_bind (wpAny_setField_rec (s:={ s with heap:=H5,toks:=s.toks+1 }) he5 (by simp) fun H6 he6 s6=>wpAny_setField_rec (s:={ s with heap:=H6,toks:=s.toks+1 }) he6 (by simp) fun H7 he7 s7=>wpAny_bind (wpAny_letGo (wpAny_pure ⟨_,rfl,wpAny_pure (hQ H7 he7 ?_ ?_ ?_ fun c o n1 n2 q=>?_)⟩)))
 ·exact it4.keep fun o q=>ne' s7 o (ne' s6 o (ne' s5 o q))
 ·exact (s7.2 _ el).trans ((s6.2 _ el).trans ((s5.2 _ el).trans g4))
 ·have q5:H5.objs.size=_:=s5.1;have q6:H6.objs.size=H5.objs.size:=s6.1;have q7:H7.objs.size=H6.objs.size:=s7.1;rw [q7,q6,q5];exact z4
 ·exact (s7.2 _ n1).trans ((s6.2 _ n1).trans ((s5.2 _ n1).trans (k4 c o n1 n2 q)))
def aO5 {b:Bool} {e it l:Addr} {i:Nat} {items:Array Value} {old:Value} {Q:Option Value->Shared->Prop} (hh:A.handled=none) (he:IsEnum s.heap e it i old) (hit:ItAt b s.heap it l i) (hl:SqAt b s.heap l items) (hx:items[i]?=none)
  (hQ:∀ h',(∀ c o,c≠it->s.heap.get? c=some o->h'.get? c=some o)->Q none { s with heap:=h' }):wpAny (model prog w) A (pyNext (.ref e)) Q E s:=by
 have hT:s.TypeIs (.ref e) "enumerate":=⟨_,he,rfl⟩;unfold pyNext;refine wpAny_bind (wpAny_attempt (wpAny_callSpecial?_slot (name:=Str.ofString "__next__") hT F.slot_enumerate_next (wpAny_call_entry F.slot_enumerate_next hT F.entry_enumerate_next ?_ (F.args_enumerate_next_1 _))));unfold Builtin.«enumerate.__next__»;refine wpAny_bind (wpAny_pure (a:=(Value.ref e,[])) (wpAny_bind (wpAny_field he rfl (x:=.ref it) rfl (wpAny_bind (gM (A:=A.in1) hh hit hl hx fun H1 x k1 ⟨o,ho,hc⟩=>?_)))));exact wpAny_bind (wpAny_isInstance ⟨o,ho,hc⟩ isSubtype_stop (wpAny_pure (hQ H1 k1)))
end
end PySem

namespace DL
open PySem PySem.Spec PyProof.Rows L2 CI
section
variable {S:Sx} {κ:Kp} {M M0:Mp} {h:aA} {s:Shared} {A:Around} {E:Value->Shared->Prop} {elts:List Expr} {n:Nat} {pos:Pos}
def SqZ (M:Mp) (b:Bool) (a:Addr) (us:List Value):Prop:=∃ n,M.Z a=some { cls:=.type (if b=true then "tuple" else "list"),data:=.seq us.toArray n }
def SqZ.at {b:Bool} {a:Addr} {us:List Value} (x:SqZ M0 b a us) (l:Le M0 M) (R:Mem S κ M h s):SqAt b s.heap a us.toArray:=by
 obtain ⟨n,e⟩:=x;have e:=R.z _ _ (l.z _ _ e);cases b
 ·exact (cA e).isList
 ·exact eE e
def SqZ.ne {b:Bool} {a c:Addr} {us:List Value} (x:SqZ M0 b a us) (l:Le M0 M) (f:bH κ M c):a≠c:=fun z=>by
 obtain ⟨n,e⟩:=x;have e:=l.z _ _ e;rw [z,f.1] at e;cases e
def xZ {w:W} {u:Value} {xs:List PyData} (e:gX w=some xs) (r:RepW S M w u):∃ b a us,u=.ref a/\SqZ M b a us/\us.length<=sizeLine/\Reps' S M xs us:=by
 unfold gX at e;split at e
 ·cases e;obtain ⟨a,o,us,rfl,z,⟨⟨n,rfl⟩,hz⟩,rr⟩:=rep_l.mp (show Rep S M.Z _ _ from r);exact ⟨false,a,us,rfl,⟨n,z⟩,hz,rr⟩
 ·cases e;obtain ⟨a,o,us,rfl,z,⟨⟨n,rfl⟩,hz⟩,rr⟩:=rep_t.mp (show Rep S M.Z _ _ from r);exact ⟨true,a,us,rfl,⟨n,z⟩,hz,rr⟩
 ·cases e
def Mem.pair {h2:Heap} {t:Nat} {fp:List Addr} {x y:PyData} {u v:Value} (R:Mem S κ M h s) (hf:∀ b∈fp,bH κ M b) (hs:∀ b∈fp,∃ o,s.heap.get? b=some o) (k:∀ b o,b∉fp->s.heap.get? b=some o->h2.get? b=some o) (e:h2.get? s.heap.objs.size=some { cls:=.type "tuple",data:=.seq #[u,v] }) (rx:Rep S M.Z x u) (ry:Rep S M.Z y v) :
  ∃ M',Le M M'/\Mem S κ M' h { s with heap:=h2,toks:=t }/\Rep S M'.Z (.tuple [x,y]) (.ref s.heap.objs.size)/\∀ b∈fp,bH κ M' b:=by
 have R1:Mem S κ M h { s with heap:=h2,toks:=t }:=R.turn hf k;refine ⟨_,.add R.size.1,R1.frz R.size e,rep_t.mpr ⟨_,_,[u,v],rfl,kM,⟨⟨0,rfl⟩,by simp [sizeLine_eq]⟩,.cons (Rep.go (Le.add R.size.1).z rx) (.cons (Rep.go (Le.add R.size.1).z ry) .nil)⟩,fun b hb=>⟨?_,(hf b hb).2⟩⟩;obtain ⟨o,q⟩:=hs b hb;show (if b=s.heap.objs.size then _ else M.Z b)=none;rw [if_neg (Nat.ne_of_lt (Heap.lt_size q))];exact (hf b hb).1
def ZSt (b c:Bool) (z TI TO i1 i2 l1 l2:Addr) (i:Nat) (h:Heap):Prop :=
 IsZip h z TI TO .none/\IsPair h TI (.ref i1) (.ref i2)/\(∃ u v,IsPair h TO u v)/\ItAt b h i1 l1 i/\ItAt c h i2 l2 i
def ZSt.obj {b c:Bool} {z TI TO i1 i2 l1 l2:Addr} {i:Nat} {h:Heap} (st:ZSt b c z TI TO i1 i2 l1 l2 i h):∀ a∈[z,TI,TO,i1,i2],∃ o,h.get? a=some o:=fun a ha=>by
 obtain ⟨s1,s2,⟨u,v,s3⟩,s4,s5⟩:=st;simp only [List.mem_cons,List.not_mem_nil,or_false] at ha;rcases ha with rfl | rfl | rfl | rfl | rfl
 ·exact ⟨_,s1⟩
 ·exact ⟨_,s2⟩
 ·exact ⟨_,s3⟩
 ·exact s4.ob
 ·exact s5.ob
def aO6 {xs ys:List PyData} {i:Nat} {x:PyData} (e:(eY xs ys)[i]?=some x):∃ a b,xs[i]?=some a/\ys[i]?=some b/\x=.tuple [a,b]:=by
 unfold eY at e;rw [List.getElem?_zipWith] at e;cases q1:xs[i]? with
 | none=>rw [q1] at e;cases e
 | some a =>
  cases q2:ys[i]? with
  | none=>rw [q1,q2] at e;cases e
  | some b=>rw [q1,q2] at e;cases e;exact ⟨a,b,rfl,rfl,rfl⟩
def yA {b c:Bool} {z TI TO i1 i2 l1 l2:Addr} {xs ys:List PyData} {us vs:List Value} (D:ZApart z TI TO i1 i2) (q1:SqZ M0 b l1 us) (q2:SqZ M0 c l2 vs) (r1:Reps' S M0 xs us) (r2:Reps' S M0 ys vs):Turn S (.Tuple elts n pos) (eY xs ys) none M0 [z,TI,TO,i1,i2] z (ZSt b c z TI TO i1 i2 l1 l2) where
 obj:=fun i h st=>st.obj
 keep:=fun i h h' st k=>by
  obtain ⟨s1,s2,⟨u,v,s3⟩,s4,s5⟩:=st;exact ⟨k z (by simp) _ s1,k TI (by simp) _ s2,⟨u,v,k TO (by simp) _ s3⟩,s4.keep fun o e=>k i1 (by simp) o e,s5.keep fun o e=>k i2 (by simp) o e⟩
 item:=by
  intro A κ M h s E i x hd R l hf st hx co;obtain ⟨x1,x2,h1,h2,rfl⟩:=aO6 hx;obtain ⟨u1,hu1,ru1⟩:=kH (r1.go l) h1;obtain ⟨u2,hu2,ru2⟩:=kH (r2.go l) h2;have ob:=st.obj;obtain ⟨s1,s2,⟨u,v,s3⟩,s4,s5⟩:=st;have hT:s.TypeIs (.ref z) "zip":=⟨_,s1,rfl⟩;have fz:=hf z (by simp);have fTO:=hf TO (by simp);have fi1:=hf i1 (by simp);refine wpAny_bind (wpAny_attempt (wpAny_callSpecial?_slot hT F.slot_zip_next (wpAny_call_entry F.slot_zip_next hT F.entry_zip_next
   (uT D s1 s2 s3 s4 s5 (q1.at l R) (q2.at l R) (q1.ne l fz) (q2.ne l fz) (q2.ne l fTO) (q2.ne l fi1) (x:=u1) (y:=u2) (by simpa using hu1) (by simpa using hu2)
    fun h' a1 a2 a3 a4 a5 a6 a7=>wpAny_pure ?_) (F.args_zip_next_1 _))))
  refine ⟨_,rfl,wpAny_letOwnedTupleGo_zip (s:={ s with heap:=h' }) a1 fun h'' b1 b2=>?_⟩;have zs:s.heap.objs.size≠z:=Nat.ne_of_gt (Heap.lt_size s1);obtain ⟨M',l',R',r',f'⟩:=R.pair (h2:=h'') (t:=s.toks) hf ob (fun a o ha e=>by
   simp only [List.mem_cons,List.not_mem_nil,or_false,not_or] at ha;exact (b2.2 a ha.1).trans (a7 a o ha.1 ha.2.2.1 ha.2.2.2.1 ha.2.2.2.2 e)) ((b2.2 _ zs).trans a5) ru1 ru2
  exact ⟨M',l',R',r',⟨b1,(b2.2 _ D.TIz).trans (a7 _ _ D.TIz D.TITO D.TIi1 D.TIi2 s2),⟨u1,u2,(b2.2 _ D.TOz).trans a2⟩,a3.keep fun o e=>(b2.2 _ D.i1z).trans e,a4.keep fun o e=>(b2.2 _ D.i2z).trans e⟩,f'⟩
 done:=by
  intro A κ M h s E i hd R l hf st hl co;obtain ⟨s1,s2,⟨u,v,s3⟩,s4,s5⟩:=st;have k1:=r1.length;have k2:=r2.length;unfold eY at hl;rw [List.length_zipWith] at hl;have hT:s.TypeIs (.ref z) "zip":=⟨_,s1,rfl⟩;have fz:=hf z (by simp);have fTO:=hf TO (by simp);have fi1:=hf i1 (by simp);refine wpAny_bind (wpAny_attempt (wpAny_callSpecial?_slot hT F.slot_zip_next (wpAny_call_entry F.slot_zip_next hT F.entry_zip_next
   (xX hd D s1 s2 s3 s4 s5 (q1.at l R) (q2.at l R) (q1.ne l fz) (q2.ne l fz) (q2.ne l fTO) (q2.ne l fi1) (by simp;omega)
    fun h' e kk ⟨o,ho,hc⟩=>wpAny_bind (wpAny_isInstance ⟨o,ho,hc⟩ isSubtype_stop (wpAny_pure ⟨rfl,?_⟩))) (F.args_zip_next_1 _))))
  exact R.turn (t:=s.toks) hf fun a o ha e=>by
   simp only [List.mem_cons,List.not_mem_nil,or_false,not_or] at ha;exact kk a o ha.1 ha.2.2.1 ha.2.2.2.1 ha.2.2.2.2 e
 self:=fun _ _ _ _ _ st h=>wpAny_pyIter_zip st.1 h
theorem mQ:∀ {xs:List PyData} {k i:Nat} {z:PyData},(enumF k xs)[i]?=some z->∃ x,xs[i]?=some x/\z=.tuple [.int (k+i:Nat),x]
 | [],_,_,_,e=>by simp [enumF] at e
 | x::xs,k,0,z,e=>by simp [enumF] at e;exact ⟨x,rfl,by rw [<- e];simp⟩
 | x::xs,k,i+1,z,e=>by
  obtain ⟨y,h1,h2⟩:=mQ (xs:=xs) (k:=k+1) (i:=i) (by simpa [enumF] using e);exact ⟨y,by simpa using h1,by rw [h2,show k+1+i=k+(i+1) by omega]⟩
theorem fR:∀ (xs:List PyData) (k:Nat),(enumF k xs).length=xs.length
 | [],_=>rfl
 | _::xs,k=>by rw [enumF,List.length_cons,List.length_cons,fR]
def ESt (b:Bool) (e it l:Addr) (i:Nat) (h:Heap):Prop:=(∃ old,IsEnum h e it i old)/\ItAt b h it l i
def uU {b:Bool} {e it l:Addr} {all:List PyData} {c:Cw} (hne:e≠it) (hq:∀ {κ:Kp} {M:Mp} {h:aA} {s:Shared},Mem S κ M h s->Le M0 M->condB c all h=true->∃ xs us,all=bB xs/\SqAt b s.heap l us.toArray/\Reps' S M xs us):Turn S (.Tuple elts n pos) all c M0 [e,it] e (ESt b e it l) where
 obj:=fun i h st a ha=>by
  obtain ⟨⟨old,s1⟩,s2⟩:=st;simp only [List.mem_cons,List.not_mem_nil,or_false] at ha;rcases ha with rfl | rfl
  ·exact ⟨_,s1⟩
  ·exact s2.ob
 keep:=fun i h h' st k=>by
  obtain ⟨⟨old,s1⟩,s2⟩:=st;exact ⟨⟨old,k e (by simp) _ s1⟩,s2.keep fun o q=>k it (by simp) o q⟩
 item:=by
  intro A κ M h s E i x hd R l' hf st hx co;obtain ⟨xs,us,rfl,q1,r1⟩:=hq R l' co;obtain ⟨y,h1,rfl⟩:=mQ hx;rw [Nat.zero_add];obtain ⟨u,hu,ru⟩:=kH r1 h1;obtain ⟨⟨old,s1⟩,s2⟩:=st;refine aD9 s1 s2 q1 (x:=u) (by simpa using hu) hne fun h' a1 a2 a3 a4 a5=>⟨_,rfl,wpAny_letOwnedTupleGo_enum (s:={ s with heap:=h',toks:=s.toks+1 }) a1 fun h'' b1 b2=>?_⟩;have zs:s.heap.objs.size≠e:=Nat.ne_of_gt (Heap.lt_size s1);obtain ⟨M',l2,R',r',f'⟩:=R.pair (h2:=h'') (t:=s.toks+1) (x:=.int i) hf (fun a ha=>by
   simp only [List.mem_cons,List.not_mem_nil,or_false] at ha;rcases ha with rfl | rfl
   ·exact ⟨_,s1⟩
   ·exact s2.ob) (fun a o ha q=>by
   simp only [List.mem_cons,List.not_mem_nil,or_false,not_or] at ha;exact (b2.2 a ha.1).trans (a5 a o ha.1 ha.2 q)) ((b2.2 _ zs).trans a3) (rep_i.mpr ⟨_,rfl⟩) ru
  refine ⟨M',l2,R',r',⟨⟨u,?_⟩,a2.keep fun o q=>(b2.2 _ hne.symm).trans q⟩,f'⟩;have:((i+1:Nat):Int)=(i:Int)+1:=by omega
  unfold IsEnum;rw [this];exact b1
 done:=by
  intro A κ M h s E i hd R l' hf st hl co;obtain ⟨xs,us,rfl,q1,r1⟩:=hq R l' co;obtain ⟨⟨old,s1⟩,s2⟩:=st;have k1:=r1.length;unfold bB at hl;rw [fR] at hl;refine aO5 hd s1 s2 q1 (by simp;omega) fun h' kk=>⟨rfl,?_⟩;exact R.turn (t:=s.toks) hf fun a o ha q=>by
   simp only [List.mem_cons,List.not_mem_nil,or_false,not_or] at ha;exact kk a o ha.2 q
 self:=fun _ _ s _ _ st h=>by
  obtain ⟨⟨old,s1⟩,s2⟩:=st;have hT:s.TypeIs (.ref e) "enumerate":=⟨_,s1,rfl⟩;refine wpAny_pyIter_slot hT PySem.F.slot_enumerate_iter (wpAny_call_entry PySem.F.slot_enumerate_iter hT PySem.F.entry_enumerate_iter ?_ (PySem.F.args_enumerate_iter_1 _));show wpAny _ _ (ret (.ref e)) _ _ s;exact wpAny_pure ⟨_,rfl,"enumerate",_,hT,PySem.F.slot_enumerate_next.lookup,h⟩
end
section
variable {X:Cx} {st:Sta} {d:Nat} {v:Evs} {a b:Expr} {κ:Kp} {M:Mp} {δ:DSt} {h h':aA} {s:Shared} {pos p tp:Pos} {elts:List Expr} {n:Nat}
theorem bC6 (S:Snd v) (G:Good X st d) (hx:(cE st "zip"&&(slot st "zip").isNone&&st.bl.contains "zip")=true) (hs:aH a=true) (hs2:aH b=true):SI X (.Tuple elts n tp) (.Call (.Name "zip" p) [a,b] [] pos) (xb (v.E st a) fun u=>xb (v.E st b) fun w=>fun _ h=>(match gX u,gX w with
   | some xs,some ys=>some ((eY xs ys,none),h)
   | _,_=>none)):=by
 intro κ M δ h s q h' R F e;obtain ⟨h1,h2,h3⟩:=cY G hx;obtain ⟨x,hh,e1,e⟩:=aG e;obtain ⟨y,hh2,e2,e⟩:=aG e;have ea:aQ v st [a,b] δ h=some ([x,y],hh2):=by unfold aQ;rw [if_pos hs];unfold xb;rw [e1];unfold aQ;dsimp only [Option.bind];rw [if_pos hs2];unfold aQ xb aD;dsimp only;rw [e2];rfl
 refine Call_ (cX (u:=.type "zip") F R h2 h3 (by decide +kernel) h1 (PyProof.Rows.callWith_type1 (thn (bP S G [a,b] pos R F ea) fun us s1 ⟨M1,l1,R1,r0⟩=>?_) (aZ a hs) (by rw [aZ b hs2];rfl)));obtain ⟨u,v,rfl,r1,r2⟩:=w2 r0;split at e
 ·rename_i xs ys ex ey;cases e;obtain ⟨b1,l1',us,rfl,q1,z1,rr1⟩:=xZ ex r1;obtain ⟨b2,l2',vs,rfl,q2,z2,rr2⟩:=xZ ey r2;refine xV (q1.at .refl R1) (q2.at .refl R1) fun h' a1 a2 a3 a4 a5 a6 a7=>?_;have D:ZApart (s1.heap.objs.size+4) (s1.heap.objs.size+2) (s1.heap.objs.size+3) s1.heap.objs.size (s1.heap.objs.size+1):=by
   constructor<;>(intro e;exact absurd e (by simp [Addr]<;>omega))
  refine wpAny_pyIter_zip a1 (Pi.go l1 ⟨M1,_,_,_,.refl,R1.kept (t:=s1.toks) a7,rfl,yA D q1 q2 rr1 rr2,⟨a1,a2,⟨_,_,a3⟩,a4,a5⟩,fun x hx=>R1.new (Heap.get?_none_of_le ?_),?_⟩)
  ·simp only [List.mem_cons,List.not_mem_nil,or_false] at hx;rcases hx with rfl | rfl | rfl | rfl | rfl<;>simp
  ·show (eY xs ys).length<=sizeLine;unfold eY;rw [List.length_zipWith,rr1.length];omega
 ·cases e
def aO7 (S:Snd v) (G:Good X st d) (hx:(cE st "enumerate"&&(slot st "enumerate").isNone&&st.bl.contains "enumerate")=true) (hs:aH a=true):SI X (.Tuple elts n tp) (.Call (.Name "enumerate" p) [a] [] pos) (xb (v.E st a) fun u=>fun _ h=>lU u h):=by
 intro κ M δ h s q h' R F e;obtain ⟨h1,h2,h3⟩:=cY G hx;obtain ⟨x,hh,e1,e⟩:=aG e;have ea:aQ v st [a] δ h=some ([x],hh):=by unfold aQ;rw [if_pos hs];unfold aQ xb aD;rw [e1];rfl
 refine Call_ (cX (u:=.type "enumerate") F R h2 h3 (by decide +kernel) h1 (PyProof.Rows.callWith_type1 (thn (bP S G [a] pos R F ea) fun us s1 ⟨M1,l1,R1,r0⟩=>?_) (aZ a hs) rfl));obtain ⟨u,rfl,r1⟩:=w1 r0;have ex:∃ b l us,u=.ref l/\SqAt b s1.heap l us/\h'=hh/\q.1.length<=sizeLine/\∀ {κ:Kp} {M:Mp} {h:aA} {s:Shared},Mem X.S κ M h s->Le M1 M->condB q.2 q.1 h=true->∃ xs us,q.1=bB xs/\SqAt b s.heap l (List.toArray us)/\Reps' X.S M xs us:=by
  unfold lU at e;split at e
  ·rename_i xs ex;cases e;obtain ⟨b,l,us,rfl,q1,z1,rr1⟩:=xZ ex r1;refine ⟨b,l,us.toArray,rfl,q1.at .refl R1,rfl,?_,fun R l' _=>⟨xs,us,rfl,q1.at l' R,rr1.go l'⟩⟩;show (bB xs).length<=sizeLine;unfold bB;rw [fR,rr1.length];exact z1
  ·cases x with
   | d y=>cases e
   | c i =>
    dsimp only at e;split at e
    ·rename_i xs ey;cases e;obtain ⟨pp,ep,rfl⟩:=r1;obtain ⟨us,k,g1,g2,g3⟩:=R1.cel i pp _ ep ey;refine ⟨false,pp.1,us.toArray,rfl,(cA g1).isList,rfl,?_,fun {κ M h s} R l' co=>?_⟩
     ·show (bB xs).length<=sizeLine;unfold bB;rw [fR,g3.length];exact g2
     ·have co:(match h[i]? with
       | some (.l ys)=>peqs (bB ys) (bB xs)
       | _=>false)=true:=co
      split at co
      ·rename_i ys ey';obtain ⟨vs,k',f1,f2,f3⟩:=R.cel i pp _ (l'.at ep) ey';exact ⟨ys,vs,(peqs_eq co).symm,(cA f1).isList,f3⟩
      ·cases co
    ·cases e
 obtain ⟨b,l,us,rfl,q1,rfl,hz,hq⟩:=ex;refine callType_new PySem.F.called_enumerate (by decide) (PySem.F.typeCall_enumerate_1 _) (PySem.F.newCall_enumerate_1 _) (fun obj=>PySem.F.args_object_init_2 obj _) PySem.F.entry_enumerate_new (xY b l us) ⟨q1,⟨_,Heap.get?_push_size _ rfl,rfl⟩,?_⟩;have z1':(s1.heap.push (hW b l)).objs.size=s1.heap.objs.size+1:=by rw [Heap.size_push]
 have ge:((s1.heap.push (hW b l)).push { cls:=.type "enumerate",data:=.fields #[.none,.bool false,.ref s1.heap.objs.size,rawInt 0,.none,.none] }).get? (s1.heap.push (hW b l)).objs.size=some { cls:=.type "enumerate",data:=.fields #[.none,.bool false,.ref s1.heap.objs.size,rawInt 0,.none,.none] }:=Heap.get?_push_size _ rfl;have gi:((s1.heap.push (hW b l)).push { cls:=.type "enumerate",data:=.fields #[.none,.bool false,.ref s1.heap.objs.size,rawInt 0,.none,.none] }).get? s1.heap.objs.size=some (hW b l):=Heap.get?_push_of_some _ (Heap.get?_push_size _ rfl);have hne:(s1.heap.push (hW b l)).objs.size≠s1.heap.objs.size:=by rw [z1'];exact Nat.succ_ne_self _
 refine wpAny_pyIter_enum (s:={ s1 with heap:=_ }) ge (Pi.go l1 ⟨M1,_,_,_,.refl,R1.kept (t:=s1.toks) fun c o e=>Heap.get?_push_of_some _ (Heap.get?_push_of_some _ e),rfl,uU hne hq,⟨⟨.none,ge⟩,ItAt.new gi⟩,fun x hx=>R1.new (Heap.get?_none_of_le ?_),hz⟩);simp only [List.mem_cons,List.not_mem_nil,or_false] at hx;rcases hx with rfl | rfl
 ·rw [z1'];exact Nat.le_succ _
 ·exact Nat.le_refl _
end
end DL

namespace DL
open PySem PySem.Spec PyProof.Rows L2 CI
section
variable {X:Cx} {st:Sta} {d:Nat} {v:Evs} {κ:Kp} {M:Mp} {δ:DSt} {h h':aA} {s:Shared} {a b c e o tg iter:Expr} {es:List Expr} {pos p p2 apos:Pos} {x m:Str} {w:W}
def aO8 (S:Snd v) (G:Good X st d) {op op' op'':CmpOp} {p:Bool×aA} (hm:lastMarks [op,op',op''] [b,c,e]=false) (R:Mem X.S κ M h s) (F:Fra X κ M δ) (eq:xC3 op op' op'' (v.E st a) (v.E st b) (v.E st c) (v.E st e) δ h=some p):Wp X.S X.A (eval (.Compare a [op,op',op''] [b,c,e] pos) X.env) (Pw X.S κ M p.2 (.d (.bool p.1))) NE s:=by
 obtain ⟨x,h1,e1,eq⟩:=aG eq;obtain ⟨y,h2,e2,eq⟩:=aG eq;obtain ⟨p1,e3,eq⟩:=bind_some eq;refine Compare_chain (thn (S.E G a R F e1) fun u s1 ⟨M1,l1,R1,r1⟩=>chain_link (thn (S.E G b R1 (F.go l1) e2) fun v s2 ⟨M2,l2,R2,r2⟩=>?_)) hm;obtain ⟨q1,q2⟩:=fK (A:=X.A) (E:=NE) G.rm R2 (r1.go l2) r2 e3;obtain ⟨k,h3⟩:=p1;cases q1;refine thn q2 fun k' s3 ⟨M3,l3,R3,r3⟩=>?_;cases wb.mp r3;refine wpAny_truthy_bool ?_;dsimp only at eq;cases k with
 | false=>cases eq;exact ite_ff (R3.pb.go (l1.trans (l2.trans l3)))
 | true =>
  obtain ⟨⟨z,h4⟩,e4,eq⟩:=bind_some eq;obtain ⟨p2,e5,eq⟩:=bind_some eq;refine ite_tt (chain_link (thn (S.E G c R3 ((F.go l1).go (l2.trans l3)) e4) fun t s4 ⟨M4,l4,R4,r4⟩=>?_));obtain ⟨q5,q6⟩:=fK (A:=X.A) (E:=NE) G.rm R4 (r2.go (l3.trans l4)) r4 e5;obtain ⟨k2,h5⟩:=p2;cases q5;refine thn q6 fun k' s5 ⟨M5,l5,R5,r5⟩=>?_;cases wb.mp r5;refine wpAny_truthy_bool ?_;dsimp only at eq;cases k2 with
  | false=>cases eq;exact ite_ff (R5.pb.go (l1.trans (l2.trans (l3.trans (l4.trans l5)))))
  | true =>
   obtain ⟨⟨z',h6⟩,e6,eq⟩:=bind_some eq;refine ite_tt (chain_last (thn (S.E G e R5 ((F.go l1).go (l2.trans (l3.trans (l4.trans l5)))) e6) fun t' s6 ⟨M6,l6,R6,r6⟩=>?_));obtain ⟨q7,q8⟩:=fK (A:=X.A) (E:=NE) G.rm R6 (r4.go (l5.trans l6)) r6 eq;rw [q7];exact thn q8 fun _ _ q=>q.go (l1.trans (l2.trans (l3.trans (l4.trans (l5.trans l6)))))
def aO9 (S:Snd v) (G:Good X st d) {ops:List CmpOp} {cs:List Expr}:SE X (.Compare a ops cs pos) (cN (iX v st a ops cs)):=by
 unfold iX;rcases ops with _ | ⟨op,_ | ⟨op',_ | ⟨op'',_ | ⟨_,_⟩⟩⟩⟩
 ·exact jN S G
 ·exact jN S G
 ·exact jN S G
 ·rcases cs with _ | ⟨b,_ | ⟨c,_ | ⟨e',_ | ⟨_,_⟩⟩⟩⟩
  ·exact jN S G
  ·exact jN S G
  ·exact jN S G
  ·intro κ M δ h s w h' R F eq;obtain ⟨p,e2,ew⟩:=map_some (show ((if lastMarks [op,op',op''] [b,c,e']=true then xno else xC3 op op' op'' (v.E st a) (v.E st b) (v.E st c) (v.E st e')) δ h).map asW=_ from eq);cases ew
   by_cases hm:lastMarks [op,op',op''] [b,c,e']=true
   ·rw [if_pos hm] at e2;cases e2
   ·rw [if_neg hm] at e2;exact aO8 S G (by simpa using hm) R F e2
  ·exact jN S G
 ·exact jN S G
def hX {P:List Value->Shared->Prop} {E:Value->Shared->Prop} (hs:aH e=true) (h:Wp X.S X.A (eval e X.env) (fun v s1=>P [v] s1) E s):Wp X.S X.A (spliced (backTo pos (starEach [e] X.env))) P E s:=by
 rw [aZ (es:=[]) e hs];show Wp _ _ (spliced ((false,eval e X.env)::backTo pos [])) _ _ s;exact Calls.spliced_cons (thn h fun u s1 q=>wpAny_pure q)
theorem bC7 (S:Snd v) (G:Good X st d) {pos2:Pos} (hx:okC st "list"=true) (hr:okC st "range"=true) (hs:aH b=true):SF X (.Call (.Name "list" p) [.Call (.Name "range" p2) [b] [] pos2] [] pos) (xb (aQ v st [b]) fun ws=>fun _ h=>(match ws with
   | [.d (.int j)]=>if -(2^62)<=j/\j < 2^62/\j<=16000000 then some (rng 0 j.toNat,h) else none
   | _=>none)):=by
 intro κ M δ h s w h' R F e;obtain ⟨ws,h1,e1,e⟩:=aG e;obtain ⟨n1,n2,n3⟩:=cY G hx;refine wpAny_Call_Name_kw (cX (u:=.type "list") F R n2 n3 (by decide +kernel) n1 ?_);refine PyProof.Rows.callWith_type1 (hX (by rfl) ?_) rfl rfl;refine lD (f:=.type "range") S G hr boot_range (.inr ⟨_,rfl⟩) R F e1 fun {M1 us s1} l1 R1 r1=>?_;split at e
 ·rename_i j;obtain ⟨⟨b3,b4,b5⟩,e⟩:=aF e;cases e;obtain ⟨u,rfl,ru⟩:=w1 r1;obtain ⟨t2,rfl⟩:=wi.mp ru;refine call_range_1 (call_list_range (n:=j.toNat) G.rm.hd (IsRange.new ..) (small_one (by decide) (by decide) b3 b4) (by rw [rangeSize_one];split<;>omega) (by omega) fun h' tk acc c' k hS hacc=>?_);rw [Heap.size_push] at hS ⊢;have k1:∀ b o,s1.heap.get? b=some o->h'.get? b=some o:=fun b o e=>k b o (Heap.get?_push_of_some _ e);refine ⟨M1,l1,R1.kept (t:=tk) k1,s1.heap.objs.size+1,acc.toList,c',rfl,by rw [Array.toArray_toList];exact hS,R1.new (Heap.get?_none_of_le (Nat.le_succ _)),by rw [Array.length_toList,hacc.1,sizeLine_eq];omega,?_⟩;have gen:∀ (l:List Value) (m:List PyData),l.length=m.length->(∀ (k:Nat) v,l[k]?=some v->∃ x,m[k]?=some x/\Rep X.S M1.Z x v)->Reps' X.S M1 m l:=by
   intro l;induction l with
   | nil=>intro m hm _;rw [List.length_eq_zero_iff.mp hm.symm];exact .nil
   | cons v l ih =>
    intro m hm hv;cases m with
    | nil=>simp at hm
    | cons x m =>
     obtain ⟨x',e1,e2⟩:=hv 0 v rfl;simp at e1;subst e1;exact .cons e2 (ih m (by simpa using hm) fun k v e=>hv (k+1) v (by simpa using e))
  refine gen _ _ (by simp [hacc.1,rng]) fun k v e=>?_;rw [Array.getElem?_toList] at e;obtain ⟨tk,rfl⟩:=hacc.2 k v e;have hk:k < j.toNat:=by have:=(Array.getElem?_eq_some_iff.mp e).1;rw [hacc.1] at this;exact this
  exact ⟨.int k,by simp [rng,hk],rep_i.mpr ⟨tk,by simp⟩⟩
 ·cases e
def aP0 (T T':String):Prop:=∀ (K:PySem.W.Frag) (d:PyData),PySem.W.kitAny K (.type (dG d)) [.type T,.type T']=some (isi d T||isi d T')
def aP1:aP0 "list" "tuple":=fun K d=>by cases d<;>kernel_rfl
def aP2 (S:Snd v) (G:Good X st d) {q1 q2 q3:Pos} {k} (hx:okC st "isinstance"=true) (hs:aH a=true) (hT:okC st "list"=true) (hT':okC st "tuple"=true) :
  SE X (.Call (.Name "isinstance" p) [a,.Tuple [.Name "list" q1,.Name "tuple" q2] k q3] [] pos) (xb (v.E st a) fun w=>fun _ h=>(ref h w).bind fun d=>some (.d (.bool (isi d "list"||isi d "tuple")),h)):=by
 intro κ M δ h s w h' R F e;obtain ⟨x,h1,e1,e⟩:=aG e;obtain ⟨z,ez,e⟩:=bind_some e;cases e;obtain ⟨n1,n2,n3⟩:=cY G hx;obtain ⟨m1,m2,m3⟩:=cY G hT;obtain ⟨m4,m5,m6⟩:=cY G hT';refine wpAny_Call_Name_kw (cX (u:=.builtin "isinstance") F R n2 n3 (by decide +kernel) n1 ?_);refine PyProof.Rows.callWith_builtin1 ?_ (aZ a hs) (bD pos [.Tuple [.Name "list" q1,.Name "tuple" q2] k q3] rfl);rw [aZ a hs];show Wp _ _ (spliced ((false,eval a X.env)::backTo pos (starEach [.Tuple [.Name "list" q1,.Name "tuple" q2] k q3] X.env))) _ _ s;refine Calls.spliced_cons (thn (S.E G a R F e1) fun u s1 ⟨M1,l1,R1,r1⟩=>hX (by rfl) ?_);refine wpAny_Tuple_spliced ?_;rw [aZ (X:=X) (es:=[.Name "tuple" q2]) (.Name "list" q1) rfl];show Wp _ _ (spliced ((false,eval (.Name "list" q1) X.env)::backTo q3 (starEach [.Name "tuple" q2] X.env))) _ _ s1;refine Calls.spliced_cons (cX (u:=.type "list") (F.go l1) R1 m2 m3 (by decide +kernel) m1 (hX (by rfl) (cX (u:=.type "tuple") (F.go l1) R1 m5 m6 (by decide +kernel) m4 ⟨by decide,?_⟩)));have R2:Mem X.S κ M1 h' { s1 with heap:=s1.heap.push { cls:=.type "tuple",data:=.seq #[.type "list",.type "tuple"] } }:=R1.kept (t:=s1.toks) fun b o e=>Heap.get?_push_of_some _ e;obtain ⟨H,kx,hp,n⟩:=aI9 R2 r1 ez;exact PySem.W.kia_tup kx (F.kin.keeps R2.bk) hp (Heap.get?_push_size _ rfl) (aP1 X.S.K z) n fun tk=>((R2.tok tk).pb).go l1
end
end DL

namespace DL
open PySem PySem.Spec PyProof.Rows L2 CI
section
variable {X:Cx} {st:Sta} {d:Nat} {v:Evs} {κ:Kp} {M:Mp} {δ:DSt} {h h':aA} {s:Shared} {a b c e o tg iter:Expr} {es:List Expr} {pos p p2 apos:Pos} {x m:Str} {w:W}
theorem yB {h1:aA} {j:Nat} (hp:(match W.c j with
  | .c j=>(match h1[j]? with
   | some (.l _)=>true
   | some (.r _)=>true
   | _=>false)
  | _=>false)=true):(∃ xs,DL.ref h1 (.c j)=some (.list xs))\/∃ i xs,W.c j=.c i/\h1[i]?=some (.r xs):=by
 dsimp only at hp;split at hp
 ·rename_i xs e;exact .inl ⟨xs,by unfold DL.ref;dsimp only;rw [e]⟩
 ·rename_i xs e;exact .inr ⟨j,xs,rfl,e⟩
 ·cases hp
def aE0 {S:Sx} {A:Around} {E:Value->Shared->Prop} {i k:Nat} {p:Addr×Addr} {is:List Nat} {u:Value} (R:Mem S κ M h s) (ep:M.m[i]?=some p) (ei:h[i]?=some (.r is)) (hz:is.length < sizeLine) (rx:RepW S M (.c k) u):Wp S A (call (.builtin "list.append") [.ref p.1,u]) (Pw S κ M (h.set i (.r (is++[k]))) (.d .none)) E s:=by
 obtain ⟨us,n,e,hl,r⟩:=R.cel i p _ ep ei;have hlen:=r.length;rw [List.length_map] at hlen;refine call_meets F.slot_list_append ⟨_,e,rfl⟩ F.entry_list_append (F.args_list_append_2 _ _) (PySem.list_append p.1 us.toArray n u (by rw [List.size_toArray];omega)) ⟨e,?_⟩;exact (R.lset (t:=s.toks) (us':=us++[u]) (c:=.r (is++[k])) ep e (by simp) fun h2 n' e'=>⟨_,n',e',by rw [List.length_append,List.length_singleton];omega,by rw [List.map_append];exact Paired.snoc r rx⟩).pn
def aP3 (S:Snd v) (G:Good X st d) {g:W->List W->aA->Option (W×aA)} (hg:aL5 m=some g) (ho:fJ o=true) (hl:(apos.endLine==pos.line)=true) (hn:(a::es).length < 29):SE X (.Call (.Attribute o m apos) (a::es) [] pos) (aI5 v st o m g (a::es)):=by
 intro κ M δ h s w h' R F q0;obtain ⟨x,h1,e1,q1⟩:=aG q0;obtain ⟨hp,q2⟩:=aF q1;obtain ⟨⟨ws,h2⟩,e2,e⟩:=bind_some q2;clear q0 q1 q2;unfold aL5 at hg;split at hg
 ·rename_i hm;subst hm;cases hg;unfold uJ at hp;rw [if_pos rfl] at hp;unfold fZ at e;dsimp only at e;split at e
  ·rename_i j z;refine oI S G PySem.F.slot_list_append PySem.F.type_list_append ho hl hn R F e1 (yB hp) e2 fun {M2 u us s2} l2 R2 r2 rs=>?_;split at e
   ·rename_i xs ej;obtain ⟨hz,e⟩:=aF e;cases e;obtain ⟨u1,rfl,ru⟩:=w1 rs;obtain ⟨p,ep,rfl⟩:=r2;exact thn (aO2 R2 ep ej hz ru) fun _ _ q=>q.go l2
   ·cases e
  ·rename_i j k;refine oI S G PySem.F.slot_list_append PySem.F.type_list_append ho hl hn R F e1 (yB hp) e2 fun {M2 u us s2} l2 R2 r2 rs=>?_;split at e
   ·rename_i is ej;obtain ⟨hz,e⟩:=aF e;cases e;obtain ⟨u1,rfl,ru⟩:=w1 rs;obtain ⟨p,ep,rfl⟩:=r2;exact thn (aE0 R2 ep ej hz ru) fun _ _ q=>q.go l2
   ·cases e
  ·cases e
 ·split at hg
  ·rename_i hm;subst hm;cases hg;dsimp only at e;split at e
   ·rename_i xs z;obtain ⟨hz,e⟩:=aF e;obtain ⟨j,ej,e⟩:=map_some e;cases e;refine oI S G PySem.F.slot_list_index PySem.F.type_list_index ho hl hn R F e1 (.inl ⟨xs,rfl⟩) e2 fun {M2 u us s2} l2 R2 r2 rs=>?_;obtain ⟨u1,rfl,ru⟩:=w1 rs;exact thn (xS (x:=.d .none) G.rm R2 r2 ru hz ej) fun _ _ q=>q.go l2
   ·cases e
  ·cases hg
def bC8 (S:Snd v) (G:Good X st d) (ho:fJ o=true) (hl:(apos.endLine==pos.line)=true):SE X (.Call (.Attribute o "pop" apos) [a] [] pos) (aY6 v st o a):=by
 intro κ M δ h s w h' R F e;obtain ⟨x,h1,e1,e⟩:=aG e;rcases x with _ | j
 ·cases e
 dsimp only at e;split at e
 ·rename_i xs0 ej;obtain ⟨⟨ws,h2⟩,e2,e⟩:=bind_some e;refine oI S G PySem.F.slot_list_pop PySem.F.type_list_pop ho hl (by decide:1 < 29) R F e1 (.inl ⟨xs0,by unfold DL.ref;dsimp only;rw [ej]⟩) e2 fun {M2 u us s2} l2 R2 r2 rs=>?_;have e:aL6 j ws h2=some (w,h'):=e;rcases ws with _ | ⟨(_ | _ | i | _ | _ | _ | _) | _,_ | ⟨_,_⟩⟩<;>first | cases e;done | skip
  unfold aL6 at e;rcases ej2:h2[j]? with _ | c
  ·rw [ej2] at e;cases e
  rw [ej2] at e;cases c<;>first | (cases e;done) | skip
  rename_i i xs;obtain ⟨n,en,e⟩:=bind_some e;obtain ⟨z,ez,e⟩:=bind_some e;obtain ⟨⟨q1,q2⟩,e⟩:=aF e;cases e;obtain ⟨u1,rfl,ru⟩:=w1 rs;obtain ⟨t,rfl⟩:=wi.mp ru;obtain ⟨p,ep,rfl⟩:=r2;exact thn (aO3 R2 ep ej2 en ez q1 q2) fun _ _ q=>q.go l2
 ·cases e
def bC9 (S:Snd v) (G:Good X st d) (ho:fJ o=true) (hl:(apos.endLine==pos.line)=true) (hs:aH a=true):SE X (.Call (.Attribute o "extend" apos) [a] [] pos) (aY7 v st o a):=by
 intro κ M δ h s w h' R F e;obtain ⟨x,h1,e1,e⟩:=aG e;rcases x with _ | j
 ·cases e
 dsimp only at e;split at e
 ·rename_i xs0 ej;obtain ⟨⟨ys,h2⟩,e2,e⟩:=bind_some e;have hst:([a]:List Expr).all aH=true:=by rw [List.all_cons,hs];rfl
  refine wpAny_Call_method_late (oG ho _ _) (rL hst (by decide:1 < 29) _ _) hl rfl (thn (S.E G o R F e1) fun u s1 ⟨M1,l1,R1,r1⟩=>?_);obtain ⟨p,ep,rfl⟩:=r1;obtain ⟨us,n,hob,_⟩:=R1.cel j p _ ep ej;refine ⟨"list",_,PySem.F.plainAttrs_list,PySem.F.slot_list_extend,PySem.F.type_list_extend,(cA hob).isList.typeIs,fun c ec=>by cases ec;exact ⟨_,hob,rfl⟩,?_⟩;have hsp:=hX (pos:=pos) (E:=NE) hs (P:=fun us s2=>Wp X.S X.A (call (.builtin "list.extend") (.ref p.1::us)) (Pw X.S κ M h' w) NE s2) (thn (S.F G a R1 (F.go l1) e2) fun u2 s2 ⟨M2,l2,R2,b,vs,m,eb,hb,fb,hz,rb⟩=>?_)
  ·have han:=bD (X:=X) pos [a] hst;rw [aZ (es:=[]) a hs] at hsp han ⊢;exact Calls.callWith_builtin han (Calls.evalArgs_plain hsp)
  subst eb;dsimp only at e;split at e
  ·rename_i xs ej2;obtain ⟨hz2,e⟩:=aF e;cases e;exact thn (aO4 R2 (l2.at ep) ej2 hb rb hz2) fun _ _ q=>q.go (l1.trans l2)
  ·cases e
 ·cases e
def yC:SI X tg iter xno:=fun _ _ _ _ _ _ _ _ _ e=>by cases e
def yD (h:sT tg=true):∃ es k p,tg=.Tuple es k p:=by
 cases tg<;>first | exact ⟨_,_,_,rfl⟩ | cases h
def oK (S:Snd v):ItS v:=by
 intro X st d G tg iter;unfold mF;cases hq:itS iter with
 | some y =>
  obtain ⟨⟨x,a,ob⟩,p,pos,he⟩:=y;clear hq;subst he;cases ob with
  | none =>
  dsimp only;split
  ·rename_i hx;subst hx;split
   ·rename_i hc;rw [Bool.and_eq_true] at hc;exact aN4 S G hc.1 hc.2
   ·exact yC
  ·split
   ·rename_i hx;subst hx;split
    ·rename_i hc;rw [Bool.and_eq_true,Bool.and_eq_true] at hc;obtain ⟨es,k,p,rfl⟩:=yD hc.2;exact aO7 S G hc.1.1 hc.1.2
    ·exact yC
   ·exact rE S G
  | some b =>
  dsimp only;split
  ·rename_i hx;subst hx;split
   ·rename_i hc;rw [Bool.and_eq_true,Bool.and_eq_true] at hc;exact aN5 S G hc.1.1 hc.1.2 hc.2
   ·exact yC
  ·split
   ·rename_i hx;subst hx;split
    ·rename_i hc;rw [Bool.and_eq_true,Bool.and_eq_true,Bool.and_eq_true] at hc;obtain ⟨es,k,p,rfl⟩:=yD hc.2;exact bC6 S G hc.1.1.1 hc.1.1.2 hc.1.2
    ·exact yC
   ·exact rE S G
 | none =>
  dsimp only;split
  ·exact yC
  ·exact rE S G
def bD0 (S:Snd v) (G:Good X st d):SE X e (aL9 v st e):=by
 unfold aL9;cases hq:lcS e with
 | some y =>
  obtain ⟨⟨tg,iter,ifs,a,sc⟩,lp,p,he⟩:=y;clear hq;subst he;dsimp only;split
  ·rename_i ha;subst ha;unfold wU;split
   ·rename_i hc;rw [Bool.and_eq_true] at hc;have hset:hG iter=false:=by simpa using hc.2
    intro κ M δ h s w h' R F e;obtain ⟨⟨all,c⟩,h1,e1,e⟩:=aG e;obtain ⟨⟨is,h2⟩,e2,e3⟩:=bind_some e;cases e3;refine thn (xP G.rm.hd (by rw [G.S,G.N];exact oB hc.1) (oK S G tg iter) (fun cl C=>S.G (cG G cl C) tg) (fun cl C=>rG S (cG G cl C) ifs) (fun cl C=>?_) (oE hset _) R F e1 (jA e2)) fun _ _ p=>bR5 p;exact mL (rB (es:=[]) S (cG G cl C))
   ·exact bT
  ·exact bT
 | none=>exact S.E G _
end
end DL

namespace DL
open PySem PySem.Spec PyProof.Rows L2 CI
section
variable {X:Cx} {κ:Kp} {M:Mp} {h h':aA} {s:Shared} {δ:DSt} {v:Evs} {st:Sta} {d:Nat} {a k:Expr} {p2 pos:Pos}
theorem bD1 (S:Snd v) (G:Good X st d):SF X (.Subscript a (.Slice none none (some k) p2) pos) (xb (v.E st a) fun x=>xb (iW v st (some k)) fun o=>fun _ h=>(match ref h x with
  | some (.list xs)=>if o=some (-1) then some (xs.reverse,h) else none
  | _=>none)):=by
 intro κ M δ h s w h' R F e;obtain ⟨x,h1,e1,e⟩:=aG e;obtain ⟨o,h2,e2,e⟩:=aG e;refine Subscript_ (thn (S.E G a R F e1) fun u s1 ⟨M1,l1,R1,r1⟩=>?_);refine wpAny_Slice ?_;rw [evalPart_none];refine wpAny_pure (wpAny_pure (thn (xK S G (some k) R1 (F.go l1) e2) fun vk s2 ⟨pk,M2,l2,R2⟩=>?_));have R4:Mem X.S κ M2 h2 { s2 with heap:=s2.heap.push { cls:=.type "slice",data:=.fields #[.none,.none,vk] } }:=R2.kept (t:=s2.toks) fun b ob q=>Heap.get?_push_of_some _ q;split at e
 ·rename_i xs ea;obtain ⟨ho1,e⟩:=aF e;cases e;subst ho1;obtain ⟨a',vs,n,rfl,ho,hz,rr⟩:=ref_l R4 (r1.go l2) ea;show Wp X.S X.A (subscriptTail a (.Slice none none (some k) p2) (.ref a') (.ref s2.heap.objs.size)) _ _ { s2 with heap:=s2.heap.push { cls:=.type "slice",data:=.fields #[.none,.none,vk] } };refine tail_any (ops:=[.ref a',.ref s2.heap.objs.size]) (cA ho).isList.typeIs slot_list_getitem.lookup ?_ (by with_unfolding_all rfl);refine wpAny_getItem_list_slice (cA ho).isList (Heap.IsSliceOf.new ..) .none .none pk (by decide) ?_ (by rw [List.size_toArray];omega);rw [PySem.W.krv_pick];refine ⟨M2,l1.trans l2,R4.kept (t:=s2.toks) fun b ob q=>Heap.get?_push_of_some _ q,_,vs.reverse,0,rfl,Heap.get?_push_size _ rfl,R4.size,?_,bR0 rr⟩;rw [List.length_reverse];exact hz
 ·cases e
end
end DL

namespace ST
open PySem PySem.Spec PyProof.Rows
section
variable {prog:Program} {w:World} {A:Around} {E:Value->Shared->Prop} {s:Shared} {ks:List Int}
def uV {x:Value} {Q:Value->Shared->Prop} {n:Nat} (h64:n < 64)
  (hc:∀ R,(∀ (vs:List Value) (ns:List Int) h' dr tk,IntsAre vs ns->vs.length=n->ns.Perm ks->(∀ b o,s.heap.get? b=some o->h'.get? b=some o)->R vs { s with heap:=h',drawn:=dr,toks:=tk })->wpAny (model prog w) A.in1 (collect x) R E s)
  (h:∀ (a:Addr) (vs:List Value) (ns:List Int) (c:Nat) h' dr tk,IntsAre vs ns->ns.Perm ks->ns.Pairwise (·<=·)->s.heap.get? a=none->h'.get? a=some (seqObj "list" vs.toArray c)->(∀ b o,s.heap.get? b=some o->h'.get? b=some o)->Q (.ref a) { s with heap:=h',drawn:=dr,toks:=tk }) :
  wpAny (model prog w) A (call (.builtin "sorted") [x]) Q E s:=by
 refine Calls.call_function_entry kind_sorted plain_sorted entry_sorted (args_sorted1 _) ?_;unfold Builtin.«sorted»;refine wpAny_bind (m:=checkCount "sorted" 1 1 _) (wpAny_pure (wpAny_bind (hc _ fun vs ns h1 dr tk hi hl hp k1=>?_)));refine wpAny_bind (wpAny_newList ?_ (by rw [hl,sizeLine_eq];omega));have hoL:(h1.push (seqObj "list" vs.toArray 0)).get? h1.objs.size=some (seqObj "list" vs.toArray 0):=Heap.get?_push_size _ rfl;refine wpAny_bind (wpAny_holding (wpAny_call_entry slot_list_sort ⟨_,hoL,rfl⟩ entry_list_sort (list_sort_tree hoL hi (by omega) fun out ns' a1 a2 a3=>⟨_,rfl,?_⟩) (args_list_sort _)));obtain ⟨c,ec⟩:=sortedHeap_at (out:=out) hoL;refine wpAny_pure ⟨_,rfl,h h1.objs.size out.toList ns' c _ dr tk a1 (a2.trans hp) a3 (by cases q:s.heap.get? h1.objs.size with | none=>rfl | some o=>exact absurd (Heap.lt_size (k1 _ o q)) (Nat.lt_irrefl _)) (by rw [Array.toArray_toList];exact ec) fun b o e=>?_⟩;have bl:b < h1.objs.size:=Heap.lt_size (k1 b o e);rw [sortedHeap_old (Nat.ne_of_lt bl) (by rw [size_push'];exact Nat.lt_succ_of_lt bl)];exact Heap.get?_push_of_some _ (k1 b o e)
end
def yF (ns:List Int):(srt ns).Perm ns:=List.mergeSort_perm _ _
def aP4 (ns:List Int):(srt ns).Pairwise (·<=·):=by
 have h:=List.pairwise_mergeSort (le:=fun a b:Int=>decide (a<=b)) (fun a b c h1 h2=>by simp at *;omega) (fun a b=>by simp;omega) ns;exact h.imp fun h=>by simpa using h
def yG {a ns:List Int} (p:a.Perm ns) (o:a.Pairwise (·<=·)):a=srt ns:=(p.trans (yF ns).symm).eq_of_pairwise (fun a b _ _ h1 h2=>Int.le_antisymm h1 h2) o (aP4 ns)
end ST
namespace DL
open PySem PySem.Spec PyProof.Rows L2 CI ST
theorem hZ {S:Sx} {Z:Zm}:∀ {xs:List PyData} {ns:List Int} {us:List Value},cS xs=some ns->Paired (Rep S Z) xs us->IntsAre us ns
 | [],_,_,e,r=>by cases e;cases r;exact .nil
 | x::xs,_,_,e,r=>by
  cases r with
  | cons a b =>
   cases x<;>first | cases e;done | skip
   obtain ⟨ns,e1,rfl⟩:=map_some (show (cS xs).map _=_ from e);obtain ⟨t,rfl⟩:=rep_i.mp a;exact .cons _ _ (hZ e1 b)
theorem mR {S:Sx} {Z:Zm}:∀ {ns:List Int} {vs:List Value},IntsAre vs ns->Paired (Rep S Z) (ns.map .int) vs
 | _,_,.nil=>.nil
 | _,_,.cons n t h=>.cons (rep_i.mpr ⟨t,rfl⟩) (mR h)
def Mem.dr {S:Sx} {κ:Kp} {M:Mp} {h:aA} {s:Shared} (R:Mem S κ M h s) (h':Heap) (d:Drawn) (t:Nat) (k:∀ b o,s.heap.get? b=some o->h'.get? b=some o):Mem S κ M h { s with heap:=h',drawn:=d,toks:=t }:=R.keep (fun b o e _=>k b o e) R.bare rfl
section
variable {X:Cx} {st:Sta} {d:Nat} {v:Evs} {a:Expr} {es:List Expr} {p pos:Pos}
def bD2 (S:Snd v) (G:Good X st d) (hx:(cE st "sorted"&&(slot st "sorted").isNone&&st.bl.contains "sorted")=true):SF X (.Call (.Name "sorted" p) (a::es) [] pos) (xb (aQ v st (a::es)) fun ws=>fun _ h=>aL4 ws h):=by
 intro κ M δ h s w h' R F e;obtain ⟨ws,h1,e1,e⟩:=aG e;refine lD (f:=.builtin "sorted") S G hx (by decide +kernel) (.inl ⟨_,rfl⟩) R F e1 fun {M1 us s1} l1 R1 r1=>?_;have fin:∀ {ns:List Int} {u:Value} {vs:List Value},IntsAre vs ns->ns.length < 64->(∀ Rr:List Value->Shared->Prop,(∀ h2,(∀ b o,s1.heap.get? b=some o->h2.get? b=some o)->Rr vs { s1 with heap:=h2 })->Wp X.S X.A.in1 (collect u) Rr NE s1)->Wp X.S X.A (call (.builtin "sorted") [u]) (Pf X.S κ M h1 ((srt ns).map .int)) NE s1:=fun {ns u vs} hi hl hc=>by
  refine uV (ks:=ns) (n:=vs.length) (by rw [hi.length];exact hl) (fun Rr hR=>hc Rr fun h2 k=>hR vs ns h2 s1.drawn s1.toks hi rfl (List.Perm.refl _) k) fun b vs' ns' c h2 dr tk hi' hp ho hz hb k=>?_;have e2:=yG hp ho;subst e2;have hlen:=hi'.length;have hpl:=hp.length_eq;exact ⟨M1,l1,R1.dr h2 dr tk k,b,vs',c,rfl,hb,R1.new hz,by rw [hlen,hpl,sizeLine_eq];omega,mR hi'⟩
 unfold aL4 at e;split at e
 ·obtain ⟨u,rfl,ru⟩:=w1 r1;split at e
  ·rename_i xs ex;obtain ⟨ns,en,e⟩:=bind_some e;obtain ⟨hl,e⟩:=aF e;cases e;obtain ⟨b,vs,n,rfl,ho,hz,rr⟩:=ref_l R1 ru ex;exact fin (hZ en rr) hl fun Rr hR=>wpAny_collect_seq b (.inl rfl) ho rfl rfl (fun h2 k=>hR h2 k) (by simpa using hz)
  ·rename_i xs ex;obtain ⟨ns,en,e⟩:=bind_some e;obtain ⟨hl,e⟩:=aF e;cases e;obtain ⟨b,vs,n,rfl,z,hz,rr⟩:=eW R1 ru ex;exact fin (hZ en rr) hl fun Rr hR=>wpAny_collect_seq b (.inr rfl) (R1.z _ _ z) rfl rfl (fun h2 k=>hR h2 k) (by simpa using hz)
  ·cases e
 ·cases e
end
end DL

namespace L2
open PySem PySem.Spec PyProof.Rows
def rM {kvs:List (Key×Value)} {k:Key} {v:Value}:(stored kvs k v).length<=kvs.length+1:=by
 unfold stored;split
 ·rw [List.length_map];omega
 ·rw [List.length_append];simp
theorem gN:∀ (more kvs:List (Key×Value)),(merged kvs more).length<=kvs.length+more.length
 | [],kvs=>by simp [merged]
 | p::r,kvs=>by
  have:=gN r (stored kvs p.1 p.2);have h2:=rM (kvs:=kvs) (k:=p.1) (v:=p.2);show (merged (stored kvs p.1 p.2) r).length<=_;rw [List.length_cons];omega
def pR:entryFor table "dict.update.loop"=some Builtin.«dict.update.loop»:=entryFor_of_tree (by kernel_rfl)
def iA:plainId "dict.update.loop"=true:=by decide +kernel
section
variable {prog:Program} {w:World} {A:Around} {R:Result->Shared->Prop} {I:Addr} {fp wr:List Addr} {n:Nat} {P:Nat->Value->Prop} {St:Nat->Heap->Prop}
def uW (W:Walks prog w A.in1 I fp wr n P St) (D:Addr) (hDf:D∉fp) (g0:Heap) (DS:Nat->Heap->Prop) (hmv:∀ i h h',DS i h->(∀ b o,b∉wr->h.get? b=some o->h'.get? b=some o)->DS i h')
  (hval:∀ i v,P i v->∃ p kv u,v=.ref p/\g0.IsTuple p #[kv,u]/\p≠D/\p∉wr/\∀ (s:Shared) (Q:Unit->Shared->Prop) (E:Value->Shared->Prop),DS i s.heap->(∀ b o,b≠D->b∉wr->g0.get? b=some o->s.heap.get? b=some o)->(∀ h2 tk,DS (i+1) h2->Heap.SameBut D s.heap h2->Q () { s with heap:=h2,toks:=tk })->wpAny (model prog w) A.in1 (dictSet D kv u) Q E s) :
  ∀ (k i:Nat) (s:Shared) (j:Int) (t:Tok),n - i=k->i<=n->St i s.heap->DS i s.heap ->
   (∀ b o,b≠D->b∉wr->g0.get? b=some o->s.heap.get? b=some o) ->
   (∀ h' tk,DS n h'->(∀ b o,b≠D->b∉wr->s.heap.get? b=some o->h'.get? b=some o)->R (.ok (.ret .none)) { s with heap:=h',toks:=tk }) ->
   codeAny (model prog w) A (.builtin "dict.update.loop" ⟨[.ref D,.ref I,.int j t,.none],[]⟩) R s:=by
 intro k;induction k with
 | zero =>
  intro i s j t hk hi hst hD hg hR;have e:i=n:=by omega
  subst e;refine codeAny_builtin pR ?_;rw [Around.under_plainId iA _];show wpAny _ A.in1 (pyNext (.ref I) >>= _) _ _ s;refine wpAny_bind (W.done s _ _ hst fun h' tk hm=>?_);have q:=hR h' tk (hmv _ _ _ hD hm) (fun b o _ hb e=>hm b o hb e);clear hR;unfold Builtin.Dict.addKeywords
  repeat (any_goals (first | assumption | wp_step))
 | succ k ih =>
  intro i s j t hk hi hst hD hg hR;have hlt:i < n:=by omega
  refine codeAny_builtin pR ?_;rw [Around.under_plainId iA _];show wpAny _ A.in1 (pyNext (.ref I) >>= _) _ _ s;refine wpAny_bind (W.item i s _ _ hlt hst fun v h' tk hP hst' hm=>?_);obtain ⟨p,kv,u,rfl,⟨op,hop,hcp,np,hdp⟩,hpD,hpw,hset⟩:=hval i v hP;have hp1:h'.get? p=some op:=hm p op hpw (hg p op hpD hpw hop);have hT:({ s with heap:=h',toks:=tk }:Shared).TypeIs (.ref p) "tuple":=⟨_,hp1,hcp⟩;have LT:PySem.W.Looks (model prog w) h' (typeOf (.ref p)) (.type "tuple"):=hcp ▸ (PySem.W.Looks.ld hp1).andThen .now;unfold Builtin.Dict.pairItems;dsimp only;refine wpAny_bind (wpAny_holding ?_);refine wpAny_bind (wpAny_tryCatch ?_);refine wpAny_bind (LT.at ?_);rw [if_pos (by decide)];refine wpAny_bind (wpAny_seqItems hp1 hdp (wpAny_pure ?_));dsimp only [Option.getD];refine wpAny_holding ?_;refine hset _ _ _ (hmv _ _ _ hD hm) (fun b o b1 b2 e=>hm b o b2 (hg b o b1 b2 e)) fun h2 tk2 hD2 hs2=>?_;refine wpAny_pure ⟨plainId_quiet iA _,ih (i+1) _ (j+1) 0 (by omega) hlt (W.frame _ h' _ hst' fun b hb o e=>?_) hD2 (fun b o b1 b2 e=>?_) fun h3 tk3 hD3 hk3=>hR h3 tk3 hD3 fun b o b1 b2 e=>hk3 b o b1 b2 ?_⟩
  ·rw [hs2.2 b (fun z=>hDf (by rw [<- z];exact hb))];exact e
  ·rw [hs2.2 b b1];exact hm b o b2 (hg b o b1 b2 e)
  ·rw [hs2.2 b b1];exact hm b o b2 e
end
def oM:typeLookup (.type "list") "keys"=pure none:=by rw [typeLookup_type,builtinLookup_eq_fast];kernel_rfl
def uX:typeLookup (.type "list") "__getattr__"=pure none:=by rw [typeLookup_type,builtinLookup_eq_fast];kernel_rfl
def uY:entryFor table "list.__getattribute__"=some Builtin.«object.__getattribute__»:=entryFor_alias (id':="object.__getattribute__") (by kernel_rfl) (by decide +kernel) (by decide +kernel) (by kernel_rfl)
def gO {prog:Program} {w:World} {A:Around} {E:Value->Shared->Prop} {s:Shared} {a:Addr} {o:Obj} {xs:Array Value} {k:Nat} {name:Str} {Q:Option Value->Shared->Prop}
  (hx:s.heap.get? a=some o) (hc:o.cls=.type "list") (hdat:o.data=.seq xs k) (hd:o.dict=none) (hmiss:typeLookup (.type "list") name=pure none) (hname:(["__module__","__name__","__qualname__","__doc__","__annotations__"]:List Str).contains name=false) (hA:A.handled=none)
  (h:∀ h' tk e,Heap.NewExcOf s.heap h' e "AttributeError"->Q none { s with heap:=h',toks:=tk }) (hsz:name.length+100<=sizeLine:=by size_fits):wpAny (model prog w) A (getAttr? (.ref a) name) Q E s:=by
 obtain ⟨c,dct,dat,sl⟩:=o;dsimp only at hc hdat hd;subst hc hdat hd;obtain ⟨hp,g,d,tk,os⟩:=s;have hT:∀ tk',(⟨hp,g,d,tk',os⟩:Shared).TypeIs (.ref a) "list":=fun _=>⟨_,hx,rfl⟩;have g1:=sub_AttributeError;have g3:=F.slot_list_getattribute.lookup;have g4:=F.slot_list_getattribute.bind (.ref a);have g5:=uX;unfold getAttr? getAttrBy? getAttrBy
 repeat (any_goals (first | assumption | exact hT _ | ((with_reducible show wpAny _ _ (call (Value.builtin "list.__getattribute__") _ _) _ _ _);refine call_meets F.slot_list_getattribute (hT _) uY (F.args_list_getattribute_2 _ _) (meets_getattribute_miss_list a xs k sl name _ hmiss hname hsz) ⟨hx,hA,fun h' tk' e hx'=>?_⟩) | wp_step))
 obtain ⟨t',u',he⟩:=hx'.there;show wpAny _ _ (getattributeRaised _ _ _ _ _ _ _) _ _ _;unfold getattributeRaised
 repeat (any_goals (first | assumption | wp_step))
 exact h _ _ _ hx'.of
section
variable {prog:Program} {w:World} {A:Around} {E:Value->Shared->Prop} {s:Shared}
def lE {a:Addr} {o:Obj} {its:List Value} {n:Nat} {Q:Value->Shared->Prop} (hh:A.handled=none) (ho:s.heap.get? a=some o) (hc:o.cls=.type "list") (hdat:o.data=.seq its.toArray n) (hd:o.dict=none) (DS:Nat->Heap->Prop)
  (hmv:∀ i h h',DS i h->(∀ b o,b<=s.heap.objs.size->h.get? b=some o->h'.get? b=some o)->DS i h') (h0:∀ h',(∀ b o,(s.heap.push { cls:=.type "dict",data:=.dict #[] }).get? b=some o->h'.get? b=some o)->DS 0 h')
  (hval:∀ (i:Nat) (v:Value),its[i]?=some v->∃ p kv u,v=.ref p/\s.heap.IsTuple p #[kv,u]/\∀ (s':Shared) (Q:Unit->Shared->Prop) (E:Value->Shared->Prop),DS i s'.heap->(∀ b o,s.heap.get? b=some o->s'.heap.get? b=some o)->(∀ h2 tk,DS (i+1) h2->Heap.SameBut s.heap.objs.size s'.heap h2->Q () { s' with heap:=h2,toks:=tk })->wpAny (model prog w) A.in1.in1 (dictSet s.heap.objs.size kv u) Q E s')
  (h:∀ h' tk,DS its.length h'->(∀ b o,s.heap.get? b=some o->h'.get? b=some o)->Q (.ref s.heap.objs.size) { s with heap:=h',toks:=tk }) :
  wpAny (model prog w) A (call (.type "dict") [.ref a]) Q E s:=by
 refine callType_codes (Q₁:=fun obj s₁=>obj=.ref s.heap.objs.size/\s₁={ s with heap:=s.heap.push { cls:=.type "dict",data:=.dict #[] } }) F.kt_called_dict (F.kt_typeCall_dict_1 _) F.entry_dict_init (kt_code_dict_new _ ⟨rfl,rfl⟩) ?_;rintro obj s₁ ⟨rfl,rfl⟩;have hnew:(s.heap.push { cls:=.type "dict",data:=.dict #[] }).DictOf (bA prog w) s.heap.objs.size []:=Heap.DictOf.new s.heap;have ho':(s.heap.push { cls:=.type "dict",data:=.dict #[] }).get? a=some o:=Heap.get?_push_of_some _ ho;have hT:Shared.TypeIs { s with heap:=s.heap.push { cls:=.type "dict",data:=.dict #[] } } (.ref a) "list":=⟨_,ho',hc⟩;refine ⟨hnew.typeIs,F.args_dict_init_2 _ _,?_⟩;unfold Builtin.«dict.__init__»;refine wpAny_bind ?_;unfold Builtin.Dict.selfAndRest;refine wpAny_bind (wpAny_notOrdered_dict hnew.typeIs (wpAny_pure ?_));show wpAny _ _ (Builtin.Dict.updateFrom "dict.__init__" s.heap.objs.size (.ref a) [] .none) _ _ _;unfold Builtin.Dict.updateFrom;refine wpAny_bind (wpAny_typeOf hT ?_);rw [if_pos (by decide)];refine wpAny_bind (gO ho' hc hdat hd oM (by decide +kernel) (by simp [hh]) fun h1 tk1 e1 ne=>?_);rw [if_pos (by rfl)];have keep1:∀ b q,s.heap.get? b=some q->h1.get? b=some q:=fun b q e=>ne.keeps b q (Heap.get?_push_of_some _ e);have hD1:DS 0 h1:=h0 h1 ne.keeps;have hi1:h1.IsList a its.toArray:=⟨o,keep1 a o ho,hc,n,hdat⟩;have hlt:a < s.heap.objs.size:=Heap.lt_size ho;have hsz:s.heap.objs.size < h1.objs.size:=by
  obtain ⟨o,es,ep,ho,r⟩:=hnew;exact Heap.lt_size (ne.keeps _ _ ho)
 have hI:a≠h1.objs.size:=Nat.ne_of_lt (Nat.lt_trans hlt hsz);refine wpAny_bind (wpAny_rule (wpAny_bind (wpAny_pyIter_list hi1 (wpAny_pure ⟨plainId_quiet iA _,?_⟩))));refine uW (A:=A.in1) (Walks.list (A:=A.in1.in1) (by simp [hh]) h1.objs.size a hI its.toArray) s.heap.objs.size ?_ s.heap DS (fun i h h' q k=>hmv i h h' q fun b o hb e=>k b o ?_ e) (fun i v hv=>?_) _ 0 _ 0 0 rfl (Nat.zero_le _) ⟨⟨_,Heap.get?_push_size _ rfl,rfl,rfl⟩,hi1.push _⟩ (hmv _ _ _ hD1 fun b o _ e=>Heap.get?_push_of_some _ e) (fun b o _ _ e=>Heap.get?_push_of_some _ (keep1 b o e)) fun h' tk hd' hk=>?_
 ·simp only [List.mem_cons,List.mem_singleton,List.not_mem_nil,or_false,not_or];exact ⟨Nat.ne_of_lt hsz,Nat.ne_of_gt hlt⟩
 ·simp only [List.mem_singleton];exact Nat.ne_of_lt (Nat.lt_of_le_of_lt hb hsz)
 ·obtain ⟨p,kv,u,h1',h2,h3⟩:=hval i v (by simpa using hv);have hpl:p < s.heap.objs.size:=by obtain ⟨o,ho,_⟩:=h2;exact Heap.lt_size ho
  refine ⟨p,kv,u,h1',h2,Nat.ne_of_lt hpl,?_,fun s' Q' E' q k f=>h3 s' Q' E' q (fun b o e=>k b o (Nat.ne_of_lt (Heap.lt_size e)) ?_ e) f⟩
  ·simp only [List.mem_singleton];exact Nat.ne_of_lt (Nat.lt_trans hpl hsz)
  ·simp only [List.mem_singleton];exact Nat.ne_of_lt (Nat.lt_trans (Heap.lt_size e) hsz)
 ·refine ⟨rfl,h h' tk (by simpa using hd') fun b o e=>?_⟩;have hbl:b < s.heap.objs.size:=Heap.lt_size e;refine hk b o (Nat.ne_of_lt hbl) ?_ (Heap.get?_push_of_some _ (keep1 b o e));simp only [List.mem_singleton];exact Nat.ne_of_lt (Nat.lt_trans hbl hsz)
def tF (h:Heap) (its:List Value) (ps:List (Key×Value)):Prop:=its.length=ps.length/\∀ (i:Nat) (v:Value),its[i]?=some v->∃ p k t u,v=.ref p/\h.IsTuple p #[.int k t,u]/\ps[i]?=some (.inl k,u)
def jC {a:Addr} {o:Obj} {its:List Value} {n:Nat} {ps:List (Key×Value)} {Q:Value->Shared->Prop} (hh:A.handled=none) (ho:s.heap.get? a=some o) (hc:o.cls=.type "list") (hdat:o.data=.seq its.toArray n) (hd:o.dict=none) (hp:tF s.heap its ps) (hn:its.length<=1000)
  (h:∀ h' tk,h'.DictOf (bA prog w) s.heap.objs.size (merged [] ps)->(∀ b o,s.heap.get? b=some o->h'.get? b=some o)->Q (.ref s.heap.objs.size) { s with heap:=h',toks:=tk }) :
  wpAny (model prog w) A (call (.type "dict") [.ref a]) Q E s:=by
 refine lE hh ho hc hdat hd (fun i h=>i<=ps.length/\h.DictOf (bA prog w) s.heap.objs.size (merged [] (ps.take i))) (fun i h h' q k=>?_) (fun h' k=>?_) (fun i v hv=>?_) fun h' tk q k=>h h' tk ?_ k
 ·obtain ⟨l,o,es,ep,ho,r⟩:=q;exact ⟨l,o,es,ep,k _ o (Nat.le_refl _) ho,r⟩
 ·obtain ⟨o,es,ep,ho,r⟩:=Heap.DictOf.new (prog:=prog) (w:=w) (knd:=bA prog w) s.heap;exact ⟨Nat.zero_le _,o,es,ep,k _ o ho,r⟩
 ·obtain ⟨p,kk,t,u,h1,h2,h3⟩:=hp.2 i v hv;have hil:i < ps.length:=(List.getElem?_eq_some_iff.mp h3).1;refine ⟨p,.int kk t,u,h1,h2,fun s' Q' E' q k f=>?_⟩;have hlen:(merged [] (ps.take i)).length<=i:=by
   refine Nat.le_trans (gN _ _) ?_;rw [List.length_take,List.length_nil];omega
  exact wpAny_dictSet_pairs (knd:=bA prog w) (k:=.inl kk) (jJ prog w kk t) q.2 (fun h2 hD2 hs2=>f h2 _ ⟨hil,by rw [merged_take_succ _ _ _ _ h3];exact hD2⟩ hs2) (by have:sizeLine=16777216:=rfl;have:=hp.1;omega)
 ·have:=q.2
  rwa [List.take_of_length_le (by have:=hp.1;omega)] at this
end
end L2
namespace DL
open PySem PySem.Spec PyProof.Rows L2 CI
section
variable {S:Sx} {κ:Kp} {M:Mp} {h h':aA} {s:Shared}
theorem mS {Z:Zm} {hp:Heap} (z:∀ a o,Z a=some o->hp.get? a=some o):∀ {xs:List PyData} {ds:List (PyData×PyData)} {its:List Value},nQ xs=some ds->Paired (Rep S Z) xs its->∃ ps:List (Key×Value),tF hp its ps/\RepK S Z ds ps
 | [],_,_,e,r=>by
  cases e;cases r;exact ⟨[],⟨rfl,fun i v e=>by simp at e⟩,.nil⟩
 | x::xs,_,_,e,r=>by
  cases r with
  | @cons _ v _ vs a b =>
   obtain ⟨k,y,rfl,ds,e1,rfl⟩:∃ k y,x=.tuple [.int k,y]/\∃ ds',nQ xs=some ds'/\_=(.int k,y)::ds':=by
    obtain ⟨⟨y,rfl⟩,_,e⟩:=bind_some (show (pdS x).bind _=_ from e);obtain ⟨ds,e1,e2⟩:=map_some e;exact ⟨y.1,y.2,rfl,ds,e1,e2.symm⟩
   obtain ⟨p,o,us,rfl,zp,⟨⟨n,rfl⟩,_⟩,rr⟩:=rep_t.mp a;obtain ⟨ps,⟨q1,q2⟩,q3⟩:=mS z e1 b;cases rr with
   | @cons _ u1 _ _ a1 b1 =>
    cases b1 with
    | @cons _ u2 _ _ a2 b2 =>
     cases b2;obtain ⟨t,rfl⟩:=rep_i.mp a1;refine ⟨(.inl k,u2)::ps,⟨by simp [q1],fun i v e=>?_⟩,.cons ⟨rfl,a2⟩ q3⟩;cases i with
     | zero =>
      simp at e;subst e;exact ⟨p,k,t,u2,rfl,eE (z _ _ zp),rfl⟩
     | succ i=>exact q2 i v (by simpa using e)
theorem lF {Z:Zm}:∀ {more:List (PyData×PyData)} {rm:List (Key×Value)} {kvs:List (PyData×PyData)} {r:List (Key×Value)},RepK S Z more rm->RepK S Z kvs r->RepK S Z (more.foldl (fun a p=>nO a p.1 p.2) kvs) (merged r rm)
 | [],_,_,_,a,b=>by cases a;exact b
 | p::more,_,kvs,r,a,b=>by
  cases a with
  | @cons _ q _ rm h t =>
   have:=lF t (kY h.1 h.2 b);exact this
end
end DL

namespace DL
open PySem PySem.Spec PyProof.Rows L2 CI
section
variable {S:Sx} {κ:Kp} {M:Mp} {h h':aA} {s:Shared}
def bD3 {h2:Heap} {D:Addr} {kvs:List (PyData×PyData)} {xs:List (HK×Addr×Value)} (z:∀ a o,M.Z a=some o->h2.get? a=some o) (n:NdO S h2 D xs) (r:gH S M.Z kvs xs):h2.DictOfH (fG S) D xs:=by
 obtain ⟨o,es,ep,h1,h2',h3,h4,h5⟩:=n;refine ⟨o,es,ep,h1,h2',h3,h4,fun x hx=>?_,h5⟩;have:∀ {l:List (PyData×PyData)} {r:List (HK×Addr×Value)},gH S M.Z l r->x∈r->Rep S M.Z x.1.1 (.ref x.2.1):=fun {l r} q hx=>by
  unfold gH at q;induction q with
  | nil=>simp at hx
  | cons a _ ih =>
   rcases List.mem_cons.mp hx with rfl | hx
   ·rw [<- a.1];exact a.2.1
   ·exact ih hx
 exact Rep.go z (this r hx)
theorem jD:∀ {xs:List PyData} {ds:List (PyData×PyData)} {i:Nat} {x:PyData},kO xs=some ds->xs[i]?=some x->∃ ks y,x=.tuple [.tuple ks,y]/\hkB 4 (.tuple ks)=true/\ds[i]?=some (.tuple ks,y)/\ds.length=xs.length
 | [],_,i,_,_,e=>by simp at e
 | z::xs,_,i,x,e,ei=>by
  obtain ⟨⟨⟨ks,y⟩,rfl⟩,_,e⟩:=bind_some (show (pnS z).bind _=_ from e);obtain ⟨hk,e⟩:=aF e;obtain ⟨ds,e1,rfl⟩:=map_some e;have hl:∀ {xs ds},kO xs=some ds->ds.length=xs.length:=by
   intro xs;induction xs with
   | nil=>intro ds e;cases e;rfl
   | cons z xs ih =>
    intro ds e;obtain ⟨_,_,e⟩:=bind_some (show (pnS z).bind _=_ from e);obtain ⟨_,e⟩:=aF e;obtain ⟨ds,e1,rfl⟩:=map_some e;simp [ih e1]
  cases i with
  | zero=>simp at ei;subst ei;exact ⟨ks,y,rfl,hk,rfl,by simp [hl e1]⟩
  | succ i =>
   obtain ⟨ks',y',h1,h2,h3,h4⟩:=jD e1 (by simpa using ei);exact ⟨ks',y',h1,h2,by simpa using h3,by simp [h4]⟩
def yH (kvs:List (PyData×PyData)) (y x:PyData):(kN kvs y x).length<=kvs.length+1:=by
 unfold kN;split
 ·rw [List.length_map];omega
 ·rw [List.length_append];simp
def rN {ds:List (PyData×PyData)} {i:Nat} {p:PyData×PyData} (e:ds[i]?=some p):iY (ds.take (i+1))=kN (iY (ds.take i)) p.1 p.2:=by
 unfold iY;rw [List.take_add_one,e,List.foldl_append];rfl
def aE1:BfS S (.type "dict") sV:=by
 intro κ M h h' s A E ws us w d hr hK hsm R r e;unfold sV at e;split at e
 ·obtain ⟨u,rfl,ra⟩:=w1 r;split at e
  ·rename_i xs ea;obtain ⟨hl,e⟩:=aF e;obtain ⟨a,vs,n,rfl,ho,hz,rr⟩:=ref_l R ra ea;have hlen:=rr.length;have kx:∀ {h2:Heap} {c:Cell} {tk:Nat} {o:Obj},(∀ b o,s.heap.get? b=some o->h2.get? b=some o)->h2.get? s.heap.objs.size=some o->CellOk S (M.cel (s.heap.objs.size,s.heap.objs.size)) h2 (s.heap.objs.size,s.heap.objs.size) c->Pw S κ M (h++[c]) (.c h.length) (.ref s.heap.objs.size) { s with heap:=h2,toks:=tk }:=fun k g x =>
    ⟨M.cel (s.heap.objs.size,s.heap.objs.size),.cel,(R.kept k).add R.size R.size ⟨⟨_,g⟩,_,g⟩ x,(s.heap.objs.size,s.heap.objs.size),by show (M.m++[_])[h.length]?=_;rw [<- R.len];simp,rfl⟩
   split at e
   ·rename_i ds ed;cases e;obtain ⟨ps,pa,rk⟩:=mS R.z ed rr;have hk1:=rk.length;have hk2:=pa.1;refine jC hr.hd ho rfl rfl rfl pa (by omega) fun h2 tk dd k=>?_;have rm:RepK S M.Z (wM ds) (merged [] ps):=lF rk .nil;have hm:=gN ps [];rw [List.length_nil] at hm;obtain ⟨o,es,ep,ho2,q⟩:=id dd;exact kx k ho2 ⟨_,dd,RepK.go (M:=M) .cel rm,hsm,by rw [sizeLine_eq];omega⟩
   ·obtain ⟨ds,ed,e⟩:=map_some e;cases e;obtain ⟨P,hP⟩:∃ P:Nat->Heap->Prop,P=fun i h2=>∃ ys,NdO S h2 s.heap.objs.size ys/\gH S M.Z (iY (ds.take i)) ys/\ys.length<=i:=⟨_,rfl⟩;refine lE hr.hd ho rfl rfl rfl P (fun i h1 h2 q k=>?_) (fun h2 k=>?_) (fun i v hv=>?_) fun h2 tk q k=>?_
    ·rw [hP] at q ⊢;obtain ⟨ys,⟨o,es,ep,g,q⟩,r⟩:=q;exact ⟨ys,⟨o,es,ep,k _ o (Nat.le_refl _) g,q⟩,r⟩
    ·rw [hP];exact ⟨[],⟨_,#[],0,k _ _ (Heap.get?_push_size _ rfl),⟨rfl,rfl,rfl⟩,rfl,rfl,List.nodup_nil⟩,.nil,Nat.zero_le _⟩
    ·have hi:i < xs.length:=by rw [hlen];exact (List.getElem?_eq_some_iff.mp hv).1
     obtain ⟨v',ev,rv⟩:=kH rr (List.getElem?_eq_getElem hi);rw [hv] at ev;cases ev;obtain ⟨ks,y,e1,hk,e2,e3⟩:=jD ed (List.getElem?_eq_getElem hi);rw [e1] at rv;obtain ⟨p,o,us,rfl,zp,⟨⟨m,rfl⟩,_⟩,rq⟩:=rep_t.mp rv;cases rq with
     | @cons _ uk _ _ a1 b1 =>
      cases b1 with
      | @cons _ uv _ _ a2 b2 =>
       cases b2;obtain ⟨ka,ko,kus,rfl,zk⟩:=rep_t.mp a1;refine ⟨p,.ref ka,uv,rfl,eE (R.z _ _ zp),fun s' Q' E' q k f=>?_⟩;rw [hP] at q f;obtain ⟨ys,nd,rn,yl⟩:=q;have zz:∀ a o,M.Z a=some o->s'.heap.get? a=some o:=fun a o e=>k a o (R.z a o e);refine wpAny_dictSet_heap (knd:=fG S) (k:=⟨.tuple ks,hk⟩) ?_ (show (fG S).is s'.heap ⟨.tuple ks,hk⟩ ka from Rep.go zz a1) (bD3 zz nd rn) (fun h2 dd sb=>f h2 _ ⟨storedH ys ⟨.tuple ks,hk⟩ ka uv,?_,?_,?_⟩ sb) (by rw [sizeLine_eq];omega)
       ·have:=hr.un;show A.units+1+1+5 < cLine;omega
       ·obtain ⟨o',es',ep',q1,q2,q3,q4,_,q5⟩:=dd;exact ⟨o',es',ep',q1,q2,q3,q4,q5⟩
       ·rw [rN e2];exact kZ hk a1 a2 rn
       ·have h1:=(kZ hk a1 a2 rn).length;have h2:=yH (iY (ds.take i)) (.tuple ks) y;have h3:=rn.length;omega
    ·rw [hP] at q;obtain ⟨ys,nd,rn,yl⟩:=q;have hds:ds.length<=vs.length:=by
      cases xs with
      | nil =>
       have:ds=[]:=by unfold kO at ed;cases ed;rfl
       rw [this];exact Nat.zero_le _
      | cons x xs =>
       obtain ⟨_,_,_,_,_,h4⟩:=jD ed (i:=0) rfl;omega
     rw [List.take_of_length_le hds] at rn;obtain ⟨o,es,ep,g,_⟩:=id nd;exact kx k g ⟨ys,nd,rn,hsm,by rw [sizeLine_eq];omega⟩
  ·cases e
 ·cases e
variable {X:Cx} {st:Sta} {d:Nat} {v:Evs}
def bD4 (Sn:Snd v) (G:Good X st d) (e:Expr):SE X e (aC7 v st e):=by
 unfold aC7;cases q:dcA e with
 | none=>exact mL (Sn.F G e)
 | some a =>
  dsimp only;split
  ·rename_i hx;obtain ⟨⟨a,p,q,he⟩,hh,rfl⟩:=Option.map_eq_some_iff.mp (show (dcS _).map (·.1)=_ from q);clear hh;subst he;exact bC3 Sn G (f:=.type "dict") (g:=sV) hx (by decide +kernel) (.inr ⟨_,rfl⟩) aE1
  ·exact bT
end
end DL

namespace DL
open PySem PySem.Spec PyProof.Rows L2 CI
section
variable {X:Cx} {st:Sta} {d:Nat} {v:Evs} {κ:Kp} {M:Mp} {δ:DSt} {h h':aA} {s:Shared} {a b c e o tg iter:Expr} {es:List Expr} {pos p p2 apos:Pos} {x m:Str} {w:W}
def tG (h:qY e=false) (o i:Value):subscripted e false o i=operate [o,i] (getItem o i):=by
 cases e<;>first | rfl | cases h
def bR9 (S:Snd v) (G:Good X st d) (hs:qY b=false):SE X (.Subscript a b pos) (xb (v.E st a) fun x=>xb (v.E st b) fun y=>fun _ h=>xIx x y h):=fun _ _ _ _ _ _ _ R F e =>
 Subscript_ (two (S.E G a) (S.E G b) R F e fun R1 _ ra rb e=>aZ4 G.rm R1 ra rb e (tG hs))
theorem bD5 (S:Snd v) (G:Good X st d) {f:Str->Option PyData} (hf:gZ st a=some f) (hs:qY b=false):SE X (.Subscript a b pos) (xb (v.E st b) fun w=>(match w with
    | .d (.str z)=>(match f z with
     | some i=>aD (.d i)
     | none=>xno)
    | _=>xno)):=by
 intro κ M δ h s w h' R F e;obtain ⟨y,p,p',rfl,hn,hg,hm,T⟩:=xJ G hf;obtain ⟨x,h1,e1,e⟩:=aG e;refine Subscript_ (eZ F R hg hm hn (thn (S.E G b R F e1) fun u s1 ⟨M1,l1,R1,r1⟩=>?_));obtain ⟨g,m,g0,g1,g2⟩:=T.map (prog:=X.S.P) (F.ok.mod.kin.keeps R1.bk);rcases x with (_ | _ | _ | z | _ | _ | _) | _<;>first | cases e;done | skip
 obtain ⟨⟨t,rfl⟩,_⟩:=rep_s.mp (show Rep X.S M1.Z _ _ from r1);have e:(match f z with
  | some i=>aD (.d i)
  | none=>xno:XR W) δ h1=some (w,h'):=e
 cases ei:f z with
 | some i =>
  rw [ei] at e;cases e;obtain ⟨t',q',rq⟩:=g1 z i ei;exact nX m.typeIs PySem.F.slot_dict_getitem.lookup (tG hs _ _) (wpAny_getItem_of (oA z t) m q' (((R1.tok _).pw (w:=.d i) (show Rep X.S M1.Z i t' from Rep.go R1.base rq)).go l1))
 | none=>rw [ei] at e;cases e
def aE2:SE X (.Dict [] [] pos) (aD (.d (.dict []))):=by
 intro κ M δ h s w h' R F e;cases e;refine wpAny_Dict_empty ?_;have hd:(s.heap.push { cls:=.type "dict",data:=.dict #[] }).DictOf (bA X.S.P X.S.w) s.heap.objs.size []:=Heap.DictOf.new s.heap;obtain ⟨o,es,ep,ho,hr⟩:=hd;have R1:Mem X.S κ M h { s with heap:=s.heap.push { cls:=.type "dict",data:=.dict #[] } }:=R.kept (t:=s.toks) fun b o e=>Heap.get?_push_of_some _ e;refine ⟨M.add s.heap.objs.size o,Le.add R.size.1,R1.frz R.size ho,?_⟩;exact (rep_d (S:=X.S) (Z:=(M.add s.heap.objs.size o).Z)).mpr ⟨_,o,[],rfl,kM,⟨oH F R,Nat.zero_le _,fun h2 e2=>⟨o,es,ep,e2,hr⟩⟩,.nil⟩
def aP5:SE X (.Dict [] [] pos) aI7:=by
 intro κ M δ h s w h' R F e;cases e;refine wpAny_Dict_empty ?_;have hd:(s.heap.push { cls:=.type "dict",data:=.dict #[] }).DictOf (bA X.S.P X.S.w) s.heap.objs.size []:=Heap.DictOf.new s.heap;obtain ⟨o,es,ep,ho,hr⟩:=id hd;have R1:Mem X.S κ M h { s with heap:=s.heap.push { cls:=.type "dict",data:=.dict #[] } }:=R.kept (t:=s.toks) fun b o e=>Heap.get?_push_of_some _ e;exact ⟨M.cel (s.heap.objs.size,s.heap.objs.size),.cel,R1.add R.size R.size ⟨⟨_,ho⟩,_,ho⟩ ⟨[],hd,.nil,oH F R,Nat.zero_le _⟩,(s.heap.objs.size,s.heap.objs.size),by show (M.m++[_])[h.length]?=_;rw [<- R.len];simp,rfl⟩
def bD6 {S:Sx}:BfS S (.builtin "max") xMx:=by
 intro κ M h h' s A E ws us w d hr hK hsm R r e;unfold xMx at e;split at e
 ·cases e;obtain ⟨u,v,rfl,ra,rb⟩:=w2 r;obtain ⟨t,rfl⟩:=wi.mp ra;obtain ⟨t',rfl⟩:=wi.mp rb;rename_i a b;refine max_two_ints hr.hd fun h2 tk k=>(R.kept (t:=tk) k).pw (wi.mpr ?_)
  by_cases z:b > a
  ·rw [if_pos z];exact ⟨t',by rw [Int.max_eq_right (Int.le_of_lt z)]⟩
  ·rw [if_neg z];exact ⟨t,by rw [Int.max_eq_left (Int.not_lt.mp z)]⟩
 ·cases e
def bD7 {S:Sx}:BfS S (.builtin "min") xMn:=by
 intro κ M h h' s A E ws us w d hr hK hsm R r e;unfold xMn at e;split at e
 ·cases e;obtain ⟨u,v,rfl,ra,rb⟩:=w2 r;obtain ⟨t,rfl⟩:=wi.mp ra;obtain ⟨t',rfl⟩:=wi.mp rb;rename_i a b;refine min_two_ints hr.hd fun h2 tk k=>(R.kept (t:=tk) k).pw (wi.mpr ?_)
  by_cases z:b < a
  ·rw [if_pos z];exact ⟨t',by rw [Int.min_eq_right (Int.le_of_lt z)]⟩
  ·rw [if_neg z];exact ⟨t,by rw [Int.min_eq_left (Int.not_lt.mp z)]⟩
 ·cases e
def aE3 {S:Sx} {g:List W->aA->Option (W×aA)} (h:aL0 x=some g):∃ f,bootBuiltins x=some f/\((∃ i,f=.builtin i)\/∃ i,f=.type i)/\BfS S f g:=by
 unfold aL0 at h;split at h
 ·rename_i e;cases h;subst e;exact ⟨_,by decide +kernel,.inl ⟨_,rfl⟩,aZ5⟩
 split at h
 ·rename_i e;cases h;subst e;exact ⟨.type "tuple",by decide +kernel,.inr ⟨_,rfl⟩,aC9⟩
 split at h
 ·rename_i e;cases h;subst e;exact ⟨.builtin "all",by decide +kernel,.inl ⟨_,rfl⟩,aZ6⟩
 split at h
 ·rename_i e;cases h;subst e;exact ⟨.type "int",by decide +kernel,.inr ⟨_,rfl⟩,aZ7⟩
 split at h
 ·rename_i e;cases h;subst e;exact ⟨.builtin "max",by decide +kernel,.inl ⟨_,rfl⟩,bD6⟩
 split at h
 ·rename_i e;cases h;subst e;exact ⟨.builtin "min",by decide +kernel,.inl ⟨_,rfl⟩,bD7⟩
 ·cases h
def yI (S:Snd v) (G:Good X st d):SF X (.Call (.Name x p) (a::es) [] pos) (bV v st (.Call (.Name x p) (a::es) [] pos)):=by
 unfold bV;dsimp only;split
 ·rename_i hx;subst hx;split
  ·rename_i b hb;split
   ·rename_i hc;rw [Bool.and_eq_true,Bool.and_eq_true] at hc;obtain ⟨⟨y,p1,q1,heq⟩,hh,rfl⟩:=Option.map_eq_some_iff.mp (show (rgS _).map (·.1)=_ from hb);clear hh hb;cases heq;exact bC7 S G hc.1.1 hc.1.2 hc.2
   ·exact fE
  ·split
   ·rename_i hc;exact bC4 S G hc
   ·exact fE
 ·split
  ·rename_i hx;subst hx;split
   ·rename_i hc;exact bD2 S G hc
   ·exact fE
  ·exact fE
def gP (S:Snd v) (G:Good X st d) (e:Expr):SF X e (bV v st e):=by
 cases e with
 | List es p=>exact rB S G
 | ListComp elt gs sc p =>
  rcases gs with _ | ⟨⟨tg,iter,ifs,a⟩,_ | ⟨_,_⟩⟩
  ·exact fE
  ·by_cases ha:a=0
   ·subst ha;exact aO1 S (oK S) G
   ·have:bV v st (.ListComp elt [⟨tg,iter,ifs,a⟩] sc p)=xno:=if_neg ha;rw [this];exact fE
  ·exact fE
 | Subscript a b p =>
  cases b with
  | Slice lo hi st' p2 =>
   cases st' with
   | none=>exact bR6 S G
   | some k =>
    cases lo with
    | some _=>exact fE
    | none =>
     cases hi with
     | some _=>exact fE
     | none=>exact bD1 S G
  | _=>exact fE
 | BinOp a op b p =>
  cases op with
  | Add=>exact bB7 S G
  | Mult =>
   cases a with
   | List es p'=>exact bB9 S G
   | _=>exact fE
  | _=>exact fE
 | Call f args kw p =>
  cases f with
  | Name x px =>
   rcases args with _ | ⟨a,es⟩
   ·exact fE
   ·rcases kw with _ | ⟨k,ks⟩
    ·exact yI S G
    ·exact fE
  | _=>exact fE
 | _=>exact fE
end
end DL

namespace ST
open PySem PySem.Spec PyProof.Rows
def Ris (xs:Array Nat):Prop:=xs.toList.Pairwise (· < ·)
def Ris.lt {xs:Array Nat} (h:Ris xs) {i k:Nat} {a b:Nat} (hik:i < k) (ha:xs[i]?=some a) (hb:xs[k]?=some b):a < b:=by
 unfold Ris at h;rw [List.pairwise_iff_getElem] at h;rw [Array.getElem?_eq_some_iff] at ha hb;obtain ⟨h1,rfl⟩:=ha;obtain ⟨h2,rfl⟩:=hb;exact h i k (by simpa using h1) (by simpa using h2) hik
theorem oN {xs:Array Nat} {j:Nat} (hx:Ris xs):∀ (fuel lo hi:Nat),hi - lo<=fuel->lo<=hi->hi<=xs.size->(∀ i a,i < lo->xs[i]?=some a->a < j)->(∀ i a,hi<=i->xs[i]?=some a->j<=a) ->
  (∀ i a,i < SetTable.below.go xs j fuel lo hi->xs[i]?=some a->a < j)/\(∀ i a,SetTable.below.go xs j fuel lo hi<=i->xs[i]?=some a->j<=a)/\SetTable.below.go xs j fuel lo hi<=xs.size
 | 0,lo,hi,h1,h2,h3,h4,h5=>by
  have:lo=hi:=by omega
  subst this;exact ⟨h4,h5,h3⟩
 | fuel+1,lo,hi,h1,h2,h3,h4,h5=>by
  unfold SetTable.below.go;split
  ·rename_i hlt;have hm:(lo+hi) / 2 < xs.size:=by omega
   have em:xs[(lo+hi) / 2]?=some xs[(lo+hi) / 2]:=Array.getElem?_eq_getElem hm;have eg:xs.getD ((lo+hi) / 2) j=xs[(lo+hi) / 2]:=by simp [Array.getD,hm]
   dsimp only;rw [eg];split
   ·rename_i hj;refine oN hx fuel _ _ (by omega) (by omega) h3 (fun i a hi' ha=>?_) h5
    by_cases e:i=(lo+hi) / 2
    ·subst e;rw [em] at ha;cases ha;exact hj
    ·exact Nat.lt_trans (hx.lt (by omega) ha em) hj
   ·rename_i hj;refine oN hx fuel _ _ (by omega) (by omega) (by omega) h4 (fun i a hi' ha=>?_)
    by_cases e:i=(lo+hi) / 2
    ·subst e;rw [em] at ha;cases ha;omega
    ·have:=hx.lt (show (lo+hi) / 2 < i by omega) em ha;omega
  ·have:lo=hi:=by omega
   subst this;exact ⟨h4,h5,h3⟩
def rO {xs:Array Nat} (hx:Ris xs) (j:Nat):(∀ i a,i < SetTable.below xs j->xs[i]?=some a->a < j)/\(∀ i a,SetTable.below xs j<=i->xs[i]?=some a->j<=a)/\SetTable.below xs j<=xs.size :=
 oN hx xs.size 0 xs.size (by omega) (by omega) (Nat.le_refl _) (fun i a h=>by omega) (fun i a h e=>by
  rw [Array.getElem?_eq_none (by omega)] at e;cases e)
def rP {xs:Array Nat} (hx:Ris xs) {j:Nat} (hj:xs[SetTable.below xs j]?≠some j):Ris (SetTable.insertAt xs (SetTable.below xs j) j):=by
 obtain ⟨h1,h2,h3⟩:=rO hx j;have e:(SetTable.insertAt xs (SetTable.below xs j) j).toList=xs.toList.take (SetTable.below xs j)++j::xs.toList.drop (SetTable.below xs j):=by
  simp [SetTable.insertAt,Array.toList_extract,List.extract_eq_take_drop,List.take_of_length_le]
 unfold Ris at hx ⊢;rw [e,List.pairwise_append,List.pairwise_cons];have mt:∀ a∈xs.toList.take (SetTable.below xs j),a < j:=fun a ha=>by
  obtain ⟨i,hi,ea⟩:=List.mem_iff_getElem.mp ha;rw [List.getElem_take] at ea;rw [List.length_take] at hi;refine h1 i a (by omega) ?_;rw [<- ea];exact Array.getElem?_eq_getElem (by simp at hi;omega)
 have md:∀ b∈xs.toList.drop (SetTable.below xs j),j < b:=fun b hb=>by
  obtain ⟨i,hi,eb⟩:=List.mem_iff_getElem.mp hb;rw [List.getElem_drop] at eb;rw [List.length_drop] at hi;have hlt:SetTable.below xs j+i < xs.size:=by simp at hi;omega
  have eg:xs[SetTable.below xs j+i]?=some b:=by rw [<- eb];exact Array.getElem?_eq_getElem hlt
  have q:=h2 _ b (by omega) eg;rcases Nat.lt_or_eq_of_le q with q | q
  ·exact q
  ·subst q;cases i with
   | zero=>exact absurd eg hj
   | succ i =>
    have e0:xs[SetTable.below xs j]?=some xs[SetTable.below xs j]:=Array.getElem?_eq_getElem (by omega);have:=Ris.lt hx (show SetTable.below xs j < SetTable.below xs j+(i+1) by omega) e0 eg;have q0:=h2 _ _ (Nat.le_refl _) e0;omega
 refine ⟨hx.sublist (List.take_sublist _ _),⟨md,hx.sublist (List.drop_sublist _ _)⟩,fun a ha b hb=>?_⟩;rcases List.mem_cons.mp hb with rfl | hb
 ·exact mt a ha
 ·exact Nat.lt_trans (mt a ha) (md b hb)
def uZ (n:Nat):Ris (Array.range n):=by
 unfold Ris;rw [Array.toList_range];exact List.pairwise_lt_range
def free (t:SetTable) (j:Nat):Prop:=t.place[SetTable.below t.place j]?≠some j
def mT {t:SetTable} {j:Nat} (h:∀ i,t.slot j≠.live i):free t j:=by
 intro e;unfold SetTable.slot at h;dsimp only at h;rw [e] at h;simp at h
theorem gQ {t:SetTable} {f:Nat->Int} {h:Int}:∀ (fuel:Nat) (p:SetTable.Probe),(∀ d,p.dummy=some d->free t d)->∀ j d,SetTable.probe.go t f h fuel p=some (.empty j d)->free t j/\∀ d',d=some d'->free t d'
 | 0,p,hp,j,d,e=>by simp [SetTable.probe.go] at e
 | fuel+1,p,hp,j,d,e=>by
  unfold SetTable.probe.go at e;split at e
  ·rename_i es;cases e;exact ⟨mT (fun i z=>by rw [es] at z;cases z),hp⟩
  ·rename_i es;refine gQ fuel _ (fun d' ed=>?_) j d e;have:(t.advance { p with dummy:=some p.j }).dummy=some p.j:=by
    unfold SetTable.advance;split<;>rfl
   rw [this] at ed;cases ed;exact mT fun i z=>by rw [es] at z;cases z
  ·split at e
   ·cases e
   ·refine gQ fuel _ (fun d' ed=>hp d' ?_) j d e;have:(t.advance p).dummy=p.dummy:=by
     unfold SetTable.advance;split<;>rfl
    rw [<- this];exact ed
def lY {t:SetTable} {h:Int} {j:Nat} {b:Bool} (e:t.freeSlot h=some (j,b)):free t j:=by
 unfold SetTable.freeSlot at e;split at e
 ·rename_i j' d ep;cases e;obtain ⟨f1,f2⟩:=gQ _ _ (fun d ed=>by simp [SetTable.probeStart] at ed) _ _ ep;cases d with
  | none=>exact f1
  | some d=>exact f2 d rfl
 ·cases e
def Good (by_:Bool) (t:SetTable):Prop:=Ris t.place/\(by_=false->t.led=true)
def dJ {by_:Bool} {t:SetTable} (h:Good by_ t) (n:Nat):Good by_ (t.standIn n):=⟨uZ n,h.2⟩
def pS {by_:Bool} {t:SetTable} {es:Array (Int×Value)} {h:Int} {x:Value} (g:Good by_ t):Good by_ (layNew t es h x).2.1:=by
 unfold layNew;split
 ·rename_i slot wd e;dsimp only;have gp:Good by_ (t.put slot).1:=⟨rP g.1 (lY e),g.2⟩;unfold SetTable.orStandIn;split
  ·exact gp
  ·exact dJ gp _
 ·exact dJ g _
def yJ {owner:Array (Option Nat)} (n:Nat):(((List.range n).filterMap fun j=>(owner.getD j none).map (j,·)).map (·.1)).Pairwise (· < ·):=by
 rw [List.pairwise_map];refine List.Pairwise.filterMap (R:=(· < ·)) _ (fun a a' hlt b hb b' hb'=>?_) (List.pairwise_lt_range (n:=n));obtain ⟨_,_,rfl⟩:=Option.map_eq_some_iff.mp hb;obtain ⟨_,_,rfl⟩:=Option.map_eq_some_iff.mp hb';exact hlt
def rQ {by_:Bool} {t:SetTable} {es:Array (Int×Value)} {n:Nat} (g:Good by_ t):Good by_ (relayAll t es n).2.1:=by
 unfold relayAll;split
 ·rename_i t' order e;dsimp only;split
  ·unfold SetTable.relaid SetTable.laid at e;dsimp only at e;obtain ⟨owner,_,e2⟩:=Option.bind_eq_some_iff.mp e;cases e2;refine ⟨?_,g.2⟩;unfold Ris;exact yJ _
  ·exact dJ g _
 ·exact dJ g _
end ST

namespace ST
open PySem PySem.Spec PyProof.Rows
noncomputable def yK:Value->Int
 | .int k _=>k
 | _=>0
section
variable {prog:Program} {w:World} {A:Around} {E:Value->Shared->Prop} {s:Shared}
abbrev txt (w:World):Bool:=w.params.followText "set-order"
structure Parts (prog:Program) (w:World) (o:Obj) (es:Array (Int×Value)) (ep:Nat) (t:SetTable) (ks:List Int):Prop where
 ex:o.ExactSet
 dat:o.data=.set es ep t
 el:ElemsOf (intKind prog w) es.toList
 ks:(es.toList.map fun e=>yK e.2).Perm ks
 few:es.size < scanBound
 fit:t.fits es.size=true
 good:Good (txt w) t
def SetI (prog:Program) (w:World) (h:Heap) (a:Addr) (ks:List Int):Prop:=∃ o es ep t,h.get? a=some o/\Parts prog w o es ep t ks
def SetI.keep {h h':Heap} {a:Addr} {ks:List Int} (x:SetI prog w h a ks) (e:∀ o,h.get? a=some o->h'.get? a=some o):SetI prog w h' a ks :=
 let ⟨o,es,ep,t,ho,p⟩:=x;⟨o,es,ep,t,e o ho,p⟩
def rR {k:Int} {v:Value} (h:(intKind prog w).is k v=true):∃ t,v=.int k t:=Value.isInt_shape h
def yL {es:List (Int×Value)} (h:ElemsOf (intKind prog w) es) {e:Int×Value} (he:e∈es):∃ t,e.2=.int (yK e.2) t:=by
 obtain ⟨⟨k,hk,_⟩,_⟩:=h e he;obtain ⟨t,q⟩:=rR hk;exact ⟨t,by rw [q];rfl⟩
def vA {es:List (Int×Value)} (h:ElemsOf (intKind prog w) es) {k:Int} (hf:es.findIdx? (fun e=>(intKind prog w).is k e.2)=none):k∉es.map fun e=>yK e.2:=by
 intro z;obtain ⟨e,he,q⟩:=List.mem_map.mp z;obtain ⟨t,e2⟩:=yL h he;have:=List.findIdx?_eq_none_iff.mp hf e he;rw [e2,q] at this;rw [intKind_is] at this;cases this
def vB {es:List (Int×Value)} {k:Int} {j:Nat} (hf:es.findIdx? (fun e=>(intKind prog w).is k e.2)=some j):k∈es.map fun e=>yK e.2:=by
 obtain ⟨hj,hp,_⟩:=List.findIdx?_eq_some_iff_getElem.mp hf;obtain ⟨t,q⟩:=rR hp;exact List.mem_map.mpr ⟨es[j],List.getElem_mem hj,by rw [q];rfl⟩
def jO {a:Addr} {o:Obj} {es es':Array (Int×Value)} {ep:Nat} {t t':SetTable} {ks':List Int} {h:Heap} (ho:h.get? a=some o) (hd:o.data=.set es ep t) (hx:o.ExactSet)
  (p:Parts prog w { o with data:=.set es' (ep+1) t' } es' (ep+1) t' ks'):(h.update a (Obj.putSet es' t')).get? a=some { o with data:=.set es' (ep+1) t' } :=
 (SetOf_store (knd:=intKind prog w) (S':=fun k=>decide (k∈es'.toList.map fun e=>yK e.2)) ho hx hd p.el (fun k=>by
  rw [decide_eq_true_eq,List.mem_map];constructor
  ·rintro ⟨e,he,rfl⟩;obtain ⟨q,e2⟩:=yL p.el he;exact ⟨e,he,by rw [e2];exact intKind_is _ _ _ _⟩
  ·rintro ⟨e,he,q⟩;obtain ⟨tk,e2⟩:=rR q;exact ⟨e,he,by rw [e2];rfl⟩) p.few p.fit).1
def tH {g:Bool->Sem Unit} (hg:∀ (b:Bool) (s₁:Shared) (Q':Unit->Shared->Prop),Q' () s₁->wpAny (model prog w) A (g b) Q' E s₁) {a:Addr} {o:Obj} {es es1:Array (Int×Value)} {ep:Nat} {t t2:SetTable} {ks':List Int}
  (ho:s.heap.get? a=some o) (hd:o.data=.set es ep t) (hx:o.ExactSet) (p:Parts prog w { o with data:=.set es1 (ep+1) t2 } es1 (ep+1) t2 ks') {wd:Bool} {R:Option Bool->Shared->Prop}
  (h:∀ h',Heap.SameBut a s.heap h'->SetI prog w h' a ks'->R (some true) { s with heap:=h' }) :
  wpAny (model prog w) A (do
   storeSet a es1 t2
   if (!wd&&t2.tooFull)=true then do
    g (relayAll t2 es1 (SetTable.grown es1.size)).2.2
    storeSet a (relayAll t2 es1 (SetTable.grown es1.size)).1 (relayAll t2 es1 (SetTable.grown es1.size)).2.1
    pure (some true)
   else pure (some true)) R E s:=by
 refine wpAny_bind (wpAny_storeSet_of ho hd ?_ (fits_of_scanBound p.few));have ho1:=jO ho hd hx p;have sb1:=Heap.SameBut.update s.heap a (Obj.putSet es1 t2);split
 ·have hp:=relayAll_perm t2 es1 (SetTable.grown es1.size);have hf:=relayAll_fits t2 es1 (SetTable.grown es1.size);have hgd:=rQ (es:=es1) (n:=SetTable.grown es1.size) p.good;have hz:(relayAll t2 es1 (SetTable.grown es1.size)).1.size=es1.size:=by simpa using hp.length_eq
  have p2:Parts prog w { o with data:=.set (relayAll t2 es1 (SetTable.grown es1.size)).1 (ep+1+1) (relayAll t2 es1 (SetTable.grown es1.size)).2.1 } (relayAll t2 es1 (SetTable.grown es1.size)).1 (ep+1+1) (relayAll t2 es1 (SetTable.grown es1.size)).2.1 ks' :=
   ⟨hx,rfl,p.el.perm hp,(hp.map _).trans p.ks,by rw [hz];exact p.few,hf,hgd⟩
  refine wpAny_bind (hg _ _ _ (wpAny_bind (wpAny_storeSet_of ho1 rfl (wpAny_pure (h _ (sb1.trans (Heap.SameBut.update _ a _)) ⟨_,_,_,_,jO ho1 rfl hx p2,p2⟩)) (fits_of_scanBound p2.few))))
 ·exact wpAny_pure (h _ sb1 ⟨_,_,_,_,ho1,p⟩)
def tI {ks:List Int} {k:Int}:(ks.any (·==k))=decide (k∈ks):=by
 rw [Bool.eq_iff_iff,List.any_eq_true,decide_eq_true_eq];constructor
 ·rintro ⟨x,hx,e⟩;rw [<- eq_of_beq e];exact hx
 ·exact fun hx=>⟨k,hx,beq_self_eq_true k⟩
def aP6 {ks:List Int} {k:Int} (h:k∈ks):step_dedup ks k=ks:=by unfold step_dedup;rw [tI,if_pos (decide_eq_true h)]
def aP7 {ks:List Int} {k:Int} (h:k∉ks):step_dedup ks k=ks++[k]:=by unfold step_dedup;rw [tI,if_neg (by rw [decide_eq_true_eq];exact h)]
def add_int {a:Addr} {ks:List Int} {k:Int} {tk:Tok} {Q:Bool->Shared->Prop} (hS:SetI prog w s.heap a ks) (room:ks.length+1 < scanBound)
  (h:∀ b h',Heap.SameBut a s.heap h'->SetI prog w h' a (step_dedup ks k)->Q b { s with heap:=h' }):wpAny (model prog w) A (setAddHashed a (.int k tk) ((intKind prog w).hash k)) Q E s:=by
 obtain ⟨o,es,ep,t,ho,p⟩:=hS;have hk:(intKind prog w).is k (.int k tk)=true:=intKind_is _ _ _ _;have hsz:es.size=ks.length:=by have:=p.ks.length_eq;simpa using this
 unfold setAddHashed setAddHashedIn;refine wpAny_holding (wpAny_bind (wpAny_setState_of ho p.dat p.fit ?_));dsimp only;rw [byScan_of (x:=.int k tk) rfl p.few p.el];simp only [if_true];unfold setAddByScan;refine wpAny_bind (wpAny_bind (wpAny_rule (wpAny_bind (wpAny_setScan_of hk ho p.dat p.fit p.el ?_))));cases hr:List.findIdx? (fun e=>(intKind prog w).is k e.2) es.toList with
 | some j =>
  have hm:k∈ks:=p.ks.mem_iff.mp (vB hr);refine wpAny_pure (wpAny_pure ?_);have q:=h false s.heap (Heap.SameBut.refl a _) (by rw [aP6 hm];exact ⟨o,es,ep,t,ho,p⟩);cases s;exact q
 | none =>
  have hm:k∉ks:=fun z=>vA p.el hr (p.ks.mem_iff.mpr z);dsimp only;have gw:∀ (b:Bool) {s₁:Shared} {Q':Unit->Shared->Prop},Q' () s₁->wpAny (model prog w) A (match b with | true=>rule "set.scan.the-table-gave-way" | false=>pure ()) Q' E s₁:=fun b s₁ Q' q=>by
   cases b
   ·exact wpAny_pure q
   ·exact wpAny_rule q
  have lp:=layNew_perm t es ((intKind prog w).hash k) (.int k tk);have lf:=layNew_fits t es ((intKind prog w).hash k) (.int k tk);have lg:Good (txt w) (layNew t es ((intKind prog w).hash k) (.int k tk)).2.1:=pS p.good;generalize layNew t es ((intKind prog w).hash k) (.int k tk)=L at lp lf lg;obtain ⟨es1,t1,wd,gv⟩:=L;dsimp only at lp lf lg ⊢;rw [Array.toList_push] at lp;have z1:es1.size=ks.length+1:=by have:=lp.length_eq;simp at this;omega
  have mk:∀ t2:SetTable,t2.fits es1.size=true->Good (txt w) t2->Parts prog w { o with data:=.set es1 (ep+1) t2 } es1 (ep+1) t2 (step_dedup ks k):=fun t2 f2 g2 =>
   ⟨p.ex,rfl,(p.el.push hk rfl).perm lp,by
    rw [aP7 hm];refine (lp.map _).trans ?_;rw [List.map_append];exact p.ks.append (List.Perm.refl _),by omega,f2,g2⟩
  refine wpAny_bind (gw _ ?_);have fin:∀ h',Heap.SameBut a s.heap h'->SetI prog w h' a (step_dedup ks k)->wpAny (model prog w) A (pure true) (fun b s'=>Q b s') E { s with heap:=h' }:=fun h' b c=>wpAny_pure (h true h' b c);split
  ·refine wpAny_bind ?_;rw [hashByValue_scannable 8 (x:=.int k tk) rfl];refine wpAny_pure (tH (fun b s₁ Q' q=>?_) ho p.dat p.ex (mk _ ?_ ?_) fun h' b c=>wpAny_pure (h _ h' b c))
   ·cases b
    ·exact wpAny_pure q
    ·exact wpAny_rule q
   ·split
    ·exact lf
    ·exact SetTable.fits_plain_off lf
   ·split
    ·exact lg
    ·exact lg
  ·refine wpAny_bind (wpAny_pure ?_);simp only [if_true];refine tH (fun b s₁ Q' q=>?_) ho p.dat p.ex (mk _ lf lg) fun h' b c=>wpAny_pure (h _ h' b c);cases b
   ·exact wpAny_pure q
   ·exact wpAny_rule q
end
end ST

namespace ST
open PySem PySem.Spec PyProof.Rows
section
variable {prog:Program} {w:World} {A:Around} {E:Value->Shared->Prop} {s:Shared} {R:Result->Shared->Prop}
def yM {I:Addr} {fp wr:List Addr} {n:Nat} {P:Nat->Value->Prop} {St:Nat->Heap->Prop} (W:Walks prog w A.in1 I fp wr n P St) (S:Addr) (hS:S∉fp) (val:Nat->Int) (hval:∀ i v,P i v->∃ t,v=.int (val i) t) (hb:n+1 < scanBound) :
  ∀ (k i:Nat) (s:Shared),n - i=k->i<=n->St i s.heap->SetI prog w s.heap S (firstMet val i) ->
   (∀ h' tk,SetI prog w h' S (firstMet val n)->(∀ b o,b≠S->b∉wr->s.heap.get? b=some o->h'.get? b=some o)->R (.ok (.ret .none)) { s with heap:=h',toks:=tk }) ->
   codeAny (model prog w) A (.builtin "set.update.loop" ⟨[.ref S,.ref I],[]⟩) R s:=by
 have hw:S∉wr:=fun z=>hS (W.sub _ z);intro k;induction k with
 | zero =>
  intro i s hk hi st si hR;have e:i=n:=by omega
  subst e;refine codeAny_builtin F.entry_set_update_loop ?_;rw [Around.under_plainId F.plain_set_update_loop _];refine wpAny_bind (W.done s _ _ st fun h' tk hm=>wpAny_pure ?_);exact hR h' tk (si.keep fun o e=>hm S o hw e) fun b o _ hb e=>hm b o hb e
 | succ k ih =>
  intro i s hk hi st si hR;have hlt:i < n:=by omega
  refine codeAny_builtin F.entry_set_update_loop ?_;rw [Around.under_plainId F.plain_set_update_loop _];refine wpAny_bind (W.item i s _ _ hlt st fun v h1 tk1 hP st1 hm=>?_);obtain ⟨t,rfl⟩:=hval i v hP;have s1:SetI prog w h1 S (firstMet val i):=si.keep fun o e=>hm S o hw e;have fl:=firstMet_length_le val i;refine wpAny_bind (wpAny_holding ?_);unfold setAdd;refine wpAny_holding (wpAny_bind ((intKind prog w).pyHash (k:=val i) (intKind_is _ _ _ _) ?_));refine add_int (s:={ s with heap:=h1,toks:=tk1+1 }) s1 (by omega) fun b h2 sb s2=>?_;rw [<- firstMet_succ] at s2;refine wpAny_pure ⟨plainId_quiet F.plain_set_update_loop _,ih (i+1) _ (by omega) hlt (W.frame _ h1 _ st1 fun c hc o e=>?_) s2 fun h3 tk3 s3 k3=>hR h3 tk3 s3 fun c o n1 n2 e=>k3 c o n1 n2 ?_⟩
  ·rw [sb.2 c (fun z=>hS (by rw [<- z];exact hc))];exact e
  ·show h2.get? c=some o;rw [sb.2 c n1];exact hm c o n2 e
abbrev gA (w:World):Obj:={ cls:=.type "set",dict:=none,data:=.set #[] 0 (.fresh 0 0 (!txt w)) }
def vC:Parts prog w (gA w) #[] 0 (.fresh 0 0 (!txt w)) [] where
 ex:=⟨rfl,rfl,rfl⟩
 dat:=rfl
 el:=fun e he=>by simp at he
 ks:=by simp
 few:=by decide
 fit:=rfl
 good:=⟨by simp [Ris,SetTable.fresh],fun e=>by rw [e];rfl⟩
def yN (a:Value) {Q₁:Value->Shared->Prop} (h:Q₁ (.ref s.heap.objs.size) { s with heap:=s.heap.push (gA w) }) :
  codeAny (model prog w) A (.call (.builtin "set.__new__") ⟨[.type "set",a],[]⟩) (wants Q₁ E) s:=by
 refine codeAny_of_tree ?_;show wpAny _ _ (checkBuiltinCall "set.__new__" ⟨[.type "set",a],[]⟩ >>= fun _=>again (.builtin "set.__new__" ⟨[.type "set",a],[]⟩)) _ _ s;refine wpAny_bind (wpAny_of_eq (PySem.F.newCall_set_1 a) (wpAny_pure ⟨plainId_quiet PySem.F.plain_set_new _,codeAny_builtin PySem.F.entry_set_new ?_⟩));rw [Around.under_plainId PySem.F.plain_set_new _];have sub:=sub_set_self;unfold Builtin.«set.__new__» Builtin.Frozenset.newClass;obtain ⟨hp,g,d,tk,os⟩:=s;dsimp only
 wp_walk
 refine wpAny_askSetting (wpAny_pure ?_);dsimp only;simp only [newObj];exact wpAny_bind (wpAny_alloc (wpAny_pure (wpAny_pure h)))
def rS (ns:List Int):(List.range ns.length).map (fun i=>ns.getD i 0)=ns:=by
 apply List.ext_getElem
 ·simp
 ·intro i h1 h2;simp [h2]
def yO (ns:List Int):firstMet (fun i=>ns.getD i 0) ns.length=dd ns:=by
 unfold firstMet dd;rw [rS]
def jP {b:Bool} {l:Addr} {items:Array Value} {ns:List Int} {Q:Value->Shared->Prop} (hh:A.handled=none) (hl:SqAt b s.heap l items) (hi:IntsAre items.toList ns) (hb:items.size+1 < scanBound)
  (h:∀ h' tk,SetI prog w h' s.heap.objs.size (dd ns)->(∀ b o,s.heap.get? b=some o->h'.get? b=some o)->Q (.ref s.heap.objs.size) { s with heap:=h',toks:=tk }) :
  wpAny (model prog w) A (call (.type "set") [.ref l]) Q E s:=by
 have hnz:ns.length=items.size:=by have:=IntsAre.length hi;simpa using this.symm
 obtain ⟨c,tl,mro⟩:=PySem.F.called_set.mro;have made:=PySem.F.called_set.made;have sub:=PySem.F.called_set.sub;refine wpAny_call (codeAny_of_tree (wpAny_pure ⟨Code.quiet_builtin _ (by decide +kernel),codeAny_builtin PySem.F.entry_type_call ?_⟩));rw [Around.under_plain (weight_type_call_type "set" [.ref l] []) rfl];have h1:=PySem.F.called_set.notType;have h2:=PySem.F.called_set.canCreate;have h3:=PySem.F.typeCall_set_1 (.ref l)
 repeat (any_goals (first | assumption | wp_step))
 refine codeAny_mono (yN (.ref l) (E:=E) (Q₁:=fun obj s₁=>obj=.ref s.heap.objs.size/\s₁={ s with heap:=s.heap.push (gA w) }) ⟨rfl,rfl⟩) fun r s₁ hr=>?_;cases r with
 | error e=>exact hr
 | ok fl =>
  cases fl with
  | ret obj =>
   obtain ⟨rfl,rfl⟩:=hr;have gS:(s.heap.push (gA w)).get? s.heap.objs.size=some (gA w):=Heap.get?_push_size _ rfl;have hT:Shared.TypeIs { s with heap:=s.heap.push (gA w) } (.ref s.heap.objs.size) "set":=⟨_,gS,rfl⟩;have look:=PySem.F.called_set.init.lookup;have bnd:=PySem.F.called_set.init.bind (.ref s.heap.objs.size)
   repeat (any_goals (first | assumption | wp_step))
   refine codeAny_mono (codeAny_call_builtin (R:=wants (fun r s₂=>r=.none/\∃ h' tk,s₂={ s with heap:=h',toks:=tk }/\SetI prog w h' s.heap.objs.size (dd ns)/\(∀ b o,s.heap.get? b=some o->h'.get? b=some o)) E)
    PySem.F.called_set.init.plain PySem.F.entry_set_init (check_set_init_1 hT ?_)) fun r₂ s₂ hr₂=>?_
   ·obtain ⟨cc,⟨⟨oc,od,odt,osl⟩,hol,hcl⟩,f1,f2,f3⟩:∃ cc,(∃ ol,s.heap.get? l=some ol/\ol.cls=.type cc)/\isSubtype (.type cc) (.type "set")=pure false/\isSubtype (.type cc) (.type "frozenset")=pure false/\(Value.type cc==Value.type "dict")=false:=by
     cases b
     ·obtain ⟨ol,hol,hcl,_⟩:=hl;exact ⟨_,⟨ol,hol,hcl⟩,PySem.F.sub_list_set,PySem.F.sub_list_frozenset,by decide⟩
     ·obtain ⟨ol,hol,hcl,_⟩:=hl;exact ⟨_,⟨ol,hol,hcl⟩,PySem.F.sub_tuple_set,PySem.F.sub_tuple_frozenset,by decide⟩
    dsimp only at hcl;subst hcl;have hol2:(s.heap.push (gA w)).get? l=some { cls:=.type cc,dict:=od,data:=odt,slots:=osl }:=Heap.get?_push_of_some _ hol;have il:SqAt b (s.heap.push (gA w)) l items:=hl.keep fun o e=>Heap.get?_push_of_some _ e;unfold Builtin.«set.__init__» noKeywords Builtin.Frozenset.updateFrom;generalize hPI:pyIter=PI
    wp_walk
    subst hPI;refine dW il (wpAny_bind (wpAny_runValue ?_));have lt:l < s.heap.objs.size:=Heap.lt_size hol;have sz:(s.heap.push (gA w)).objs.size=s.heap.objs.size+1:=by rw [Heap.size_push]
    have hne:l≠(s.heap.push (gA w)).objs.size:=by rw [sz];exact Nat.ne_of_lt (Nat.lt_succ_of_lt lt)
    have hSf:s.heap.objs.size∉[(s.heap.push (gA w)).objs.size,l]:=by
     rw [sz];simp only [List.mem_cons,List.not_mem_nil,or_false,not_or];exact ⟨Nat.ne_of_lt (Nat.lt_succ_self _),Nat.ne_of_gt lt⟩
    obtain ⟨P,St,W,st0,hP⟩:∃ P St,Walks prog w A.in1.in1.in1 (s.heap.push (gA w)).objs.size [(s.heap.push (gA w)).objs.size,l] [(s.heap.push (gA w)).objs.size] items.size P St/\St 0 ((s.heap.push (gA w)).push (hW b l))/\∀ i v,P i v->items[i]?=some v:=by
     have il2:SqAt b ((s.heap.push (gA w)).push (hW b l)) l items:=il.keep fun o e=>Heap.get?_push_of_some _ e;cases b
     ·exact ⟨_,_,Walks.list (by simp [hh]) _ l hne items,⟨⟨_,Heap.get?_push_size _ rfl,rfl,rfl⟩,il2⟩,fun _ _ e=>e⟩
     ·exact ⟨_,_,Walks.tuple (by simp [hh]) _ l hne items,⟨⟨_,Heap.get?_push_size _ rfl,rfl,rfl⟩,il2⟩,fun _ _ e=>e⟩
    refine yM W s.heap.objs.size hSf (fun i=>ns.getD i 0) (fun i v hv=>IntsAre.int_at hi i v (by rw [Array.getElem?_toList];exact hP i v hv)) hb (items.size - 0) 0 _ rfl (Nat.zero_le _)
     st0 ⟨_,_,_,_,Heap.get?_push_of_some _ gS,vC⟩ fun h' tk si kp=>?_
    rw [<- hnz,yO] at si;refine wpAny_pure (wpAny_pure ⟨rfl,h',tk,rfl,si,fun b o e=>?_⟩);have bl:b < s.heap.objs.size:=Heap.lt_size e;refine kp b o (Nat.ne_of_lt bl) ?_ (Heap.get?_push_of_some _ (Heap.get?_push_of_some _ e));simp only [List.mem_singleton];rw [sz];exact Nat.ne_of_lt (Nat.lt_succ_of_lt bl)
   ·cases r₂ with
    | error e=>exact hr₂
    | ok fl₂ =>
     cases fl₂ with
     | ret r =>
      obtain ⟨rfl,h',tk,rfl,si,kp⟩:=hr₂
      repeat (any_goals (first | assumption | wp_step))
      exact h _ _ si kp
     | _=>exact hr₂.elim
  | _=>exact hr.elim
end
end ST

namespace ST
open PySem PySem.Spec PyProof.Rows
section
variable {prog:Program} {w:World} {A:Around} {E:Value->Shared->Prop} {s:Shared} {R:Result->Shared->Prop}
def aP8 (ns:List Int):(dd ns).length<=ns.length:=by
 rw [<- yO];exact firstMet_length_le _ _
end
end ST
namespace DL
open PySem PySem.Spec PyProof.Rows L2 CI ST
section
variable {X:Cx} {st:Sta} {d:Nat} {v:Evs} {a:Expr} {p p2 pos pos2:Pos}
def yP (G:Good X st d) {x:Str} (h:okB st x=true):(cE st x&&(slot st x).isNone&&st.bl.contains x)=true:=by
 unfold okB at h;rw [Bool.and_eq_true] at h;exact h.1
def aP9 (S:Snd v) (G:Good X st d) (h1:okB st "len"=true) (h2:okB st "set"=true) (hs:aH a=true):SE X (.Call (.Name "len" p) [.Call (.Name "set" p2) [a] [] pos2] [] pos) (xb (aQ v st [a]) fun ws=>fun _ h=>xLS ws h):=by
 intro κ M δ h s w h' R F e;obtain ⟨ws,hh,e1,e⟩:=aG e;obtain ⟨n1,n2,n3⟩:=cY G (yP G h1);refine wpAny_Call_Name_kw (cX (u:=.builtin "len") F R n2 n3 (by decide +kernel) n1 ?_);refine PyProof.Rows.callWith_builtin1 (hX (by rfl) ?_) rfl rfl;refine lD (f:=.type "set") S G (yP G h2) (by decide +kernel) (.inr ⟨_,rfl⟩) R F e1 fun {M1 us s1} l1 R1 r1=>?_;have sb:scanBound=4096:=rfl;have fin:∀ {ns:List Int} {h2:Heap} {tk2:Nat},ns.length<=62->SetI X.S.P X.S.w h2 s1.heap.objs.size (dd ns)->(∀ b o,s1.heap.get? b=some o->h2.get? b=some o)->Wp X.S X.A (call (.builtin "len") [.ref s1.heap.objs.size]) (Pw X.S κ M hh (.d (.int (dd ns).length))) NE { s1 with heap:=h2,toks:=tk2 }:=fun {ns h2 tk2} hn si k2=>by
  obtain ⟨o,es,ep,tt,ho,pt⟩:=si;have hsz:es.size=(dd ns).length:=by
   have:=pt.ks.length_eq
   simpa using this
  have hd:=aP8 ns;refine call_len_set ho pt.ex pt.dat pt.fit (by omega) ?_;rw [hsz];exact ((R1.kept (t:=tk2) k2).tok _).pi.go l1
 unfold xLS at e;rcases ws with _ | ⟨x,_ | ⟨y,ws⟩⟩
 ·cases e
 ·obtain ⟨u,rfl,ru⟩:=w1 r1;cases x with
  | c _=>cases e
  | d x =>
   cases x with
   | tuple xs =>
    dsimp only at e;cases en:cS xs with
    | none=>rw [en] at e;cases e
    | some ns =>
     rw [en] at e;obtain ⟨hn,e⟩:=aF e;cases e;obtain ⟨b,vs,n,rfl,z,hz,rr⟩:=eW (h:=h') R1 ru rfl;have hi:=hZ en rr;exact jP (b:=true) G.rm.hd (show s1.heap.IsTuple b vs.toArray from eE (R1.z _ _ z)) (by simpa using hi) (by have:=hi.length;simp;omega) fun h2 tk2 si k2=>fin hn si k2
   | list xs =>
    dsimp only at e;cases en:cS xs with
    | none=>rw [en] at e;cases e
    | some ns =>
     rw [en] at e;obtain ⟨hn,e⟩:=aF e;cases e;obtain ⟨b,vs,n,rfl,ho,hz,rr⟩:=ref_l (h:=h') R1 ru rfl;have hi:=hZ en rr;exact jP (b:=false) G.rm.hd (cA ho).isList (by simpa using hi) (by have:=hi.length;simp;omega) fun h2 tk2 si k2=>fin hn si k2
   | _=>cases e
 ·rcases x with x | _<;>first | (cases e;done) | (cases x<;>cases e)
end
end DL

namespace DL
open PySem PySem.Spec PyProof.Rows L2 CI
section
variable {X:Cx} {st:Sta} {d:Nat} {v:Evs} {κ:Kp} {M:Mp} {δ:DSt} {h h':aA} {s:Shared} {a b c e o tg iter:Expr} {es:List Expr} {pos p p2 apos:Pos} {x m:Str} {w:W}
def aQ0 (S:Snd v) (G:Good X st d) {p:Pos} {args:List Expr} (hx:(cE st "isinstance"&&(slot st "isinstance").isNone&&st.bl.contains "isinstance")=true):SE X (.Call (.Name "isinstance" p) args [] pos) (aL7 v st args):=by
 unfold aL7;cases aY9 args with
 | some y =>
  obtain ⟨⟨e,T⟩,q,rfl⟩:=y;dsimp only;split
  ·rename_i hc;simp only [Bool.and_eq_true] at hc;split
   ·rename_i Ts hT;exact bC5 S G hx hc.1.1.1 (by rw [hc.1.1.2,hc.1.2,hc.2];rfl) hT
   ·exact bT
  ·exact bT
 | none =>
  cases aZ0 args with
  | some y =>
   obtain ⟨e,q1,q2,k,r,rfl⟩:=y;dsimp only;split
   ·rename_i hc;simp only [Bool.and_eq_true] at hc;exact aP2 S G hx hc.1.1 hc.1.2 hc.2
   ·exact bT
  | none=>exact bT
def bD8 (S:Snd v) (G:Good X st d) {o:Expr} {m:Str} {apos:Pos} {args:List Expr}:SE X (.Call (.Attribute o m apos) args [] pos) (aL8 v st o m apos pos args):=by
 unfold aL8;split
 ·rename_i hc;rw [Bool.and_eq_true] at hc;rcases args with _ | ⟨a,es⟩
  ·exact bT
  ·dsimp only;split
   ·rename_i hm;subst hm;rcases es with _ | ⟨_,_⟩
    ·dsimp only;split
     ·exact bC8 S G hc.1 hc.2
     ·exact bT
    ·exact bT
   ·split
    ·rename_i hm;subst hm;rcases es with _ | ⟨_,_⟩
     ·dsimp only;split
      ·rename_i hs;exact bC9 S G hc.1 hc.2 hs
      ·exact bT
     ·exact bT
    ·split
     ·rename_i hn;split
      ·rename_i g hg;exact aP3 S G hg hc.1 hc.2 (by simpa using hn)
      ·exact bT
     ·exact bT
 ·exact bT
def aQ1 (S:Snd v) (G:Good X st d) {f:Expr} {args:List Expr}:SE X (.Call f args [] pos) (sU v st f args pos):=by
 cases f with
 | Name x p =>
  unfold sU;dsimp only;split
  ·rename_i ht;rw [Bool.and_eq_true] at ht;split
   ·rename_i m hm;rcases args with _ | ⟨a,es⟩
    ·exact bT
    ·exact bC0 S G ht.1 (G.fnW _ _ hm)
   ·split
    ·rename_i C m hm;rcases args with _ | ⟨a,es⟩
     ·exact bT
     ·exact bR7 S G ht.1 hm
    ·split
     ·rename_i m hm;rcases args with _ | ⟨a,es⟩
      ·exact bT
      ·refine xU G ht.1 (G.fn _ _ hm) (fa:=if (st.ac x).isEmpty=true then aQ v st (a::es) else gJ v st (st.ac x) 0 (a::es)) ?_ fun {δ h r} e=>?_
       ·split
        ·exact bP S G _
        ·exact tE S G _ _ _
       ·split at e
        ·exact dU e
        ·exact lC e
     ·split
      ·rename_i hbl;have hx:(cE st x&&(slot st x).isNone&&st.bl.contains x)=true:=by rw [ht.1,ht.2,hbl];rfl
       split
       ·rename_i g hg;rcases args with _ | ⟨a,es⟩
        ·exact bT
        ·obtain ⟨f,h1,h2,h3⟩:=aE3 (S:=X.S) hg;exact bC3 S G hx h1 h2 h3
       ·split
        ·rename_i hi;subst hi;exact aQ0 S G hx
        ·rcases args with _ | ⟨a,es⟩
         ·exact lB fE
         ·exact lB (yI S G)
      ·exact bT
  ·exact bT
 | Attribute o m apos =>
  unfold sU;dsimp only;split
  ·rename_i C g hm;rcases args with _ | ⟨a,es⟩
   ·exact bT
   ·dsimp only;split
    ·rename_i hc;simp only [Bool.and_eq_true,decide_eq_true_eq] at hc;exact bR8 S G hm hc.1.1.1 (by rw [hc.1.1.2]) hc.1.2 hc.2
    ·exact bT
  ·exact bD8 S G
 | _=>exact bT
def aQ5 (S:Snd v) (G:Good X st d) {f:Expr} {args:List Expr}:SE X (.Call f args [] pos) (wR v st f args pos):=by
 unfold wR;cases hq:fuS f args with
 | none=>exact aQ1 S G
 | some y =>
  obtain ⟨a,p,p2,q,rfl,rfl⟩:=y;dsimp only;split
  ·rename_i hc;simp only [Bool.and_eq_true] at hc;exact aP9 S G hc.1.1 hc.1.2 hc.2
  ·exact bT
def aQ6 (S:Snd v) (G:Good X st d) (e:Expr):SE X e (pH v st e):=by
 cases e with
 | Name x p=>exact aN0 G
 | Constant c k p=>exact aD4
 | BinOp a op b p =>
  unfold pH;dsimp only;split
  ·rename_i es p';have:bV v st (.BinOp (.List es p') .Mult b p')=bV v st (.BinOp (.List es p') .Mult b p):=rfl;rw [this];exact lB (gP S G _)
  ·exact bA3 S G
 | Compare a ops cs p=>exact aO9 S G
 | BoolOp op vs p =>
  cases op with
  | And=>exact xI S G vs
  | Or=>exact aJ0 S G vs
 | UnaryOp op a p =>
  cases op with
  | Not=>exact bA4 S G
  | USub=>exact bA5 S G
  | _=>exact bT
 | IfExp c a b p=>exact bA6 S G
 | Tuple es k p=>exact bB0 S G
 | List es p=>exact lB (gP S G _)
 | ListComp elt gs sc p=>exact lB (gP S G _)
 | Subscript a b p =>
  unfold pH;dsimp only;split
  ·exact bB8 S G
  ·rename_i k q;exact lB (gP S G (.Subscript a (.Slice none none (some k) q) p))
  ·split
   ·exact bT
   ·rename_i hs;have hs:qY b=false:=by simpa using hs
    split
    ·rename_i f hf;exact bD5 S G hf hs
    ·exact bR9 S G hs
 | Call f args kw p =>
  rcases kw with _ | ⟨_,_⟩
  ·exact aQ5 S G
  ·exact bT
 | Attribute o f p =>
  unfold pH;dsimp only;split
  ·rename_i ho;exact bC1 S G ho
  ·exact bT
 | Dict ks vs p =>
  rcases ks with _ | ⟨_,_⟩
  ·rcases vs with _ | ⟨_,_⟩
   ·exact aE2
   ·exact bT
  ·exact bT
 | _=>exact bT
theorem aJ3 (S:Snd v) (G:Good X st d) (he:∀ whole,isTrue e X.env whole=(do let v <- whole;standAt e.pos;holding [v] (truthy v))):ST X e (xb (v.E st e) fun w=>(match w with
  | .d (.bool b)=>aD b
  | _=>xno)):=by
 intro κ M δ h s w h' R F e';obtain ⟨x,h1,e1,e'⟩:=aG e';refine isTrue_plain (thn (S.E G e R F e1) fun u s1 ⟨M1,l1,R1,r1⟩=>?_) (he _);rcases x with (_ | b | _ | _ | _ | _ | _) | _<;>first | cases e';done | skip
 cases e';cases wb.mp r1;exact wpAny_truthy_bool ⟨rfl,M1,l1,R1⟩
def aQ7 (S:Snd v) (G:Good X st d) (e:Expr):ST X e (aI6 v st e):=by
 cases e with
 | UnaryOp op a p =>
  cases op with
  | Not =>
   intro κ M δ h s w h' R F e;obtain ⟨x,h1,e1,e⟩:=aG (show xb (v.T st a) (fun b=>aD (!b)) δ h=some (w,h') from e);cases e;exact isTrue_not (thn (S.T G a R F e1) fun c s1 ⟨ec,q⟩=>⟨by rw [ec],q⟩)
  | _=>exact aJ3 S G fun _=>rfl
 | BoolOp op vs p =>
  cases op with
  | And=>exact aJ1 S G vs _
  | Or=>exact bA7 S G vs _
 | Compare a ops cs p=>exact bA9 S G
 | IfExp a b c p=>exact fun _ _ _ _ _ _ _ _ _ e=>by cases e
 | _=>exact aJ3 S G fun _=>rfl
def vD:SG X e (fun _ _ _=>none):=fun _ _ _ _ _ _ _ _ _ _ _ _ e=>by cases e
def rT (h:qY b=false) (v:Value):assign (.Subscript a b pos) X.env v=(do
   let ov <- holding [v] (eval a X.env)
   let iv <- holding [v,ov] (eval b X.env)
   standAt pos
   holding [v,ov,iv] (setItem ov iv v)
   release [v,ov,iv] []):=by
 cases b<;>first | rfl | cases h
def aQ9 (S:Snd v) (G:Good X st d) (e:Expr):SG X e (pJ v st e):=by
 cases e with
 | Name x p =>
  unfold pJ;dsimp only;split
  ·rename_i i hi;split
   ·rename_i hl;exact aN7 G hi hl
   ·exact vD
  ·exact vD
 | Tuple es k p =>
  unfold pJ;dsimp only;split
  ·rename_i hs;exact bB4 S G hs
  ·exact vD
 | Subscript a b p =>
  unfold pJ;dsimp only;split
  ·exact vD
  ·rename_i hs;exact bB5 S G (rT (by simpa using hs))
 | _=>exact vD
end
end DL

namespace DL
open PySem PySem.Spec PyProof.Rows L2 CI
section
variable {X:Cx} {st:Sta} {d:Nat} {v:Evs} {κ:Kp} {M:Mp} {δ:DSt} {h h':aA} {s:Shared} {a b c e o tg iter:Expr} {es:List Expr} {pos p p2 apos px:Pos} {x m:Str} {w:W} {i:Nat}
def cH (h:gL e=false) (t:Option Expr) (l:Nat) (env:Env):swapsWith e t l env=pure false:=by
 cases e<;>first | rfl | cases h
def pT (F:Fra X κ M δ) (G:Good X st d) {elt:Expr} {gs:List Comprehension} {sc:Scope} {l:Nat} :
  swapsWith (.ListComp elt gs sc p) (some (.Name x px)) l X.env=pure (swB st (.ListComp elt gs sc p) x px):=by
 show (pure (X.env.blockKind==.function&&X.env.kindOf x==some .local&&px.line==p.line&&!(sc.names.any fun (n,k)=>n==x&&(k==.local||k==.cell))):Sem Bool)=_;unfold swB;dsimp only;have e1:(X.env.blockKind==.function)=true:=by unfold Env.blockKind;rw [F.ok.kind];rfl
 have e2:(X.env.kindOf x==some .local)=cO st.S x:=by
  unfold Env.kindOf cO;rw [G.S];cases q:st.S.names.lookup x with
  | none=>rfl
  | some k=>cases k<;>rfl
 rw [e1,e2,Bool.true_and]
def rU (h:aC6 e tg=false) (env:Env):swappedStores [tg] e env=pure none:=by
 cases tg<;>first | rfl | (cases e<;>first | rfl | cases h)
def aE4 (h:aH e=true) (env:Env):(assignEach [e] env).map (·.2)=[assign e env]:=by
 cases e<;>first | rfl | cases h
def tJ {f:XR W} (G:Good X st d) (he:SE X e f) (hi:slot st x=some i) (hl:(nP st.S x&&(st.top||cO st.S x))=true) (hs:∀ ⦃κ M δ⦄,Fra X κ M δ->swapsWith e (some (.Name x px)) pos.line X.env=pure false):SS X (.Assign [.Name x px] e pos) (aN i f):=by
 intro κ M δ h s fl h' R F e';obtain ⟨⟨w,h1⟩,e1,e'⟩:=bind_some e';cases e';obtain ⟨hx,hf⟩:=xH G hl;refine wpAny_Assign_Name (thn (he R F e1) fun u s1 ⟨M1,l1,R1,r1⟩=>?_) (hs F);exact xE (F.go l1) R1 (kA G hi) hx hf r1 fun s2 κ2 o2 R2 F2 _=>⟨κ2,M1,o2,l1,R2,F2⟩
def yQ (S:Snd v) (G:Good X st d) (hi:slot st x=some i) (hl:(nP st.S x&&(st.top||cO st.S x))=true) (hc:gL e=true) (hs:(swB st e x px||!(cO st.S x))=true) {f:XR W}
  (hf:f=aV (bV v st e)\/f=aM (bV v st e)):SS X (.Assign [.Name x px] e pos) (aN i f):=by
 have no:∀ {e:Expr},f=aV (bV v st e)\/f=aM (bV v st e)->(∀ δ h,bV v st e δ h=none)->SS X (.Assign [.Name x px] e pos) (aN i f):=fun {e} hf n κ M δ h s fl h' R F e'=>by
  obtain ⟨⟨w,h1⟩,e1,e'⟩:=bind_some e';rcases hf with rfl | rfl<;>(obtain ⟨q,e2,_⟩:=bind_some (show (bV v st e δ h).bind _=_ from e1);rw [n] at e2;cases e2)
 cases e with
 | ListComp elt gs sc p =>
  by_cases hw:swB st (.ListComp elt gs sc p) x px=true
  ·rcases gs with _ | ⟨⟨tg,iter,ifs,a⟩,_ | ⟨_,_⟩⟩
   ·exact no hf fun _ _=>rfl
   ·by_cases ha:a=0
    ·subst ha
     by_cases hcc:(pG st.N sc st.S&&!hG iter)=true
     ·have e0:bV v st (.ListComp elt [⟨tg,iter,ifs,0⟩] sc p)=xb (mF v st tg iter) fun p=>fun δ h=>aR (v.G (st.blk sc) tg) (aC5 v (st.blk sc) ifs) (v.E (st.blk sc) elt) p.2 p.1 p.1 (aU (mG st.N sc) δ) h []:=by
       show jK v st elt tg iter ifs sc=_;unfold jK;rw [if_pos hcc]
      rw [Bool.and_eq_true] at hcc;have hset:hG iter=false:=by simpa using hcc.2
      have hloc:st.S.names.lookup x=some .local:=by
       unfold swB at hw;simp only [Bool.and_eq_true] at hw;have h1:=hw.1.1;unfold cO at h1;split at h1
       ·assumption
       ·cases h1
      intro κ M δ h s fl h' R F e';obtain ⟨⟨w,h2⟩,e1,e'⟩:=bind_some e';cases e';have run:∀ {xs:List PyData} {h1:aA},bV v st (.ListComp elt [⟨tg,iter,ifs,0⟩] sc p) δ h=some (xs,h1)->(∀ {κ:Kp} {M:Mp} {u:Value} {s:Shared},Pf X.S κ M h1 xs u s->Pw X.S κ M h2 w u s)->Wp X.S X.A (exec (.Assign [.Name x px] (.ListComp elt [⟨tg,iter,ifs,0⟩] sc p) pos) X.env) (Ps X κ M h2 (.nx (δ.set i (some w)))) NE s:=fun {xs h1} e2 cv=>by
       rw [e0] at e2;obtain ⟨⟨all,c⟩,h0,e3,e4⟩:=aG e2;exact aO0 G.rm.hd (by rw [G.S,G.N];exact oB hcc.1) (oK S G tg iter) (fun cl C=>S.G (cG G cl C) tg) (fun cl C=>rG S (cG G cl C) ifs) (fun cl C=>S.E (cG G cl C) elt) (oE hset _) R F e3 (hU e4) (fun p=>cv (bB6 p)) (kA G hi) (by rw [G.S];exact hloc) (by rw [pT F G,hw])
      rcases hf with rfl | rfl
      ·obtain ⟨⟨xs,h1⟩,e2,e5⟩:=bind_some (show (bV v st _ δ h).bind _=_ from e1);cases e5;exact run e2 fun p=>wV p
      ·obtain ⟨⟨xs,h1⟩,e2,e5⟩:=bind_some (show (bV v st _ δ h).bind _=_ from e1);cases e5;exact run e2 fun p=>nR p
     ·exact no hf fun δ h=>by
       show jK v st elt tg iter ifs sc δ h=none;unfold jK;rw [if_neg hcc];rfl
    ·exact no hf fun δ h=>by
      show (if a=0 then jK v st elt tg iter ifs sc else xno) δ h=none;rw [if_neg ha];rfl
   ·exact no hf fun _ _=>rfl
  ·have hw':swB st (.ListComp elt gs sc p) x px=false:=by simpa using hw
   refine tJ G ?_ hi hl fun κ M δ F=>by rw [pT F G,hw']
   rcases hf with rfl | rfl
   ·exact mL (gP S G _)
   ·exact lB (gP S G _)
 | SetComp elt gs sc p=>exact no hf fun _ _=>rfl
 | DictComp k w gs sc p=>exact no hf fun _ _=>rfl
 | _=>cases hc
def bD9 (S:Snd v) (G:Good X st d) (hc:gL e=false) (ht:aC6 e tg=false) (hn:aH tg=true):SS X (.Assign [tg] e pos) fun δ h=>(v.E st e δ h).bind fun p=>(v.G st tg p.1 δ p.2).bind fun q=>some (.nx q.1,q.2):=by
 intro κ M δ h s fl h' R F e';obtain ⟨⟨w,h1⟩,e1,e'⟩:=bind_some e';obtain ⟨⟨δ2,h2⟩,e2,e'⟩:=bind_some e';cases e';refine wpAny_Assign_stores (thn (S.E G e R F e1) fun u s1 ⟨M1,l1,R1,r1⟩=>?_) (cH hc _ _ _) (rU ht _);rw [aE4 hn];exact thn (S.G G tg R1 (F.go l1) r1 e2) fun _ s2 ⟨κ2,M2,o2,l2,R2,F2⟩=>⟨κ2,M2,o2,l1.trans l2,R2,F2⟩
def aR0 (S:Snd v) (G:Good X st d) (t:Stmt):SS X t (pK v st t):=by
 have one:∀ (tg e:Expr) (pos:Pos),SS X (.Assign [tg] e pos) (if (gL e||aC6 e tg||!(aH tg))=true then fun _ _=>none else fun δ h=>(v.E st e δ h).bind fun p=>(v.G st tg p.1 δ p.2).bind fun q=>some (.nx q.1,q.2)):=fun tg e pos=>by
  split
  ·exact jU
  ·rename_i hc;simp only [Bool.or_eq_true,not_or,Bool.not_eq_true,Bool.not_eq_true',Bool.not_eq_false] at hc;exact bD9 S G hc.1.1 hc.1.2 (by simpa using hc.2)
 cases t with
 | Return o p =>
  cases o with
  | none=>exact jU
  | some e =>
   refine bB2 (f:=if st.cv.contains "return"=true then aC7 v st e else v.E st e) ?_;split
   ·exact bD4 S G e
   ·exact S.E G e
 | If c a b p=>exact bR4 S G
 | Expr e p =>
  unfold pK;dsimp only;split
  ·exact jU
  ·rename_i hc;exact aN6 S G (cH (by simpa using hc) _ _ _)
 | Pass p=>exact fun _ _ _ _ _ _ _ R F e=>by cases e;exact wpAny_Pass ⟨_,_,.refl,.refl,R,F⟩
 | Break p=>exact fun _ _ _ _ _ _ _ R F e=>by cases e;exact wpAny_Break ⟨_,_,.refl,.refl,R,F⟩
 | Continue p=>exact fun _ _ _ _ _ _ _ R F e=>by cases e;exact wpAny_Continue ⟨_,_,.refl,.refl,R,F⟩
 | For tg iter body els p =>
  rcases els with _ | ⟨_,_⟩
  ·unfold pK;dsimp only;split
   ·exact jU
   ·rename_i hs;exact bB3 G.rm.hd (oK S G tg iter) (S.G G tg) (pO S G body) (oE (by simpa using hs) _)
  ·exact jU
 | Assign tgs e p =>
  rcases tgs with _ | ⟨tg,_ | ⟨_,_⟩⟩
  ·exact jU
  ·cases tg with
   | Name x px =>
    unfold pK;dsimp only;split
    ·rename_i i hi;split
     ·rename_i hl;split
      ·rename_i hc;split
       ·rename_i hw;split
        ·exact yQ S G hi hl hc hw (.inl rfl)
        ·exact yQ S G hi hl hc hw (.inr rfl)
       ·exact jU
      ·rename_i hc;have hsw:∀ ⦃κ M δ⦄,Fra X κ M δ->swapsWith e (some (.Name x px)) p.line X.env=pure false:=fun _ _ _ _=>cH (by simpa using hc) _ _ _;split
       ·rename_i hz;rw [Bool.and_eq_true] at hz;have hd:∃ pp,e=.Dict [] [] pp:=by
         have:=hz.2;cases e<;>first | (cases this;done) | skip
         rename_i ks vs pp;cases ks<;>cases vs<;>first | exact ⟨_,rfl⟩ | cases this
        obtain ⟨pp,rfl⟩:=hd;exact tJ G aP5 hi hl hsw
       ·split
        ·exact tJ G (mL (S.F G e)) hi hl hsw
        ·exact tJ G (S.E G e) hi hl hsw
     ·exact jU
    ·exact jU
   | Attribute o f pa=>exact bC2 S G (bD0 S G) (by cases e<;>rfl)
   | _=>exact one _ _ _
  ·cases tg<;>exact jU
 | _=>exact jU
end
def yR {v:Evs} (S:Snd v):Snd (aZ2 v):=⟨fun G=>aQ6 S G,fun G=>aQ7 S G,fun G=>gP S G,fun G=>aQ9 S G,fun G=>aR0 S G⟩
def aR1:Snd Evs.no:=⟨fun _ _=>bT,fun _ _ _ _ _ _ _ _ _ _ _ e=>(by cases e),fun _ _=>fE,fun _ _=>vD,fun _ _=>jU⟩
theorem cI:∀ n,Snd (evs n)
 | 0=>aR1
 | n+1=>yR (cI n)
end DL

namespace DL
open PySem PySem.Spec PyProof.Rows L2 CI
def zip_fst {α β:Type} {a:α} {b:β} {l:List α} {r:List β} (h:(a,b)∈l.zip r):a∈l:=(List.of_mem_zip h).1
section
variable {kd:Str->Option NameKind} {x:Str} {v:Value}
theorem iB:∀ {bs:List (Str×Value)} {m:Str->Option Value},(∀ v,(x,v)∉bs)->bindL kd bs m x=m x/\bindC kd bs m x=m x
 | [],_,_=>⟨rfl,rfl⟩
 | (n,v)::r,m,h=>by
  unfold bindL bindC;have ne:x≠n:=by rintro rfl;exact h v List.mem_cons_self
  rw [(iB fun w hw=>h w (List.mem_cons_of_mem _ hw)).1,(iB fun w hw=>h w (List.mem_cons_of_mem _ hw)).2];constructor<;>split<;>simp [ne]
theorem lG:∀ {P:List Str} {vs:List Value} {i:Nat} {m:Str->Option Value},P.Nodup->P[i]?=some x->vs[i]?=some v->(kd x=some .local->bindL kd (P.zip vs) m x=some v)/\(kd x≠some .local->bindC kd (P.zip vs) m x=some v)
 | [],_,_,_,_,h,_=>by simp at h
 | _::_,[],_,_,_,_,h=>by simp at h
 | p::P,w::vs,0,m,nd,h1,h2=>by
  simp at h1 h2;subst h1;subst h2;have no:∀ v,(p,v)∉P.zip vs:=fun v hv=>(List.nodup_cons.mp nd).1 (zip_fst hv);refine ⟨fun hk=>?_,fun hk=>?_⟩
  ·show bindL kd ((p,w)::P.zip vs) m p=_;unfold bindL;rw [(iB no).1,if_pos hk];simp
  ·show bindC kd ((p,w)::P.zip vs) m p=_;unfold bindC;rw [(iB no).2,if_neg hk];simp
 | p::P,w::vs,i+1,m,nd,h1,h2=>by
  have ih:=fun m=>lG (i:=i) (m:=m) (List.nodup_cons.mp nd).2 (by simpa using h1) (by simpa using h2);refine ⟨fun hk=>?_,fun hk=>?_⟩
  ·show bindL kd ((p,w)::P.zip vs) m x=_;unfold bindL;exact (ih _).1 hk
  ·show bindC kd ((p,w)::P.zip vs) m x=_;unfold bindC;exact (ih _).2 hk
end
def vE {N:List Str} {ws:List W} {i:Nat} {w:W} (h:(cF N ws)[i]?=some (some w)):ws[i]?=some w:=by
 unfold cF at h
 by_cases hi:i < ws.length
 ·rw [List.getElem?_append_left (by simpa using hi),List.getElem?_map] at h;cases e:ws[i]? with
  | none=>rw [e] at h;cases h
  | some a=>rw [e] at h;cases h;rfl
 ·rw [List.getElem?_append_right (by simpa using hi),List.getElem?_replicate] at h;split at h<;>cases h
structure FnSc (t:Stmt):Prop where
 kind:(defScope t).kind=.function
 co:(defScope t).isCoroutine=false
 gen:(defScope t).isGenerator=false
 nd:(bL t).Nodup
 par:∀ x∈parsOf t,Loc (defScope t) x
 nofree:∀ y∈(defScope t).names,y.2≠.free
def yS {t:Stmt} (h:fnB t=true):FnSc t:=by
 unfold fnB at h;simp only [Bool.and_eq_true,decide_eq_true_eq,List.all_eq_true,Bool.not_eq_true'] at h;obtain ⟨h1,h2,h3,h4,h5,h6⟩:=h;refine ⟨h1,h2,h3,h4,fun x hx=>?_,fun y hy e=>?_⟩
 ·have:=h5 x hx;unfold nP at this;split at this
  ·rename_i q;exact .inl q
  ·rename_i q;exact .inr q
  ·cases this
 ·have:=h6 y hy;rw [e] at this;cases this
def aE5 {t:Stmt} {i:Nat} {y:Str} (e:(bL t)[i]?=some y) (hi:i < (parsOf t).length):(parsOf t)[i]?=some y:=by
 unfold bL at e
 rwa [List.getElem?_append_left hi] at e
abbrev cxF (S:Sx) (t:Stmt) (q:Str) (L f:Addr) (cd:Value) (A:Around):Cx:=⟨S,A.deeper (envOfC q (defScope t) L f cd),bL t,envOfC q (defScope t) L f cd,true⟩
section
variable {S:Sx} {κ:Kp} {M:Mp} {h h':aA} {s s1:Shared} {A:Around} {t:Stmt} {q:Str} {f:Addr} {cd:Value} {us:List Value} {ws:List W}
def jE (FS:FnSc t) (md:Mod S) (hz:S.base.objs.size<=s.heap.objs.size) (hl:ws.length=(parsOf t).length) (fo:FrO κ A) (R:Mem S κ M h s) (r:RepWs S M ws us)
  (x:InCallC s s.heap.objs.size (bindL (envOfC q (defScope t) s.heap.objs.size f cd).kindOf ((parsOf t).zip us) fun _=>none) (cellsFrom (s.heap.objs.size+1) (defScope t).names []) (bindC (envOfC q (defScope t) s.heap.objs.size f cd).kindOf ((parsOf t).zip us) fun _=>none) s1) :
  ∃ κ1,Mem S κ1 M h s1/\Fra (cxF S t q s.heap.objs.size f cd A) κ1 M (cF (bL t) ws)/\∀ κ2,Own (cxF S t q s.heap.objs.size f cd A) κ1 κ2->∀ a y,κ a=some y->κ2 a=some y:=by
 obtain ⟨h1,tk,rfl,hk⟩:=x.done;have R1:Mem S κ M h { s with heap:=h1,toks:=tk }:=R.kept hk
 let fp:=(cellsFrom (s.heap.objs.size+1) (defScope t).names []).map (·.2)
 have up:∀ b∈fp,s.heap.objs.size < b:=fun b hb=>by
  obtain ⟨⟨n,c⟩,hm,rfl⟩:=List.mem_map.mp hb;exact x.above n c hm
 have fr:∀ b∈fp,bH κ M b:=fun b hb=>R.new (Heap.get?_none_of_le (Nat.le_of_lt (up b hb)));have R2:=R1.pin fr;obtain ⟨o,es,ep,ho,hd,hs,hf⟩:=x.toInCall.ns;have f0:=R.size;have R3:=R2.more (b:=false) ⟨f0.1,f0.2.2⟩ ho;have mem:∀ y c,(cellsFrom (s.heap.objs.size+1) (defScope t).names []).lookup y=some c->c∈fp:=fun y c e=>List.mem_map.mpr ⟨_,PySem.mem_of_lookup e,rfl⟩;have kc:∀ y c,(cellsFrom (s.heap.objs.size+1) (defScope t).names []).lookup y=some c->∃ oc,((eQ κ fp h1).up s.heap.objs.size (false,o)) c=some (true,oc)/\oc.data=.cell (bindC (envOfC q (defScope t) s.heap.objs.size f cd).kindOf ((parsOf t).zip us) (fun _=>none) y):=fun y c e=>by
  obtain ⟨oc,h2,h3⟩:=x.cell y c e;have h2:h1.get? c=some oc:=h2;refine ⟨oc,?_,h3⟩;rw [cD (Nat.ne_of_gt (up c (mem y c e)))];unfold eQ;rw [if_pos (mem y c e),h2];rfl
 have has:∀ {y:Str},(defScope t).names.lookup y=some .cell->∃ c,(cellsFrom (s.heap.objs.size+1) (defScope t).names []).lookup y=some c:=fun hy=>Option.isSome_iff_exists.mp (PySem.W.cellsFrom_some _ _ _ (.inl hy));have ndP:(parsOf t).Nodup:=(List.sublist_append_left _ _).nodup FS.nd;refine ⟨_,R3,⟨⟨md,FS.kind,rfl,rfl,fun y z c a b=>name_of_addr x.apart (PySem.mem_of_lookup a) (PySem.mem_of_lookup b),fun y hy=>?_,hz,FS.nd⟩,?_,⟨o,_,gW,⟨es,ep,hd,hs,hf⟩,fun i y w e1 e2 e3=>?_⟩,fun y c e=>?_,?_⟩,fun κ2 own a y ea=>?_⟩
 ·have hy:(defScope t).names.lookup y=some .cell\/(defScope t).names.lookup y=some .free:=hy;rcases hy with hy | hy
  ·exact has hy
  ·exact absurd rfl (FS.nofree _ (PySem.mem_of_lookup hy))
 ·show (cF (bL t) ws).length=(bL t).length;unfold cF;rw [List.length_append,List.length_map,List.length_replicate,hl];have:(parsOf t).length<=(bL t).length:=by unfold bL;rw [List.length_append];omega
  omega
 ·have ew:=vE e2;obtain ⟨u,eu,ru⟩:=kH r ew;have hi:i < (parsOf t).length:=by rw [<- hl];exact (List.getElem?_eq_some_iff.mp ew).1
  have ep:=aE5 e1 hi;refine ⟨u,ru,?_⟩;rcases FS.par y (List.mem_of_getElem? ep) with k | k
  ·exact .inl ⟨k,(lG ndP ep eu).1 k⟩
  ·obtain ⟨c,e⟩:=has k;obtain ⟨oc,h2,h3⟩:=kc y c e;rw [(lG ndP ep eu).2 (by show (defScope t).names.lookup y≠_;rw [k];decide)] at h3;exact .inr ⟨.inl k,c,oc,e,h2,h3⟩
 ·obtain ⟨oc,h2,h3⟩:=kc y c e;exact ⟨oc,_,h2,h3⟩
 ·obtain ⟨l,e1,e2⟩:=fo;refine ⟨envOfC q (defScope t) s.heap.objs.size f cd::l,by simp [Around.deeper,e1],fun env he=>?_⟩;rcases List.mem_cons.mp he with rfl | he
  ·exact ⟨by show (defScope t).kind≠_;rw [FS.kind];decide,_,o,rfl,gW,fun vs z=>by rw [hd] at z;cases z⟩
  ·obtain ⟨k1,L,o',k2,k3,k4⟩:=e2 env he;refine ⟨k1,L,o',k2,?_,k4⟩;rw [cD fun z=>by rw [z,f0.2.1] at k3;cases k3];unfold eQ;rw [if_neg fun z=>by rw [(fr L z).2.1] at k3;cases k3];exact k3
 ·have nL:a≠s.heap.objs.size:=fun z=>by rw [z,f0.2.1] at ea;cases ea
  have nf:a∉fp:=fun z=>by rw [(fr a z).2.1] at ea;cases ea
  have e1:((eQ κ fp h1).up s.heap.objs.size (false,o)) a=κ a:=by
   rw [cD nL];unfold eQ;rw [if_neg nf]
  by_cases e2:κ2 a=((eQ κ fp h1).up s.heap.objs.size (false,o)) a
  ·rw [e2,e1,ea]
  ·rcases own a e2 with z | ⟨_,y',z⟩
   ·exact (nL z).elim
   ·exact (nf (mem y' a z)).elim
end
end DL

namespace DL
open PySem PySem.Spec PyProof.Rows L2 CI
section
variable {S:Sx} {κ κ2:Kp} {M M2:Mp} {h h1:aA} {s s':Shared} {n:Nat}
noncomputable def Low (n:Nat):Cell->Prop
 | .r is=>∀ j∈is,j < n
 | .o _ fs=>∀ f j,fs.lookup f=some (.c j)->j < n
 | _=>True
def yT {c:Cell} (hc:∀ j∈cRefs c,j < n):Low n c:=by
 cases c with
 | r is=>exact hc
 | o C fs =>
  intro f j e;refine hc j ?_;unfold cRefs;exact List.mem_flatten.mpr ⟨[j],List.mem_map.mpr ⟨_,PySem.mem_of_lookup e,rfl⟩,List.mem_singleton.mpr rfl⟩
 | _=>exact True.intro
def aR2 {H:Heap} {p:Addr×Addr} {c:Cell} (x:CellOk S M H p c):Low M.m.length c:=by
 cases c with
 | r is =>
  obtain ⟨us,k,_,_,r⟩:=x;intro j hj;obtain ⟨i,hi⟩:=List.getElem?_of_mem hj;obtain ⟨u,_,p,ep,_⟩:=kH (sS r) hi;exact (List.getElem?_eq_some_iff.mp ep).1
 | o C fs =>
  obtain ⟨_,_,_,mA,_,r,_⟩:=x;intro f j e;obtain ⟨u,_,p,ep,_⟩:=RelO.some_of (by rw [<- e];exact r f);exact (List.getElem?_eq_some_iff.mp ep).1
 | _=>exact True.intro
def pU {w:W} {u:Value} (r:RepW S M w u) (hl:∀ j,w=.c j->j < n):RepW S ⟨M.Z,M.m.take n⟩ w u:=by
 cases w with
 | d x=>exact r
 | c j =>
  obtain ⟨p,ep,e⟩:=r;exact ⟨p,by show (M.m.take n)[j]?=_;rw [List.getElem?_take_of_lt (hl j rfl)];exact ep,e⟩
theorem mU:∀ {is:List Nat} {us:List Value},RepWs S M (is.map .c) us->(∀ j∈is,j < n)->RepWs S ⟨M.Z,M.m.take n⟩ (is.map .c) us
 | [],_,r,_=>by cases r;exact .nil
 | i::is,_,r,l=>by
  cases r with
  | cons a b=>exact .cons (pU a fun j ej=>by cases ej;exact l i List.mem_cons_self) (mU b fun j hj=>l j (List.mem_cons_of_mem _ hj))
def yU {H:Heap} {p:Addr×Addr} {c:Cell} (x:CellOk S M H p c) (l:Low n c):CellOk S ⟨M.Z,M.m.take n⟩ H p c:=by
 cases c with
 | r is =>
  obtain ⟨us,k,e,z,r⟩:=x;exact ⟨us,k,e,z,mU r l⟩
 | o C fs =>
  obtain ⟨a,b,c,mA,d,r,e⟩:=x;refine ⟨a,b,c,mA,d,fun f=>?_,e⟩;have rf:=r f;cases q:fs.lookup f with
  | none=>rw [q] at rf;cases q2:mA f with
   | none=>exact True.intro
   | some u=>rw [q2] at rf;exact rf.elim
  | some w =>
   rw [q] at rf;obtain ⟨u,eu,ru⟩:=RelO.some_of rf;rw [eu];exact pU ru fun j ej=>l f j (by rw [q,ej])
 | l xs=>exact x
 | k xs=>exact x
 | n xs=>exact x
 | t xs=>exact x
def Mem.cut (R0:Mem S κ M h s) (l:Le M M2) (R:Mem S κ M2 h1 s') (ok:okP h h1):Mem S κ ⟨M2.Z,M.m⟩ (h1.take h.length) s':=by
 obtain ⟨k,ek⟩:=l.m;have em:M.m=M2.m.take h.length:=by rw [ek,<- R0.len];simp
 have lt:h.length<=h1.length:=by rw [<- R.len,ek,<- R0.len];simp
 have at_:∀ {i:Nat} {p:Addr×Addr},M.m[i]?=some p->M2.m[i]?=some p:=fun e=>l.at e;have sub:∀ p∈M.m,p∈M2.m:=fun p hp=>by rw [ek];exact List.mem_append_left _ hp
 refine ⟨R.z,R.k,by rw [List.length_take];show M.m.length=_;rw [R0.len];omega,fun i j p q a b=>R.ap i j p q (at_ a) (at_ b),fun p hp=>R.off p (sub p hp),fun i p c a b=>?_,R.base,R.bare,R.os⟩;have a:M.m[i]?=some p:=a;have hi:i < h.length:=by rw [<- R0.len];exact (List.getElem?_eq_some_iff.mp a).1
 rw [List.getElem?_take_of_lt hi] at b;have lo:Low h.length c:=by
  rcases ok i c hi b with z | z
  ·exact yT z
  ·have:=aR2 (R0.cel i p c a z)
   rwa [R0.len] at this
 have:=yU (R.cel i p c (at_ a) b) lo
 rwa [<- em] at this
def aE6 {p:Fl×aA} {z:PyData} {h2:aA} {u:Value} (R0:Mem S κ M h s) (l:Le M M2) (R:Mem S κ M2 p.2 s') (e:aO h p=some (z,h2)) (hr:(∃ δ,p.1=.nx δ/\u=.none)\/∃ w,p.1=.rt w/\RepW S M2 w u):Pw S κ M h2 (.d z) u s':=by
 unfold aO at e
 classical
 obtain ⟨ok,e⟩:=aF e;have R3:=R0.cut l R ok;have l3:Le M ⟨M2.Z,M.m⟩:=⟨l.z,[],by simp⟩;rcases hr with ⟨δ,hp,rfl⟩ | ⟨w,hp,r⟩
 ·rw [hp] at e;cases e;exact R3.pn.go l3
 ·rw [hp] at e;cases w with
  | d y=>cases e;exact ⟨_,l3,R3,r⟩
  | c i =>
   dsimp only at e;obtain ⟨q,eq,rfl⟩:=r;obtain ⟨z1,k1,_⟩:=R.off q (List.mem_of_getElem? eq) q.1 (.inl rfl);have fr:h.length<=i->bH κ ⟨M2.Z,M.m⟩ q.1:=fun hi=>⟨z1,k1,fun r hr=>by
    obtain ⟨j,hj⟩:=List.getElem?_of_mem hr;have hj:M.m[j]?=some r:=hj;have hlt:j < h.length:=by rw [<- R0.len];exact (List.getElem?_eq_some_iff.mp hj).1
    obtain ⟨a,_,b,_⟩:=R.ap j i r q (l.at hj) eq (by omega);exact ⟨a,b⟩⟩
   split at e
   ·rename_i xs ei;obtain ⟨hi,e⟩:=aF e;cases e;obtain ⟨us,n,ho,hz,rr⟩:=R.cel i q _ eq ei;exact ⟨_,l3.trans (Le.add (fr hi).1),R3.frz (fr hi) ho,rep_l.mpr ⟨_,_,us,rfl,kM,⟨⟨n,rfl⟩,hz⟩,Reps'.go (Le.add (fr hi).1) rr⟩⟩
   ·rename_i xs ei;obtain ⟨hi,e⟩:=aF e;cases e;obtain ⟨vs,hd,rr,hs,hz⟩:=R.cel i q _ eq ei;obtain ⟨o,es,ep,ho,hr⟩:=hd;exact ⟨_,l3.trans (Le.add (fr hi).1),R3.frz (fr hi) ho,rep_d.mpr ⟨_,o,vs,rfl,kM,⟨hs,hz,fun h2 e2=>⟨o,es,ep,e2,hr⟩⟩,RepK.go (M:=⟨M2.Z,M.m⟩) (Le.add (fr hi).1) rr⟩⟩
   ·cases e
end
structure Fun (K:PySem.W.Frag) (x qual:Str) (st:Stmt) (f:Addr) (fd:FuncData):Prop where
 ex:∃ (oc:Value) (od:Option Addr) (kV doc pm:Value) (an:Option Addr) (cdv ct:Value) (osl:Array (Option Value)),
  fd=PySem.W.fnOf x qual (eD st) (aX st) (defScope st) .none kV doc pm an cdv ct/\K.lookup f=some ⟨oc,od,.func fd,osl⟩/\PySem.W.codeIn K cdv qual=true
 kp:PySem.W.keepIn K (.ref f)=true
structure TopOk (t:Top) (S:Sx):Prop where
 bl:∀ x,t.bl.contains x=true->S.mg x=none
 gc:∀ x z,t.gc x=some z->∃ u,S.mg x=some u/\Rep S S.base.get? z u
 tk:∀ x f,t.tk x=some f->∃ p,S.mg x=some (.ref p)/\TabK S p f
 defs:∀ x s,t.defs x=some s->∃ f fd,Fun S.K x x s f fd/\S.mg x=some (.ref f)/\eG S.K fd (parsOf s)
 ini:∀ x C s,t.ini x=some (C,s)->∃ n q f fd,Fun S.K n q s f fd/\Mk S.K C f/\S.mg x=some (.ref C)/\eG S.K fd (parsOf s)
 mt:∀ x C s,t.mt x=some (C,s)->Cls S.K C/\∃ n q f fd,Fun S.K n q s f fd/\Meth S.K C x f/\eG S.K fd (parsOf s)
 fo:∀ C f,t.fo C f=true->Cls S.K C/\NoAttr S.K C f
 qn:∀ x q,t.qn x=some q->t.mt x=none/\t.ini x=none/\∀ s f fd,Fun S.K x x s f fd->S.mg x=some (.ref f)->x++".<locals>."=q.1/\∃ c0,fd.code=.ref c0/\TbS S c0 q.2
structure TabOk (S:Sx) (d:Nat) (fn:Str->Option XF) (ob:ObS):Prop where
 fn:∀ x m,fn x=some m->FnG S d x (toW m)
 fnW:∀ x m,ob.fnW x=some m->FnG S d x m
 cls:∀ x C m,ob.cls x=some (C,m)->(∀ ws h,m ws h=none)\/∃ k f fd ps,k+1<=d/\Mk S.K C f/\FnS S k f fd ps m/\S.mg x=some (.ref C)/\eG S.K fd ps
 om:∀ x C m,ob.om x=some (C,m)->(∀ ws h,m ws h=none)\/(Cls S.K C/\∃ f fd ps,Meth S.K C x f/\FnS S d f fd ps m/\eG S.K fd ps)
 fo:∀ C f,ob.fo C f=true->Cls S.K C/\NoAttr S.K C f
section
variable {S:Sx} {t:Top} {fn:Str->Option XF} {ob:ObS} {x n q:Str} {st:Stmt} {f:Addr} {fd:FuncData} {k:Nat}
def iC {A:Around} {L:Addr} {cd:Value} (T:TopOk t S) (B:TabOk S k fn ob) (hr:Room (k+1) A) (hq:∀ q',t.qn x=some q'->q++".<locals>."=q'.1/\∃ c0,cd=.ref c0/\TbS S c0 q'.2):Good (cxF S st q L f cd A) (t.sta fn ob x st) k :=
 ⟨T.bl,T.gc,T.tk,B.fn,B.fnW,B.cls,B.om,B.fo,rfl,rfl,fun _=>rfl,hr.deeper _,fun q' e=>⟨(hq q' e).1,(hq q' e).2,by have:=hr.dp;show A.depth+1+3*k+7 < _;omega,by have:=hr.un;show A.units+3+16*k+212 < _;omega⟩⟩
def yV {m:XFW} (hq:∀ q',t.qn x=some q'->q++".<locals>."=q'.1/\∃ c0,fd.code=.ref c0/\TbS S c0 q'.2) (T:TopOk t S) (F:Fun S.K n q st f fd) (B:TabOk S k fn ob) (hb:fnB st=true) (len:∀ ws h r,m ws h=some r->ws.length=(parsOf st).length)
  (he:∀ ws h r,m ws h=some r->∃ p,xSs (evs t.deep) (t.sta fn ob x st) (aX st) (cF (bL st) ws) h=some p/\∀ {κ M M2 s s' u},Mem S κ M h s->Le M M2->Mem S κ M2 p.2 s'->((∃ δ,p.1=.nx δ/\u=.none)\/∃ w,p.1=.rt w/\RepW S M2 w u)->Pw S κ M r.2 r.1 u s') (hnb:∀ ws h r p,m ws h=some r->xSs (evs t.deep) (t.sta fn ob x st) (aX st) (cF (bL st) ws) h=some p->(∃ δ,p.1=.nx δ)\/∃ w,p.1=.rt w) :
  FnS S (k+1) f fd (parsOf st) m:=by
 refine ⟨len,fun {A κ M h h' s args us ws w} hr fo md hz R hbd r e=>?_⟩;obtain ⟨oc,od,kV,doc,pm,an,cdv,ct,osl,rfl,lk,hcd⟩:=F.ex;have FS:=yS hb;have KX:S.K.In s.heap:=md.kin.keeps R.bk;have lim:s.heap.NoLimit:=md.nolimit.keeps R.bk;have hkind:∀ y∈(parsOf st).zip us,(defScope st).names.lookup y.1=some .local\/((defScope st).names.lookup y.1=some .cell/\((cellsFrom (s.heap.objs.size+1) (defScope st).names []).lookup y.1).isSome=true):=fun ⟨n,v⟩ hy=>by
  rcases FS.par n (zip_fst hy) with q | q
  ·exact .inl q
  ·exact .inr ⟨q,PySem.W.cellsFrom_some _ _ _ (.inl q)⟩
 have hdep:A.depth < recursionLimit:=by have:=hr.dp;omega
 refine codeAny_call_function hdep (KX _ _ lk) rfl FS.co FS.gen rfl (PySem.W.codeRec_of KX hcd) (hbd _ _ _ _ ?_);refine wpAny_newFunctionEnv_cells FS.kind hkind fun env he' s1 ic=>?_;subst he';refine ⟨lim.keeps ic.toInCall.keep,codeAny_func ?_⟩;obtain ⟨⟨fl,h1⟩,ep,fin⟩:=he ws h _ e;obtain ⟨κ1,R1,F1,back⟩:=jE (A:=A) FS md hz (len _ _ _ e) fo R r ic;refine wpAny_mono (pO (cI t.deep) (iC (x:=x) T B hr hq) _ R1 F1 ep) (fun fl2 s2 ⟨κ2,M2,o2,l2,R2,fw⟩=>?_) fun _ _ z=>z.elim;have R3:Mem S κ M2 h1 s2:=R2.less (back κ2 o2);rcases hnb ws h _ _ e ep with ⟨δ,hp⟩ | ⟨w',hp⟩
 ·cases hp;cases fl2 with
  | next=>exact ⟨.none,rfl,fin R l2 R3 (.inl ⟨δ,rfl,rfl⟩)⟩
  | _=>exact fw.elim
 ·cases hp;cases fl2 with
  | ret u=>exact ⟨u,rfl,fin R l2 R3 (.inr ⟨w',rfl,fw⟩)⟩
  | _=>exact fw.elim
def tK {d:Nat} {ps:List Str} {m:XFW} (hm:∀ ws h,m ws h=none):FnS S d f fd ps m:=⟨fun ws h r e=>(by rw [hm] at e;cases e),fun _ _ _ _ _ _ _ e=>(by rw [hm] at e;cases e)⟩
def yW (hq:∀ q',t.qn x=some q'->q++".<locals>."=q'.1/\∃ c0,fd.code=.ref c0/\TbS S c0 q'.2) (T:TopOk t S) (F:Fun S.K n q st f fd) (B:TabOk S k fn ob):FnS S (k+1) f fd (parsOf st) (gB t fn ob x st):=by
 by_cases hb:fnB st=true
 ·have op:∀ {ws h r},gB t fn ob x st ws h=some r->ws.length=(parsOf st).length/\∃ p,xSs (evs t.deep) (t.sta fn ob x st) (aX st) (cF (bL st) ws) h=some p/\sW p=some r:=fun {ws h r} e=>by
   unfold gB at e;obtain ⟨hc,e⟩:=aF e;obtain ⟨p,e1,e2⟩:=bind_some e;exact ⟨hc.2,p,e1,e2⟩
  refine yV (x:=x) hq T F B hb (fun ws h r e=>(op e).1) (fun ws h r e=>?_) fun ws h r p e e1=>?_
  ·obtain ⟨_,⟨fl,h1⟩,e1,e2⟩:=op e;refine ⟨_,e1,fun {κ M M2 s s' u} R0 l R hr=>?_⟩;rcases hr with ⟨δ,hp,rfl⟩ | ⟨w,hp,r⟩
   ·cases hp;cases e2;exact (R.pn.go l)
   ·cases hp;cases e2;exact ⟨M2,l,R,r⟩
  ·obtain ⟨_,p',e1',e2⟩:=op e;rw [e1] at e1';cases e1';obtain ⟨fl,h1⟩:=p;cases fl with
   | nx δ=>exact .inl ⟨δ,rfl⟩
   | rt w=>exact .inr ⟨w,rfl⟩
   | _=>cases e2
 ·exact tK fun ws h=>by unfold gB;rw [if_neg fun z=>hb z.1]
def aJ4 (hq:∀ q',t.qn x=some q'->q++".<locals>."=q'.1/\∃ c0,fd.code=.ref c0/\TbS S c0 q'.2) (T:TopOk t S) (F:Fun S.K n q st f fd) (B:TabOk S k fn ob):FnS S (k+1) f fd (parsOf st) (toW (jM t fn ob x st)):=by
 by_cases hb:fnB st=true
 ·have op:∀ {ws h r},toW (jM t fn ob x st) ws h=some r->ws.length=(parsOf st).length/\∃ p z,xSs (evs t.deep) (t.sta fn ob x st) (aX st) (cF (bL st) ws) h=some p/\aO h p=some (z,r.2)/\r.1=.d z:=fun {ws h r} e=>by
   obtain ⟨⟨z,h2⟩,e0,e⟩:=bind_some e;cases e;unfold jM at e0;obtain ⟨hc,e0⟩:=aF e0;obtain ⟨p,e1,e2⟩:=bind_some e0;exact ⟨hc.2,p,z,e1,e2,rfl⟩
  refine yV (x:=x) hq T F B hb (fun ws h r e=>(op e).1) (fun ws h r e=>?_) fun ws h r p e e1=>?_
  ·obtain ⟨_,p,z,e1,e2,ez⟩:=op e;refine ⟨_,e1,fun {κ M M2 s s' u} R0 l R hr=>?_⟩;rw [ez];exact aE6 R0 l R e2 hr
  ·obtain ⟨_,p',z,e1',e2,_⟩:=op e;rw [e1] at e1';cases e1';unfold aO at e2
   classical
   obtain ⟨_,e2⟩:=aF e2;obtain ⟨fl,h1⟩:=p;cases fl with
   | nx δ=>exact .inl ⟨δ,rfl⟩
   | rt w=>exact .inr ⟨w,rfl⟩
   | _=>cases e2
 ·exact tK fun ws h=>by unfold toW jM;rw [if_neg fun z=>hb z.1];rfl
abbrev tL (t:Top) (S:Sx) (d:Nat):Prop:=TabOk S d (fnT t fun y=>aE t d y) (obT t (fun y=>callW t d y) (fun y=>callI t d y) fun y=>callM t d y)
def pV (T:TopOk t S):tL t S 0:=by
 refine ⟨fun x m e=>?_,fun x m e=>?_,fun x C m e=>?_,fun x C m e=>?_,T.fo⟩
 ·obtain ⟨s,hs,rfl⟩:=map_some e;exact .inl fun _ _=>rfl
 ·dsimp only at e;split at e
  ·obtain ⟨s,hs,rfl⟩:=map_some e;exact .inl fun _ _=>rfl
  ·cases e
 ·obtain ⟨p,hs,e2⟩:=map_some e;cases e2;exact .inl fun _ _=>rfl
 ·obtain ⟨p,hs,e2⟩:=map_some e;cases e2;exact .inl fun _ _=>rfl
def pW (T:TopOk t S) {d:Nat} (B:tL t S d) (hI:∀ x C s,t.ini x=some (C,s)->(∀ ws h,callI t (d+1) x ws h=none)\/∃ k f fd ps,k+1<=d+1/\Mk S.K C f/\FnS S k f fd ps (callI t (d+1) x)/\S.mg x=some (.ref C)/\eG S.K fd ps):tL t S (d+1):=by
 refine ⟨fun x m e=>?_,fun x m e=>?_,fun x C m e=>?_,fun x C m e=>?_,T.fo⟩
 ·obtain ⟨s,hs,rfl⟩:=map_some e;obtain ⟨f,fd,F,hm,hb⟩:=T.defs x s hs;have e:aE t (d+1) x=jM t (fnT t fun y=>aE t d y) (obT t (fun y=>callW t d y) (fun y=>callI t d y) fun y=>callM t d y) x s:=by
   rw [aE,hs]
  dsimp only;rw [e];exact .inr ⟨f,fd,parsOf s,hm,F.kp,hb,aJ4 (fun q' e=>(T.qn x q' e).2.2 _ _ _ F hm) T F B⟩
 ·dsimp only at e;split at e
  ·obtain ⟨s,hs,rfl⟩:=map_some e;obtain ⟨f,fd,F,hm,hb⟩:=T.defs x s hs;have e:callW t (d+1) x=gB t (fnT t fun y=>aE t d y) (obT t (fun y=>callW t d y) (fun y=>callI t d y) fun y=>callM t d y) x s:=by
    rw [callW,hs]
   try dsimp only
   rw [e];exact .inr ⟨f,fd,parsOf s,hm,F.kp,hb,yW (fun q' e=>(T.qn x q' e).2.2 _ _ _ F hm) T F B⟩
  ·cases e
 ·obtain ⟨⟨C',s⟩,hs,e2⟩:=map_some e;cases e2;exact hI x _ s hs
 ·obtain ⟨⟨C',s⟩,hs,e2⟩:=map_some e;cases e2;obtain ⟨hc,n,q,f,fd,F,hM,hb⟩:=T.mt x _ s hs;have e:callM t (d+1) x=gB t (fnT t fun y=>aE t d y) (obT t (fun y=>callW t d y) (fun y=>callI t d y) fun y=>callM t d y) x s:=by
   rw [callM,hs]
  dsimp only;rw [e];exact .inr ⟨hc,f,fd,parsOf s,hM,yW (fun q' e=>by rw [(T.qn x q' e).1] at hs;cases hs) T F B,hb⟩
theorem gR (T:TopOk t S):∀ d,tL t S d
 | 0=>pV T
 | 1=>pW T (pV T) fun x C s _=>.inl fun _ _=>rfl
 | d+2=>pW T (gR T (d+1)) fun x C s hs=>by
  obtain ⟨n,q,f,fd,F,hM,hm,hb⟩:=T.ini x C s hs;have e:callI t (d+2) x=gB t (fnT t fun y=>aE t d y) (obT t (fun y=>callW t d y) (fun y=>callI t d y) fun y=>callM t d y) x s:=by
   rw [callI,hs]
  refine .inr ⟨d+1,f,fd,parsOf s,Nat.le_refl _,hM,?_,hm,hb⟩;show FnS S (d+1) f fd (parsOf s) (callI t (d+2) x);rw [e];exact yW (fun q' e=>by rw [(T.qn x q' e).2.1] at hs;cases hs) T F (gR T d)
end
end DL

namespace Att
open PySem PySem.W PySem.Calls PyProof.Rows

def jV {P:Params} {h:Heap}:∀ (ns:List Int) (vs:List Value),WellAll P h vs (ns.map WData.int)->IntsAre vs ns:=by
 intro ns;induction ns with
 | nil =>
  intro vs w;rw [List.map_nil] at w;cases w;exact .nil
 | cons n ns ih =>
  intro vs w;rw [List.map_cons] at w;cases w with
  | cons a b =>
   cases a;exact .cons _ _ (ih _ b)

def vG {l:OpenLaw} {n:Nat} (hn:l.most=some n) {P:Params} {h:Heap} {args:List WData} {vals:List Value}
  (hpre:l.row.toRowW.claim.pre args=true) (hwl:WellAll P h vals args) :
  ∃ a vs ns,vals=[Value.ref a]/\args=[WData.list (ns.map WData.int)]/\h.get? a=some { cls:=.type "list",data:=.seq vs.toArray }/\IntsAre vs ns/\ns.length<=n:=by
 have hsh:WShape.hasAll [] args [.list .int]=true:=(pre_splitW hpre).1;have hc:l.pre.holds [] { args:=args }=true:=(pre_splitW hpre).2;obtain ⟨d,r,rfl,h1,h2⟩:=hasAllW_cons hsh;obtain rfl:=hasAllW_nil h2;obtain ⟨xs,rfl,h3⟩:=hasW_list h1;obtain ⟨ns,rfl⟩:=items_int h3;have hlen:ns.length<=n:=by
  unfold OpenLaw.pre at hc;have h4:(WTm.not (.lt (.lit (.int (n:Int))) (.len (.arg 0)))).holds [] { args:=[.list (ns.map .int)] }=true:=by
   have h4:=(holds_andW hc).1;rw [hn] at h4;exact h4
  have h5:=condW_of h4 (w_not (w_lt w_lit (w_len_list (w_arg rfl))));rw [List.length_map] at h5;refine Nat.le_of_not_lt fun q=>?_;have q':(n:Int) < ((ns.length:Nat):Int):=by omega
  first
   | (rw [decide_eq_true q'] at h5;exact absurd h5 (by decide))
   | (simp at h5;omega)
 cases hwl with
 | cons w1 w2 =>
  cases w2;cases w1 with
  | list ho hall=>exact ⟨_,_,ns,rfl,rfl,ho,jV ns _ hall,hlen⟩

def vH (l:OpenLaw) (args:List WData):l.row.toRowW.claim.post args (.bool true) args=true :=
 postW_of (r:=l.row.toRowW) (X:=(true==true))
  (show WShape.has [] (.bool true) .bool=true by first | rfl | decide | simp [WShape.has,WShape.arms,WShape.armsAll])
  (show (WTm.eq .res (.lit (.bool true))).value [] { args:=args,res:=some (.bool true),after:=args }=some (.bool (true==true)) from w_eq_bool (w_res rfl) w_lit) rfl

def attach_call {l:OpenLaw} {n:Nat} {q:Program} {loose:List Str} {XP:(Str->Option Value)->Heap->Prop} {YP:World->Heap->Prop} {d:DefRec}
  (hn:l.most=some n) (hdf:d.params.defaults=[])
  (call:∀ (w:World) (s₀ s₁:Shared) (mg mb:Str->Option Value) (fa:Addr) (o:Obj) (pm cd doc:Value) (a:Addr) (vs:List Value) (ns:List Int),
   Ground q loose [] XP w s₀ mg mb s₁.heap->YP w s₁.heap ->
   s₁.heap.get? fa=some o->o.data=.func (docDef d.name d.params d.body d.scope pm cd doc)->s₁.heap.CodeRec cd d.name->mg d.name=some (.ref fa) ->
   s₁.heap.get? a=some { cls:=.type "list",data:=.seq vs.toArray }->IntsAre vs ns->ns.length<=n->s₁.gens=#[] ->
   codeAny (model l.prog w) callerA (.call (.ref fa) ⟨[.ref a],[]⟩) (fun r s'=>r=.ok (.ret (.bool true))/\OldK s₁.heap s'.heap/\s'.os=s₁.os/\AllBare s'.gens) s₁) :
  WalkO q loose XP YP l.row.toRowW d [] (fun f vs=>PySem.call f vs):=by
 intro w s₀ s₁ mg mb G Y fa o pm cd doc dV kV ho hd hcd hD hmg hg args vals as hpre hlay hrd hwl hlo;obtain rfl:dV=.none:=Dflts.none hD hdf;obtain rfl:kV=.none:=Dflts.noKw hD;obtain ⟨a,vs,ns,rfl,rfl,hobj,hints,hlen⟩:=vG hn hpre hwl;refine enter_call (codeAny_mono (call w s₀ s₁ mg mb fa o pm cd doc a vs ns G Y ho (fd_plain hd) hcd hmg hobj hints hlen hg) fun r s' hq=>?_);obtain ⟨rfl,h2,h3,h4⟩:=hq;exact ⟨.inl ⟨.bool true,.bool true,[],rfl,fun _=>rfl,.bool true,vH l _,fun _=>⟨List.Pairwise.nil,fun _ hm=>(nomatch hm)⟩⟩,h2,h3,h4⟩

end Att

namespace CI
open PySem PySem.Spec PyProof.Rows L2 DL
noncomputable def aJ5 (x:Str):Stmt->Bool
 | .FunctionDef n _ _ _ _ _ _ _ _ _=>n==x
 | _=>false
def rV (b:List Stmt) (x:Str):Option Stmt:=b.find? (aJ5 x)
noncomputable def tM:Nat->Expr->Option PyData
 | _,.Constant (.int i) _ _=>some (.int i)
 | _,.Constant (.str x) _ _=>some (.str x)
 | _,.Constant (.bool x) _ _=>some (.bool x)
 | _,.Constant .none _ _=>some .none
 | n+1,.Tuple es _ _=>(es.mapM (tM n)).map .tuple
 | _,_=>none
def aR3 (b:List Stmt) (x:Str):Option PyData:=b.findSome? fun s=>match s with
 | .Assign [.Name y _] e _=>if y==x&&!(x==("__name__":Str)) then tM 4 e else none
 | _=>none
def aR4:List (Option Expr)->List Expr->Option (List (Str×PyData))
 | [],[]=>some []
 | some (.Constant (.str x) _ _)::ks,e::vs=>(tM 4 e).bind fun i=>(aR4 ks vs).map ((x,i)::·)
 | _,_=>none
noncomputable def tkS:(s:Stmt)->Option (Str×List (Option Expr)×List Expr)
 | .Assign [.Name y _] (.Dict ks vs _) _=>some (y,ks,vs)
 | _=>none
def aR5 (b:List Stmt) (x:Str):Option (Str->Option PyData):=b.findSome? fun s=>(tkS s).bind fun y=>if y.1==x then (aR4 y.2.1 y.2.2).map fun t z=>t.lookup z else none
noncomputable def blAll:List Str:=["len","tuple","all","any","isinstance","int","bool","str","list","range","sorted","set","zip","enumerate","dict","max","min","sum","reversed","abs"]
def bE0 (b:List Stmt) (ac:Str->List Nat) (cv:Str->List Str) (fuel deep:Nat) (wf:Str->Bool:=fun _=>false) (ini mt:Str->Option (Addr×Stmt):=fun _=>none) (fo:Addr->Str->Bool:=fun _ _=>false) (qn:Str->Option (Str×Pos):=fun _=>none):Top:=⟨blAll,aR3 b,aR5 b,rV b,ac,cv,fuel,deep,wf,ini,mt,fo,qn⟩
def gcl (b:List Stmt):List (Str×PyData):=b.filterMap fun s=>match s with
 | .Assign [.Name y _] e _=>if !(y==("__name__":Str)) then (tM 4 e).map (y,·) else none
 | _=>none
def aR6 {b:List Stmt} {x:Str} {z:PyData} (h:aR3 b x=some z):(x,z)∈gcl b:=by
 obtain ⟨s,hs,e⟩:=List.exists_of_findSome?_eq_some h;refine List.mem_filterMap.mpr ⟨s,hs,?_⟩;split at e
 ·rename_i y p e0 q;split at e
  ·rename_i hc;rw [Bool.and_eq_true] at hc;have:y=x:=eq_of_beq hc.1;subst this;try simp only []
   rw [if_pos hc.2,e];rfl
  ·cases e
 ·cases e
def tkl (b:List Stmt):List (Str×List (Str×PyData)):=b.filterMap fun s=>(tkS s).bind fun y=>(aR4 y.2.1 y.2.2).map (y.1,·)
def aR7 {b:List Stmt} {x:Str} {f:Str->Option PyData} (h:aR5 b x=some f):∃ t,(x,t)∈tkl b/\f=fun z=>t.lookup z:=by
 obtain ⟨s,hs,e⟩:=List.exists_of_findSome?_eq_some h;obtain ⟨y,ey,e1⟩:=Option.bind_eq_some_iff.mp e;obtain ⟨hc,e2⟩:=aF e1;have:y.1=x:=eq_of_beq hc;subst this;obtain ⟨t,et,rfl⟩:=Option.map_eq_some_iff.mp e2;refine ⟨t,List.mem_filterMap.mpr ⟨_,hs,?_⟩,rfl⟩;rw [ey,Option.bind_some,et];rfl
noncomputable def dfl (b:List Stmt):List (Str×Stmt):=b.filterMap fun s=>match s with
 | .FunctionDef n _ _ _ _ _ _ _ _ _=>some (n,s)
 | _=>none
def aR8 {b:List Stmt} {x:Str} {s:Stmt} (h:rV b x=some s):(x,s)∈dfl b:=by
 have h1:=List.find?_some h;have h2:=List.mem_of_find?_eq_some h;refine List.mem_filterMap.mpr ⟨s,h2,?_⟩;unfold aJ5 at h1;split at h1
 ·simp only [eq_of_beq h1]
 ·cases h1
def iE {x k:Str} {hh:Int} {t:Tok} {v:Value} {es:List DictEntry}:findBy Value.isStrOf (⟨hh,.str k t,v⟩::es).toArray x=if k=x then some v else findBy Value.isStrOf es.toArray x:=by
 unfold findBy;simp only [List.find?_toArray,List.find?_cons,Value.isStrOf]
 by_cases e:k=x
 ·simp [e]
 ·have:(k==x)=false:=beq_eq_false_iff_ne.mpr e;simp [e,this]
section
variable {K:PySem.W.Frag} {S:Sx}
def yX {x qual:Str} {st:Stmt} {f:Addr} {oc:Value} {od an:Option Addr} {osl:Array (Option Value)} {kV doc pm cdv ct:Value} (l:K.lookup f=some ⟨oc,od,.func (PySem.W.fnOf x qual (eD st) (aX st) (defScope st) .none kV doc pm an cdv ct),osl⟩)
  (c:PySem.W.codeIn K cdv qual=true) (k:PySem.W.keepIn K (.ref f)=true):Fun K x qual st f (PySem.W.fnOf x qual (eD st) (aX st) (defScope st) .none kV doc pm an cdv ct):=⟨⟨oc,od,kV,doc,pm,an,cdv,ct,osl,rfl,l,c⟩,k⟩
abbrev BA (n q:Str) (s:Stmt) (us:List Value):Prop:=∀ (kV doc pm:Value) (an:Option Addr) (cdv ct:Value),bindArgs (PySem.W.fnOf n q (eD s) (aX s) (defScope s) .none kV doc pm an cdv ct) ⟨us,[]⟩=pure ((parsOf s).zip us)
def _root_.DL.Fun.binds {x q:Str} {st:Stmt} {f:Addr} {fd:FuncData} (F:Fun K x q st f fd) (h:∀ us:List Value,us.length=(parsOf st).length->BA x q st us):eG K fd (parsOf st):=by
 obtain ⟨oc,od,kV,doc,pm,an,cdv,ct,osl,rfl,lk,hcd⟩:=F.ex;exact fun s us _ hl=>.of_eq (h us hl kV doc pm an cdv ct)
def FI (K:PySem.W.Frag) (n:Str) (s:Stmt):Prop:=∃ (f:Addr) (od an:Option Addr) (sl:Array (Option Value)) (oc kV dc pm cd ct:Value),PySem.W.nsIn K mainGlobals n=some (some (.ref f))/\K.lookup f=some ⟨oc,od,.func (PySem.W.fnOf n n (eD s) (aX s) (defScope s) .none kV dc pm an cd ct),sl⟩/\PySem.W.codeIn K cd n=true/\PySem.W.keepIn K (.ref f)=true
def fi_mk {n:Str} {s:Stmt} {f:Addr} {od an:Option Addr} {sl:Array (Option Value)} {oc kV dc pm cd ct:Value} (a:PySem.W.nsIn K mainGlobals n=some (some (.ref f))) (l:K.lookup f=some ⟨oc,od,.func (PySem.W.fnOf n n (eD s) (aX s) (defScope s) .none kV dc pm an cd ct),sl⟩) (c:PySem.W.codeIn K cd n=true) (k:PySem.W.keepIn K (.ref f)=true):FI K n s:=⟨_,_,_,_,_,_,_,_,_,_,a,l,c,k⟩
abbrev FR (K:PySem.W.Frag) (mg:Str->Option Value) (n:Str) (s:Stmt):Prop:=∃ f fd,Fun K n n s f fd/\mg n=some (.ref f)/\eG K fd (parsOf s)
variable {n q:Str} {s:Stmt} {h:Heap} {mg:Str->Option Value}
def FI.ok (a:FI K n s) (X:K.In h) (G:h.Ns mainGlobals mg) (hb:∀ us:List Value,us.length=(parsOf s).length->BA n n s us):FR K mg n s:=by
 obtain ⟨f,od,an,sl,oc,kV,dc,pm,cd,ct,a,l,c,k⟩:=a;have F:=yX (st:=s) l c k;exact ⟨f,_,F,PySem.W.mg_of X G a,F.binds hb⟩
def bS0 {P:Str->Stmt->Prop}:∀ p∈([]:List (Str×Stmt)),P p.1 p.2:=fun _ z=>nomatch z
def bS1 {P:Str->Stmt->Prop} {x:Str} {s:Stmt} {l:List (Str×Stmt)} (a:P x s) (b:∀ p∈l,P p.1 p.2):∀ p∈(x,s)::l,P p.1 p.2:=List.forall_mem_cons.mpr ⟨a,b⟩
def FI.ok1 (a:FI K n s) (X:K.In h) (G:h.Ns mainGlobals mg) (hn:(parsOf s).length=1) (hb:∀ u,BA n n s [u]):FR K mg n s:=a.ok X G fun us hl=>by
 rw [hn] at hl
 match us,hl with
 | [u],_=>exact hb u
def FI.ok2 (a:FI K n s) (X:K.In h) (G:h.Ns mainGlobals mg) (hn:(parsOf s).length=2) (hb:∀ u v,BA n n s [u,v]):FR K mg n s:=a.ok X G fun us hl=>by
 rw [hn] at hl
 match us,hl with
 | [u,v],_=>exact hb u v
def FI.ok3 (a:FI K n s) (X:K.In h) (G:h.Ns mainGlobals mg) (hn:(parsOf s).length=3) (hb:∀ u v x,BA n n s [u,v,x]):FR K mg n s:=a.ok X G fun us hl=>by
 rw [hn] at hl
 match us,hl with
 | [u,v,x],_=>exact hb u v x
def FI.ok4 (a:FI K n s) (X:K.In h) (G:h.Ns mainGlobals mg) (hn:(parsOf s).length=4) (hb:∀ u v x y,BA n n s [u,v,x,y]):FR K mg n s:=a.ok X G fun us hl=>by
 rw [hn] at hl
 match us,hl with
 | [u,v,x,y],_=>exact hb u v x y
def FI.ok5 (a:FI K n s) (X:K.In h) (G:h.Ns mainGlobals mg) (hn:(parsOf s).length=5) (hb:∀ u v x y z,BA n n s [u,v,x,y,z]):FR K mg n s:=a.ok X G fun us hl=>by
 rw [hn] at hl
 match us,hl with
 | [u,v,x,y,z],_=>exact hb u v x y z
def aR9 {a:Addr} {n:Nat} {ws:List Int} {its:Array Value} (X:K.In h) (l:K.lookup a=some ⟨.type "tuple",none,.seq its n,#[]⟩) (hv:Paired (fun (i:Int) v=>∃ t,v=.int i t) ws its.toList) (hs:its.size<=sizeLine):Rep S h.get? (.tuple (ws.map .int)) (.ref a) :=
 rep_t.mpr ⟨a,_,its.toList,rfl,X a _ l,⟨⟨n,by rw [Array.toArray_toList]⟩,by rw [Array.length_toList];exact hs⟩,wH (pE (fun _ _ x=>rep_i.mpr x) hv)⟩
def eR {a:Addr} {n:Nat} {ws:List Str} {its:Array Value} (X:K.In h) (l:K.lookup a=some ⟨.type "tuple",none,.seq its n,#[]⟩) (hv:Paired (fun (i:Str) v=>(∃ t,v=.str i t)/\PyData.strOk i=true) ws its.toList) (hs:its.size<=sizeLine):Rep S h.get? (.tuple (ws.map .str)) (.ref a) :=
 rep_t.mpr ⟨a,_,its.toList,rfl,X a _ l,⟨⟨n,by rw [Array.toArray_toList]⟩,by rw [Array.length_toList];exact hs⟩,wH (pE (fun _ _ x=>rep_s.mpr x) hv)⟩
theorem pX {Z:Zm}:∀ {ns:List Int} {vs:List Value},IntsAre vs ns->Paired (Rep S Z) (ns.map .int) vs
 | _,_,.nil=>.nil
 | _,_,.cons n t h=>.cons (rep_i.mpr ⟨t,rfl⟩) (pX h)
def yY {P:Program} {w:World} {mb:Str->Option Value} {k:Nat} {fa a:Addr} {fd:FuncData} {x:Str} {m:XF} {s₁:Shared} {vs:List Value} {ns:List Int} {h':aA}
  (KX:K.In s₁.heap) (hns:s₁.heap.Ns mainGlobals mg) (hb:s₁.heap.Ns builtinsNs mb) (hbb:∀ x:Str,x≠"__name__"->mb x=bootBuiltins x) (hlim:s₁.heap.NoLimit) (hg:s₁.gens=#[])
  (ha:s₁.heap.get? a=some { cls:=.type "list",data:=.seq vs.toArray }) (hi:IntsAre vs ns) (hl:ns.length<=sizeLine) (hr:Room k callerA)
  (F:FnS ⟨P,w,K,mg,s₁.heap,s₁.os,#[],0⟩ k fa fd [x] (toW m)) (hbind:BindsTo s₁ fd ⟨[.ref a],[]⟩ [(x,.ref a)]) (e:m [.d (.list (ns.map .int))] []=some (.bool true,h')) :
  codeAny (model P w) callerA (.call (.ref fa) ⟨[.ref a],[]⟩) (fun r s'=>r=.ok (.ret (.bool true))/\OldK s₁.heap s'.heap/\s'.os=s₁.os/\AllBare s'.gens) s₁:=by
 have R:Mem ⟨P,w,K,mg,s₁.heap,s₁.os,#[],0⟩ (fun _=>none) ⟨s₁.heap.get?,[]⟩ [] s₁:=⟨fun _ _ e=>e,fun _ _ _ e=>(by cases e),rfl,fun i j p q e=>(by simp at e),fun p hp=>absurd hp (by simp),fun i p c e=>(by simp at e),fun _ _ e=>e,.of_eq hg,rfl⟩;have md:Mod ⟨P,w,K,mg,s₁.heap,s₁.os,#[],0⟩:=⟨KX,hns,⟨mb,hb,hbb⟩,hlim⟩;have e':toW m [.d (.list (ns.map .int))] []=some (.d (.bool true),h'):=by unfold toW;rw [e];rfl
 have hv:=pX (S:=⟨P,w,K,mg,s₁.heap,s₁.os,#[],0⟩) (Z:=s₁.heap.get?) hi;have hlen:=hv.length;rw [List.length_map] at hlen;refine codeAny_mono (F.run (us:=[.ref a]) hr ⟨[],rfl,fun _ z=>nomatch z⟩ md (Nat.le_refl _) R hbind (ws:=[.d (.list (ns.map .int))]) (.cons (rep_l.mpr ⟨a,_,vs,rfl,ha,⟨⟨0,rfl⟩,by omega⟩,hv⟩) .nil) e') fun r s' ⟨u,hq,M',l,R',ru⟩=>?_;subst hq;cases wb.mp ru;exact ⟨rfl,.of_keep fun b o e=>R'.bk b o e,R'.os,R'.bare⟩
def aE7 {l:PySem.W.OpenLaw} {n k:Nat} {q:Program} {loose:List Str} {XP:(Str->Option Value)->Heap->Prop} {YP:World->Heap->Prop} {d:DefRec} {K:Params->PySem.W.Frag} {m:XF} {x:Str}
  (hn:l.most=some n) (hn2:n<=sizeLine) (hdf:d.params.defaults=[]) (hr:Room k callerA) (hY:∀ (w:World) (h:Heap),YP w h->(K w.params).In h)
  (F:∀ (w:World) (mg:Str->Option Value) (fa:Addr) (h:Heap) (os:OsState),(K w.params).In h->h.Ns mainGlobals mg->mg d.name=some (.ref fa) ->
   ∃ fd:FuncData,(∀ (s:Shared) (u:Value),BindsTo s fd ⟨[u],[]⟩ [(x,u)])/\FnS ⟨l.prog,w,K w.params,mg,h,os,#[],0⟩ k fa fd [x] (toW m))
  (hm:∀ ns:List Int,ns.length<=n->∃ h',m [.d (.list (ns.map .int))] []=some (.bool true,h')) :
  PySem.W.WalkO q loose XP YP l.row.toRowW d [] (fun f vs=>PySem.call f vs):=by
 refine Att.attach_call hn hdf fun w s₀ s₁ mg mb fa o pm cd doc a vs ns G Y ho hd hcd hmg hobj hints hlen hg=>?_;have KX:=hY w _ Y;obtain ⟨fd,hb,hF⟩:=F w mg fa s₁.heap s₁.os KX G.T.g hmg;obtain ⟨h',e⟩:=hm ns hlen;exact yY KX G.T.g G.T.b G.T.builtins G.T.nolimit hg hobj hints (Nat.le_trans hlen hn2) hr hF (hb _ _) e
end
end CI

namespace CI
open PySem PySem.Spec PyProof.Rows L2 DL
@[simp] theorem bS2 (j:Nat) (y x:PyData) (δ:DSt) (h:aA):pI j y x δ h=match h[j]?,y with
   | some (.l xs),.int k=>(ixN xs.length k).map fun n=>(δ,h.set j (.l (xs.set n x)))
   | some (.k kvs),_=>if (cR y).isSome=true/\kvs.length < sizeLine then some (δ,h.set j (.k (nO kvs y x))) else none
   | some (.n kvs),_=>if (fH y&&hkB 4 y)=true/\kvs.length < sizeLine then some (δ,h.set j (.n (kN kvs y x))) else none
   | _,_=>none:=rfl
@[simp] theorem bV9 (j:Nat) (x:PyData) (h:aA):fZ (.c j) [.d x] h=match h[j]? with
 | some (.l xs)=>if xs.length < sizeLine then some (.d .none,h.set j (.l (xs++[x]))) else none
 | _=>none:=rfl
@[simp] theorem bW0 (j k:Nat) (h:aA):fZ (.c j) [.c k] h=match h[j]? with
 | some (.r is)=>if is.length < sizeLine then some (.d .none,h.set j (.r (is++[k]))) else none
 | _=>none:=rfl
def aS0 {a b:String} (h:Str.ofString a=Str.ofString b):a=b:=by
 simp only [Str.ofString_eq_byList] at h;unfold Str.ofStringByList at h;have h1:=congrArg Str.cps h;have h2:(a.toList.map Char.toNat)=(b.toList.map Char.toNat):=by
  have:=congrArg Array.toList h1
  simpa using this
 have h3:a.toList=b.toList:=by
  refine (List.map_inj_right ?_).mp h2;intro x y e;exact Char.toNat_inj.mp e
 exact String.toList_inj.mp h3
@[simp] theorem bE1 (a b:String):(Str.ofString a=Str.ofString b)=(a=b):=propext ⟨aS0,fun e=>by rw [e]⟩
@[simp] theorem bS3 (a b:String):(Str.ofString a==Str.ofString b)=(a==b):=by
 rw [Bool.eq_iff_iff,beq_iff_eq,beq_iff_eq,bE1]
end CI
namespace DL
open PySem PySem.Spec PyProof.Rows L2
@[simp] theorem bS4 (i j:Int):PyData.eqv (.int i) (.int j)=decide (i=j):=by rw [PyData.eqv];exact Bool.beq_eq_decide_eq i j
@[simp] theorem bS5 (i j:Str):PyData.eqv (.str i) (.str j)=(i==j):=by rw [PyData.eqv]
@[simp] theorem at0 {a:PyData} {r:List PyData}:atI (a::r) 0=some a:=by simp [atI,ixN]
@[simp] theorem at1 {a b:PyData} {r:List PyData}:atI (a::b::r) 1=some b:=by
 have:(1:Int) < (r.length:Int)+1+1:=by omega
 simp [atI,ixN,this]
@[simp] theorem at2 {a b c:PyData} {r:List PyData}:atI (a::b::c::r) 2=some c:=by
 have:(2:Int) < (r.length:Int)+1+1+1:=by omega
 simp [atI,ixN,this]
@[simp] theorem at3 {a b c d:PyData} {r:List PyData}:atI (a::b::c::d::r) 3=some d:=by
 have:(3:Int) < (r.length:Int)+1+1+1+1:=by omega
 simp [atI,ixN,this]
@[simp] theorem ix0 (n:Nat):ixN (n+1) 0=some 0:=by
 have:(0:Int) < ((n+1:Nat):Int):=by omega
 simp only [ixN,this,Int.le_refl,if_true];rfl
def ix_nat {n i:Nat} (h:i < n):ixN n (i:Int)=some i:=by
 have h1:(i:Int) < (n:Int):=by omega
 have h2:(0:Int)<=(i:Int):=by omega
 simp [ixN,h1,h2]
@[simp] theorem bE2 (h:aA) (i:Nat) (a:Cell):(h.set i a).take h.length=h.set i a:=by
 rw [List.take_of_length_le (by simp)]
@[simp] theorem bX7:ixN 3 2=some 2:=rfl
@[simp] theorem bX8:ixN 3 0=some 0:=rfl
end DL
namespace L2
def dK {α:Type} {xs:List α} {j:Nat} {v:α} (h:xs[j]?=some v):atI xs (j:Int)=some v:=by
 unfold atI;rw [DL.ix_nat (List.getElem?_eq_some_iff.mp h).1];exact h
end L2
namespace DL
open PySem
def szl:sizeLine=16777216:=rfl
end DL

namespace DL
open PySem PySem.Spec PyProof.Rows L2 CI
section
variable {S:Sx} {κ:Kp} {M:Mp} {h:aA} {s s':Shared}
def Mem.keepF {fs:List Addr} (R:Mem S κ M h s) (hf:∀ a∈fs,∃ o,κ a=some (false,o)) (k:∀ b o,s.heap.get? b=some o->b∉fs->¬ bH κ M b->s'.heap.get? b=some o) (u:∀ a∈fs,∀ o,s.heap.get? a=some o->(∃ o',κ a=some (false,o'))->∃ sl,s'.heap.get? a=some { o with slots:=sl }) (hg:AllBare s'.gens) (ho:s'.os=s.os):Mem S κ M h s' where
 z:=fun b o e=>k b o (R.z b o e) (fun m=>by obtain ⟨o',q⟩:=hf b m;rw [(R.k b _ _ q).2.2] at e;cases e) fun f=>by rw [f.1] at e;cases e
 k:=fun b t o e=>by
  have nf:¬ bH κ M b:=fun f=>by rw [f.2.1] at e;cases e
  obtain ⟨h1,⟨sl,h2⟩,h3⟩:=R.k b t o e
  by_cases m:b∈fs
  ·obtain ⟨o',q⟩:=hf b m;rw [e] at q;cases q;obtain ⟨sl2,h4⟩:=u b m _ h2 ⟨_,e⟩;exact ⟨fun z=>(by cases z),⟨sl2,h4⟩,h3⟩
  ·exact ⟨fun z=>k b o (h1 z) m nf,⟨sl,k b _ h2 m nf⟩,h3⟩
 len:=R.len
 ap:=R.ap
 off:=fun p hp a ha=>by
  obtain ⟨h1,h2,o,h3⟩:=R.off p hp a ha;refine ⟨h1,h2,o,k a o h3 (fun m=>?_) fun f=>?_⟩
  ·obtain ⟨o',q⟩:=hf a m;rw [h2] at q;cases q
  ·rcases ha with z | z
   ·exact (f.2.2 p hp).1 z.symm
   ·exact (f.2.2 p hp).2 z.symm
 cel:=fun i p c e1 e2=>(R.cel i p c e1 e2).go .refl fun b o hb q=>by
  have hp:=List.mem_of_getElem? e1;refine k b o q (fun m=>?_) fun f=>?_
  ·obtain ⟨o',z⟩:=hf b m;rw [(R.off p hp b hb).2.1] at z;cases z
  ·rcases hb with e | e;exact (f.2.2 p hp).1 e.symm;exact (f.2.2 p hp).2 e.symm
 base:=R.base
 bare:=hg
 os:=ho.trans R.os
noncomputable def frs (l:List Env):List Addr:=l.filterMap fun e=>e.frame
def FrL (κ:Kp) (l:List Env):Prop:=∀ env∈l,env.scope.kind≠.module/\∃ L o,env.frame=some L/\κ L=some (false,o)/\∀ vs,o.data≠.fields vs
def FrL.at {l:List Env} (F:FrL κ l) {a:Addr} (ha:a∈frs l):∃ o,κ a=some (false,o)/\∀ vs,o.data≠.fields vs:=by
 obtain ⟨env,he,e⟩:=List.mem_filterMap.mp ha;obtain ⟨_,L,o,h1,h2,h3⟩:=F env he;rw [h1] at e;cases e;exact ⟨o,h2,h3⟩
theorem FrL.fun (R:Mem S κ M h s) {as:List Addr}:∀ {l:List Env},FrL κ l->(∀ a∈frs l,a∈as)->s.heap.FunFrames (PySem.W.hideAll s.heap as) l
 | [],_,_=>by unfold Heap.FunFrames;trivial
 | env::l,F,ha=>by
  unfold Heap.FunFrames;obtain ⟨h1,L,o,h2,h3,h4⟩:=F env List.mem_cons_self;obtain ⟨_,⟨sl,h5⟩,_⟩:=R.k _ _ _ h3;refine ⟨h1,⟨L,_,h2,PySem.W.hideAll_none as (ha L (List.mem_filterMap.mpr ⟨env,List.mem_cons_self,h2⟩)),h5,h4⟩,FrL.fun R (fun e he=>F e (List.mem_cons_of_mem _ he)) fun a hm=>ha a ?_⟩;obtain ⟨e,he,z⟩:=List.mem_filterMap.mp hm;exact List.mem_filterMap.mpr ⟨e,List.mem_cons_of_mem _ he,z⟩
def Mem.there (R:Mem S κ M h s) {b:Addr} (n:¬ bH κ M b):∃ u,s.heap.get? b=some u:=by
 cases q:s.heap.get? b with
 | some u=>exact ⟨u,rfl⟩
 | none=>exact (n (R.new q)).elim
structure Fly (S:Sx) (κ:Kp) (M:Mp) (h:aA) (l:List Env) (C ea:Addr) (s:Shared):Prop where
 mem:Mem S κ M h s
 fl:∃ B t,Heap.FlyingW B l ea (.ref C) (.ref t) s.heap/\∀ b o,s.heap.get? b=some o->b∉frs l->¬ bH κ M b->B.get? b=some o
variable {A:Around} {env:Env} {l:List Env} {L C e:Addr} {vs:List Value} {h1:Heap} {κ0:Kp} {Ex:Value->Shared->Prop}
def iF (hf:env.frame=some L):frs (env::l)=L::frs l:=by
 unfold frs;rw [List.filterMap_cons,hf]
def yZ (R:Mem S κ M h s) (F:FrL κ (env::l)) (hA:A.frames=some (env::l)) (hf:env.frame=some L) (lt:∀ a x,κ0 a=some x->κ a=some x) (h0:κ0 L=none) (hx:Heap.MadeExcOf s.heap h1 e (.ref C) vs) :
  wpAny (model S.P S.w) A (leaving env (.ref e)) (fun _ s'=>Fly S κ0 M h l C e s') Ex { s with heap:=h1 }:=by
 have kB:∀ a o,s.heap.get? a=some o->a∉frs (env::l)->(PySem.W.hideAll s.heap (frs (env::l))).get? a=some o:=fun a o q n=>PySem.W.hideAll_get _ q n;refine wpAny_leaves_madeW (base:=PySem.W.hideAll s.heap (frs (env::l))) (h:=s.heap) (env:=env) (outer:=l) hA hf (fun a o q=>PySem.W.of_hideAll _ q) (FrL.fun R F fun _ z=>z) hx fun h' t fl _ _ up=>?_;have R1:Mem S κ M h { s with heap:=h' }:=R.keepF (fs:=frs (env::l)) (fun a ha=>let ⟨o,h1,_⟩:=F.at ha;⟨o,h1⟩) (fun b o q n _=>fl.1 b o (kB b o q n)) (fun a ha o q _=>by
  obtain ⟨o',k1,k2⟩:=F.at ha;obtain ⟨_,⟨sl,k3⟩,_⟩:=R.k _ _ _ k1;rw [q] at k3;cases k3;exact up a _ (hx.keeps a _ q) k2) R.bare rfl
 have R2:Mem S κ0 M h { s with heap:=h' }:=R1.less lt;refine ⟨R2,_,t,fl,fun b o q nb nf=>?_⟩;have fL:bH κ0 M L:=by
  obtain ⟨o,k1,_⟩:=F.at (a:=L) (by rw [iF hf];exact List.mem_cons_self);exact ⟨(R.k _ _ _ k1).2.2,h0,R.kc k1⟩
 have nb':b∉frs (env::l):=fun m=>by
  rw [iF hf] at m;rcases List.mem_cons.mp m with z | z
  ·rw [z] at nf;exact nf fL
  ·exact nb z
 obtain ⟨u,hu⟩:=(R.less lt).there nf;have z:=fl.1 b u (kB b u hu nb');have q:h'.get? b=some o:=q;rw [q] at z;cases z;exact kB b _ hu nb'
def aS1 (X:Fly S κ M h (env::l) C e s) (F:FrL κ (env::l)) (hA:A.frames=some (env::l)) (hf:env.frame=some L) (lt:∀ a x,κ0 a=some x->κ a=some x) (h0:κ0 L=none) :
  wpAny (model S.P S.w) A (leaving env (.ref e)) (fun _ s'=>Fly S κ0 M h l C e s') Ex s:=by
 obtain ⟨R,B,t,fl,pr⟩:=X;refine wpAny_leaves_onW (env:=env) (outer:=l) hA hf fl fun h' fl' up=>?_;have R1:Mem S κ M h { s with heap:=h' }:=R.keepF (fs:=frs (env::l)) (fun a ha=>let ⟨o,h1,_⟩:=F.at ha;⟨o,h1⟩) (fun b o q n nf=>fl'.1 b o (pr b o q n nf)) (fun a ha o q _=>by
  obtain ⟨o',k1,k2⟩:=F.at ha;obtain ⟨_,⟨sl,k3⟩,_⟩:=R.k _ _ _ k1;rw [q] at k3;cases k3;exact up a _ q k2) R.bare rfl
 have R2:Mem S κ0 M h { s with heap:=h' }:=R1.less lt;refine ⟨R2,B,t,fl',fun b o q nb nf=>?_⟩;have fL:bH κ0 M L:=by
  obtain ⟨o,k1,_⟩:=F.at (a:=L) (by rw [iF hf];exact List.mem_cons_self);exact ⟨(R.k _ _ _ k1).2.2,h0,R.kc k1⟩
 have nb':b∉frs (env::l):=fun m=>by
  rw [iF hf] at m;rcases List.mem_cons.mp m with z | z
  ·rw [z] at nf;exact nf fL
  ·exact nb z
 have nf':¬ bH κ M b:=fun f=>by
  refine nf ⟨f.1,?_,f.2.2⟩;cases q:κ0 b with
  | none=>rfl
  | some x =>
   have z:=f.2.1;rw [lt b x q] at z;cases z
 obtain ⟨u,hu⟩:=R.there nf';have z:=fl'.1 b u (pr b u hu nb' nf');have q:h'.get? b=some o:=q;rw [q] at z;cases z;exact pr b _ hu nb' nf'
end
end DL

namespace DL
open PySem PySem.Spec PyProof.Rows L2 CI
structure FnR (S:Sx) (d:Nat) (f:Addr) (fd:FuncData) (ps:List Str) (C:Addr) (pre:List W->aA->Prop):Prop where
 len:∀ ws h,pre ws h->ws.length=ps.length
 run:∀ {A:Around} {κ:Kp} {M:Mp} {h:aA} {s:Shared} {args:Args} {us:List Value} {ws:List W} {l:List Env},Room d A->A.frames=some l->FrL κ l->Mod S->S.base.objs.size<=s.heap.objs.size->Mem S κ M h s->BindsTo s fd args (ps.zip us)->RepWs S M ws us->pre ws h ->
  codeAny (model S.P S.w) A (.call (.ref f) args) (fun r s'=>∃ ea M',r=.error (.ref ea)/\Le M M'/\Fly S κ M' h l C ea s') s
def Rz (X:Cx) (κ:Kp) (M:Mp) (h:aA) (C:Addr) (ex:Value) (s:Shared):Prop:=∃ κ' M' l ea,ex=.ref ea/\Own X κ κ'/\Le M M'/\X.A.frames=some (X.env::l)/\FrL κ' (X.env::l) /\
 ((∃ s0 h1 vs,Mem X.S κ' M' h s0/\Heap.MadeExcOf s0.heap h1 ea (.ref C) vs/\s={ s0 with heap:=h1 })\/Fly X.S κ' M' h (X.env::l) C ea s)
section
variable {S:Sx} {t:Top} {n q:Str} {st:Stmt} {f C:Addr} {fd:FuncData} {k:Nat} {pre:List W->aA->Prop}
def lH (F:Fun S.K n q st f fd) (hb:fnB st=true) (len:∀ ws h,pre ws h->ws.length=(parsOf st).length)
  (he:∀ {A:Around} {κ:Kp} {M:Mp} {h:aA} {s:Shared} {L:Addr} {cd:Value} {ws:List W},Room (k+1) A->pre ws h->Mem S κ M h s->Fra (cxF S st q L f cd A) κ M (cF (bL st) ws) ->
   Wp S (cxF S st q L f cd A).A (execs (aX st) (cxF S st q L f cd A).env) (fun _ _=>False) (Rz (cxF S st q L f cd A) κ M h C) s) :
  FnR S (k+1) f fd (parsOf st) C pre:=by
 refine ⟨len,fun {A κ M h s args us ws l} hr hA FL md hz R hbd r e=>?_⟩;obtain ⟨oc,od,kV,doc,pm,an,cdv,ct,osl,rfl,lk,hcd⟩:=F.ex;have FS:=yS hb;have KX:S.K.In s.heap:=md.kin.keeps R.bk;have lim:s.heap.NoLimit:=md.nolimit.keeps R.bk;have hkind:∀ y∈(parsOf st).zip us,(defScope st).names.lookup y.1=some .local\/((defScope st).names.lookup y.1=some .cell/\((cellsFrom (s.heap.objs.size+1) (defScope st).names []).lookup y.1).isSome=true):=fun ⟨n,v⟩ hy=>by
  rcases FS.par n (zip_fst hy) with q | q
  ·exact .inl q
  ·exact .inr ⟨q,PySem.W.cellsFrom_some _ _ _ (.inl q)⟩
 have hdep:A.depth < recursionLimit:=by have:=hr.dp;omega
 refine codeAny_call_function hdep (KX _ _ lk) rfl FS.co FS.gen rfl (PySem.W.codeRec_of KX hcd) (hbd _ _ _ _ ?_);refine wpAny_newFunctionEnv_cells FS.kind hkind fun env he' s1 ic=>?_;subst he';refine ⟨lim.keeps ic.toInCall.keep,codeAny_func ?_⟩;obtain ⟨κ1,R1,F1,back⟩:=jE (A:=A) FS md hz (len _ _ e) ⟨l,hA,FL⟩ R r ic;refine wpAny_mono (he hr e R1 F1) (fun _ _ z=>z.elim) fun ex s2 ⟨κ',M',l',ea,hex,own,l2,hA',FL',h2⟩=>?_;subst hex;have hl:l'=l:=by
  have z:(A.deeper (envOfC q (defScope st) s.heap.objs.size f cdv)).frames=some (envOfC q (defScope st) s.heap.objs.size f cdv::l):=by simp [Around.deeper,hA]
  have z':(A.deeper (envOfC q (defScope st) s.heap.objs.size f cdv)).frames=some (envOfC q (defScope st) s.heap.objs.size f cdv::l'):=hA';rw [z] at z';cases z';rfl
 subst hl;rcases h2 with ⟨s0,h1,vs,R0,hm,rfl⟩ | X
 ·exact wpAny_mono (yZ (Ex:=NE) (L:=s.heap.objs.size) R0 FL' hA' rfl (back κ' own) R.size.2.1 hm) (fun _ s3 z=>⟨ea,M',rfl,l2,z⟩) fun _ _ z=>z.elim
 ·exact wpAny_mono (aS1 (Ex:=NE) (L:=s.heap.objs.size) X FL' hA' rfl (back κ' own) R.size.2.1) (fun _ s3 z=>⟨ea,M',rfl,l2,z⟩) fun _ _ z=>z.elim
end
end DL

namespace DL
open PySem PySem.Spec PyProof.Rows L2 CI
section
variable {X:Cx} {κ:Kp} {M:Mp} {h h':aA} {s:Shared} {δ:DSt} {x:Str} {np pos epos:Pos} {e:Expr} {es:List Expr} {fa:XR (List W)} {ws:List W} {C:Addr} {B newId initId:String} {bmB:List Value} {Q:Flow->Shared->Prop}
def zA {l:List Env} (O:OwnCls x C bmB newId X.S.mg X.S.base) (FB:ExcBaseFacts B newId initId bmB) (ha:SA X (e::es) fa) (hd:X.A.handled=none) (hn:aW x=true) (hg:Gl X x) (hA:X.A.frames=some (X.env::l)) (hst:(e::es).all aH=true)
  (R:Mem X.S κ M h s) (F:Fra X κ M δ) (e1:fa δ h=some (ws,h')) (hz:ws.length<=sizeLine):Wp X.S X.A (exec (.Raise (some (.Call (.Name x np) (e::es) [] pos)) none epos) X.env) Q (Rz X κ M h' C) s:=by
 obtain ⟨tl,N,nm,qn,bs,hdct,sn,sub,ab,col,dd,k0,k1,k2,k3,k5,mN,hC,hN,hni,T⟩:=O.obj;rw [List.all_cons,Bool.and_eq_true] at hst;have he:=aZ (X:=X) e hst.1 (es:=es);have hpl:=bD (X:=X) pos es hst.2;have hall:(backTo pos (starEach (e::es) X.env)).any (·.1)=false:=by
  rw [he];show (false||(backTo pos (starEach es X.env)).any (·.1))=false;rw [hpl];rfl
 have FL:FrL κ (X.env::l):=by
  obtain ⟨l',z1,z2⟩:=F.frs;rw [hA] at z1;cases z1;exact z2
 refine wpAny_Raise_call_subT (C:=C) (N:=N) (nm:=nm) (q:=qn) (bs:=bs) (bm:=tl) (hdct:=hdct) (sn:=sn) (sub:=sub) (ab:=ab) (col:=col) (dd:=dd) (k0:=k0) (k1:=k1) (k2:=k2) (k3:=k3) (k5:=k5) (mN:=mN) FB (T.hasType FB.hasBase) hd hall hni (eZ F R hg O.bound hn ⟨rfl,?_⟩);have hq:=ha pos R F e1;rw [he] at hq ⊢;exact Calls.evalArgs_plain (wpAny_mono hq (fun us s2 ⟨M2,l2,R2,r⟩=>⟨rfl,by rw [<- r.length];exact hz,R2.bk _ _ hC,hN.keeps R2.bk,T.keeps R2.bk,fun h1 ea hm=>⟨κ,M2,l,ea,rfl,.refl,l2,hA,FL,.inl ⟨s2,h1,us,R2,hm,rfl⟩⟩⟩) fun _ _ z=>z.elim)
def Fra.frl {l:List Env} (F:Fra X κ M δ) (hA:X.A.frames=some l):FrL κ l:=by
 obtain ⟨l',z1,z2⟩:=F.frs;rw [hA] at z1;cases z1;exact z2
def Rt (X:Cx) (κ:Kp) (M:Mp) (h:aA) (C:Addr) (ex:Value) (s:Shared):Prop:=∃ M' l ea,ex=.ref ea/\Le M M'/\X.A.frames=some (X.env::l)/\Fly X.S κ M' h (X.env::l) C ea s
def Rt.rz {ex:Value} {s':Shared} (F:Fra X κ M δ) (z:Rt X κ M h C ex s'):Rz X κ M h C ex s' :=
 let ⟨M',l,ea,h1,h2,h3,h4⟩:=z;⟨κ,M',l,ea,h1,.refl,h2,h3,F.frl h3,.inr h4⟩
def Rt.go {M1:Mp} {ex:Value} (l:Le M M1) (z:Rt X κ M1 h C ex s):Rt X κ M h C ex s :=
 let ⟨M',l',ea,h1,h2,h3⟩:=z;⟨M',l',ea,h1,l.trans h2,h3⟩
def iG {l:List Env} {d:Nat} {f:Addr} {fd:FuncData} {ps:List Str} {pre:List W->aA->Prop} {p:Pos} {Qv:Value->Shared->Prop} (FF:FnR X.S d f fd ps C pre) (rm:Room d X.A) (mg:X.S.mg x=some (.ref f)) (kp:PySem.W.keepIn X.S.K (.ref f)=true) (hb:eG X.S.K fd ps)
  (ha:SA X (e::es) fa) (hn:aW x=true) (hg:Gl X x) (hA:X.A.frames=some (X.env::l)) (hst:(e::es).all aH=true) (R:Mem X.S κ M h s) (F:Fra X κ M δ) (e1:fa δ h=some (ws,h')) (hp:pre ws h') :
  Wp X.S X.A (eval (.Call (.Name x p) (e::es) [] pos) X.env) Qv (Rt X κ M h' C) s:=by
 rw [List.all_cons,Bool.and_eq_true] at hst;refine wpAny_Call_Name_kw (eZ F R hg mg hn ?_);refine PySem.W.callWith_K (h₀:=X.S.base) F.kin kp (wpAny_mono (ha pos R F e1) (fun us s1 ⟨M1,l1,R1,r1⟩=>⟨F.kin.keeps R1.bk,?_⟩) fun _ _ z=>z.elim) (aZ e hst.1) (bD pos es hst.2);have hl:us.length=ps.length:=by rw [<- r1.length];exact FF.len _ _ hp
 refine wpAny_call (codeAny_mono (FF.run (args:=⟨us,[]⟩) rm hA (F.frl hA) F.ok.mod ((F.go l1).size R1) R1 (hb s1 us (F.ok.mod.kin.keeps R1.bk) hl) r1 hp) fun r s' ⟨ea,M',hq,l2,fl⟩=>?_);subst hq;exact ⟨M',l,ea,rfl,l1.trans l2,hA,fl⟩
def Rz.go {M1:Mp} {ex:Value} (l:Le M M1) (z:Rz X κ M1 h C ex s):Rz X κ M h C ex s :=
 let ⟨κ',M',l',ea,h1,h2,h3,h4⟩:=z;⟨κ',M',l',ea,h1,h2,l.trans h3,h4⟩
variable {E:Value->Shared->Prop} {a c:Expr} {body els:List Stmt} {t:Stmt} {r:List Stmt} {v:Evs} {st:Sta} {d:Nat}
def iH (F:Fra X κ M δ) (hs:swapsWith a none pos.line X.env=pure false) (ra:Wp X.S X.A (eval a X.env) (fun _ _=>False) E s):Wp X.S X.A (exec (.Expr a pos) X.env) Q E s :=
 wpAny_Expr_any (wpAny_mono ra (fun _ _ z=>z.elim) fun _ _ z=>z) (quiet F) hs
def cJ (rt:Wp X.S X.A (exec t X.env) (fun _ _=>False) E s):Wp X.S X.A (execs (t::r) X.env) Q E s :=
 wpAny_execs_cons (wpAny_mono rt (fun _ _ z=>z.elim) fun _ _ z=>z)
def bE3 {h1:aA} {b:Bool} (S:Snd v) (G:Good X st d) (R:Mem X.S κ M h s) (F:Fra X κ M δ) (e1:v.T st c δ h=some (b,h1))
  (rb:∀ {M1:Mp} {s1:Shared},Mem X.S κ M1 h1 s1->Fra X κ M1 δ->Wp X.S X.A (execs (if b=true then body else els) X.env) (fun _ _=>False) (Rz X κ M1 h' C) s1):Wp X.S X.A (exec (.If c body els pos) X.env) Q (Rz X κ M h' C) s:=by
 refine wpAny_If (wpAny_mono (S.T G c R F e1) (fun t' s1 ⟨et,M1,l1,R1⟩=>?_) fun _ _ z=>z.elim);subst et;have z:=wpAny_mono (rb R1 (F.go l1)) (fun _ _ z=>z.elim) (fun _ _ z=>Rz.go l1 z) (Q':=Q);cases t' with
 | true=>exact z
 | false=>exact z
def aJ6 {h1:aA} {b:Bool} (S:Snd v) (G:Good X st d) (R:Mem X.S κ M h s) (F:Fra X κ M δ) (e1:v.T st c δ h=some (b,h1))
  (rb:∀ {M1:Mp} {s1:Shared},Mem X.S κ M1 h1 s1->Fra X κ M1 δ->Wp X.S X.A (execs (if b=true then body else els) X.env) (fun _ _=>False) (Rt X κ M1 h' C) s1):Wp X.S X.A (exec (.If c body els pos) X.env) Q (Rt X κ M h' C) s:=by
 refine wpAny_If (wpAny_mono (S.T G c R F e1) (fun t' s1 ⟨et,M1,l1,R1⟩=>?_) fun _ _ z=>z.elim);subst et;have z:=wpAny_mono (rb R1 (F.go l1)) (fun _ _ z=>z.elim) (fun _ _ z=>Rt.go l1 z) (Q':=Q);cases t' with
 | true=>exact z
 | false=>exact z
def pY {A:Around} {u:Value} {p:Pos} {Qv:Value->Shared->Prop} (F:Fra X κ M δ) (R:Mem X.S κ M h s) (hg:Gl X x) (hm:X.S.mg x=some u) (hn:aW x=true) (q:Qv u s):Wp X.S A (eval (.Name x p) X.env) Qv E s:=by
 unfold aW at hn;simp only [Bool.and_eq_true,Bool.not_eq_true'] at hn;exact Calls.Name_function_global F.ok.kind hg (Calls.loadGlobal_global (by rw [F.ok.glob];exact F.ok.mod.glob.keeps R.bk) hm q) hn.1
end
end DL

namespace DL
open PySem PySem.Spec PyProof.Rows L2 CI
section
variable {X:Cx} {κ:Kp} {M:Mp} {h h':aA} {s:Shared} {δ:DSt} {x:Str} {C:Addr} {A:Around} {v:Evs} {st:Sta} {d:Nat}
end
section
variable {S:Sx} {n q:Str} {st:Stmt} {f:Addr} {fd:FuncData} {k:Nat} {m:XFW}
def bE4 (F:Fun S.K n q st f fd) (hb:fnB st=true) (len:∀ ws h r,m ws h=some r->ws.length=(parsOf st).length)
  (he:∀ {A:Around} {κ:Kp} {M:Mp} {h h':aA} {s:Shared} {L:Addr} {cd:Value} {ws:List W} {w:W},Room (k+1) A->m ws h=some (w,h')->Mem S κ M h s->Fra (cxF S st q L f cd A) κ M (cF (bL st) ws) ->
   Wp S (cxF S st q L f cd A).A (execs (aX st) (cxF S st q L f cd A).env) (fun fl s'=>∃ u κ' M',fl=.ret u/\Own (cxF S st q L f cd A) κ κ'/\Le M M'/\Mem S κ' M' h' s'/\RepW S M' w u) NE s) :
  FnS S (k+1) f fd (parsOf st) m:=by
 refine ⟨len,fun {A κ M h h' s args us ws w} hr fo md hz R hbd r e=>?_⟩;obtain ⟨oc,od,kV,doc,pm,an,cdv,ct,osl,rfl,lk,hcd⟩:=F.ex;have FS:=yS hb;have KX:S.K.In s.heap:=md.kin.keeps R.bk;have lim:s.heap.NoLimit:=md.nolimit.keeps R.bk;have hkind:∀ y∈(parsOf st).zip us,(defScope st).names.lookup y.1=some .local\/((defScope st).names.lookup y.1=some .cell/\((cellsFrom (s.heap.objs.size+1) (defScope st).names []).lookup y.1).isSome=true):=fun ⟨n,v⟩ hy=>by
  rcases FS.par n (zip_fst hy) with q | q
  ·exact .inl q
  ·exact .inr ⟨q,PySem.W.cellsFrom_some _ _ _ (.inl q)⟩
 have hdep:A.depth < recursionLimit:=by have:=hr.dp;omega
 refine codeAny_call_function hdep (KX _ _ lk) rfl FS.co FS.gen rfl (PySem.W.codeRec_of KX hcd) (hbd _ _ _ _ ?_);refine wpAny_newFunctionEnv_cells FS.kind hkind fun env he' s1 ic=>?_;subst he';refine ⟨lim.keeps ic.toInCall.keep,codeAny_func ?_⟩;obtain ⟨κ1,R1,F1,back⟩:=jE (A:=A) FS md hz (len _ _ _ e) fo R r ic;refine wpAny_mono (he hr e R1 F1) (fun fl s2 ⟨u,κ',M',hfl,own,l2,R2,ru⟩=>?_) fun _ _ z=>z.elim;subst hfl;exact ⟨u,rfl,M',l2,R2.less (back κ' own),ru⟩
end
end DL

namespace CI
open PySem PySem.Spec PyProof.Rows L2 DL
def fnL (t:Top) (d:Nat) (y:Str) (m:XF):Str->Option XF:=fun z=>if z=y then some m else fnT t (fun y=>aE t d y) z
def iI (t:Top) (d:Nat) (y:Str) (m:XF) (x:Str):XF:=match t.defs x with
 | some s=>jM t (fnL t d y m) (obT t (fun y=>callW t d y) (fun y=>callI t d y) fun y=>callM t d y) x s
 | none=>fun _ _=>none
def tN {S:Sx} {t:Top} {x y:Str} {s:Stmt} {m:XF} {f:Addr} {fd:FuncData} {k:Nat} (T:TopOk t S) (hs:t.defs x=some s) (F:Fun S.K x x s f fd) (hm:FnG S k y (toW m)) (hq:autoParam (t.qn x=none) ZR):FnS S (k+1) f fd (parsOf s) (toW (iI t k y m x)):=by
 have e:iI t k y m x=jM t (fnL t k y m) (obT t (fun y=>callW t k y) (fun y=>callI t k y) fun y=>callM t k y) x s:=by
  unfold iI;rw [hs]
 rw [e];have B:TabOk S k (fnT t fun y=>aE t k y) (obT t (fun y=>callW t k y) (fun y=>callI t k y) fun y=>callM t k y):=gR T k;refine aJ4 (fun q' e=>by rw [hq] at e;cases e) T F ⟨fun z m' e=>?_,B.fnW,B.cls,B.om,B.fo⟩;unfold fnL at e;split at e
 ·rename_i hz;cases e;rw [hz];exact hm
 ·exact B.fn z m' e
end CI

namespace L2
open PySem PySem.Spec PyProof.Rows
section
variable {prog:Program} {w:World} {A:Around} {E:Value->Shared->Prop} {h:Heap} {g:Array GenState} {d:Drawn} {t:Nat} {os:OsState} {K:PySem.W.Frag} {x C:Addr} {ox:Obj}
structure XCls (K:PySem.W.Frag) (C:Addr):Prop where
 ga:PySem.W.findIn K (.ref C) "__getattribute__"=some (some (.builtin "BaseException.__getattribute__"))
 gn:PySem.W.findIn K (.ref C) "__getattr__"=some none
 cl:PySem.W.findIn K (.ref C) "__class__"=some (some (.builtin "object.__class__"))
 be:PySem.W.mroIn K C (.type "BaseException")=some true
 ob:PySem.W.mroIn K C (.type "object")=some true
def aS2 {tp:Value} {R:Result->Shared->Prop} (Z:XCls K C) (X:K.In h) (hx:h.get? x=some ox) (hc:ox.cls=.ref C) (hq:R (.ok (.ret (.ref C))) ⟨h,g,d,t,os⟩) :
  codeAny (model prog w) A (.call (.builtin "getset_descriptor.__get__") ⟨[.builtin "object.__class__",.ref x,tp],[]⟩) R ⟨h,g,d,t,os⟩:=by
 have L0:PySem.W.Looks (model prog w) h (typeOf (.ref x)) (.ref C):=hc ▸ (PySem.W.Looks.ld hx).andThen .now;have L1:PySem.W.Looks (model prog w) h (isSubtype (.ref C) (.type "object")) true:=PySem.W.looks_mroIn X Z.ob;have hT5:(⟨h,g,d,t,os⟩:Shared).TypeIs (.builtin "object.__class__") "getset_descriptor":=F.typeOf_object_class;have ow:=F.owner_object_class;refine codeAny_call_builtin F.slot_gs_get.plain F.entry_gs_get ?_;refine F.slot_gs_get.check _ _ _ _ _ _ _ _ hT5 (F.args_gs_get _ _ _) ?_
 repeat (any_goals (first | assumption | (with_reducible refine wpAny_loadPart_at hx ?_;rw [hc]) | (rw [ow];with_reducible refine L1.at ?_) | with_reducible refine L1.at ?_ | wp_step))
 refine ⟨Code.quiet_builtin _ (by decide +kernel),codeAny_builtin F.entry_object_class ?_⟩
 repeat (any_goals (first | assumption | (with_reducible refine wpAny_loadPart_at hx ?_;rw [hc]) | wp_step))
def zB {tk:Tok} {Q:Fin->Shared->Prop} (Z:XCls K C) (X:K.In h) (hx:h.get? x=some ox) (hc:ox.cls=.ref C) (hq:Q (.done (.ret (.ref C))) ⟨h,g,d,t,os⟩) :
  wpAny (model prog w) A (Builtin.«object.__getattribute__» ⟨[.ref x,.str "__class__" tk],[]⟩) Q E ⟨h,g,d,t,os⟩:=by
 have L6:PySem.W.Looks (model prog w) h (typeLookup (.ref C) "__class__") (some (.builtin "object.__class__")):=PySem.W.looks_findIn X Z.cl;have hT5:(⟨h,g,d,t,os⟩:Shared).TypeIs (.builtin "object.__class__") "getset_descriptor":=F.typeOf_object_class;have f5:=F.typeOf_object_class;have f6:=F.slot_gs_get.lookup;have f7:=F.slot_gs_set.lookup
 repeat (any_goals (first | assumption | (with_reducible refine wpAny_loadPart_at hx ?_;rw [hc]) | with_reducible refine L6.at ?_ | wp_step))
 refine aS2 Z X hx hc ?_
 repeat (any_goals (first | assumption | wp_step))
def zC {M:Model} {nameV:Value} {Q:Unit->Shared->Prop} (Z:XCls K C) (X:K.In h) (hx:h.get? x=some ox) (hc:ox.cls=.ref C) (hq:Q () ⟨h,g,d,t,os⟩) :
  wpAny M A (checkBuiltinCall "BaseException.__getattribute__" ⟨[.ref x,nameV],[]⟩) Q E ⟨h,g,d,t,os⟩:=by
 have k1:builtinKind "BaseException.__getattribute__"=some .slot:=by decide +kernel
 have k2:splitId "BaseException.__getattribute__"=some ("BaseException","__getattribute__"):=by decide +kernel
 have L3:PySem.W.Looks M h (isSubtype (.ref C) (.type "BaseException")) true:=PySem.W.looks_mroIn X Z.be;have k3:=F.args_bexc_ga (.ref x) nameV;simp only [checkBuiltinCall,k1,k2];unfold isInstance
 repeat (any_goals (first | assumption | (with_reducible refine wpAny_loadPart_at hx ?_;rw [hc]) | with_reducible refine L3.at ?_ | wp_step))
def bE5 {tk:Tok} {Q:Value->Shared->Prop} (FB:Slot "ValueError" "__getattribute__" "BaseException.__getattribute__") (Z:XCls K C) (X:K.In h) (hx:h.get? x=some ox) (hc:ox.cls=.ref C) (hq:Q (.ref C) ⟨h,g,d,t,os⟩) :
  wpAny (model prog w) A (getAttrBy (.ref x) (.str "__class__" tk) false) Q E ⟨h,g,d,t,os⟩:=by
 have L4:PySem.W.Looks (model prog w) h (typeLookup (.ref C) "__getattribute__") (some (.builtin "BaseException.__getattribute__")):=PySem.W.looks_findIn X Z.ga;have L5:PySem.W.Looks (model prog w) h (typeLookup (.ref C) "__getattr__") none:=PySem.W.looks_findIn X Z.gn;have f3:=FB.bind (.ref x);have y2:(Value.builtin "BaseException.__getattribute__"==Value.builtin "object.__getattribute__")=false:=by decide +kernel
 have y1:(onTheHeap (Value.ref C)&&Value.builtin "BaseException.__getattribute__"==Value.builtin "object.__getattribute__")=false:=by rw [y2];rfl
 repeat (any_goals (first | assumption | (with_reducible refine wpAny_loadPart_at hx ?_;rw [hc]) | with_reducible refine L4.at ?_ | with_reducible refine L5.at ?_ | wp_step))
 refine codeAny_call_builtin FB.plain F.entry_bexc_ga ?_;refine zC Z X hx hc (zB Z X hx hc ?_)
 repeat (any_goals (first | assumption | wp_step))
def aE8 {Q:Option Value->Shared->Prop} (FB:Slot "ValueError" "__getattribute__" "BaseException.__getattribute__") (Z:XCls K C) (X:K.In h) (hx:h.get? x=some ox) (hc:ox.cls=.ref C) (hq:Q (some (.ref C)) ⟨h,g,d,t+1,os⟩) :
  wpAny (model prog w) A (getAttr? (.ref x) "__class__") Q E ⟨h,g,d,t,os⟩:=by
 unfold getAttr? getAttrBy?
 repeat (any_goals (first | assumption | with_reducible apply bE5 FB Z X hx hc | wp_step))
def pZ (FB:Slot "ValueError" "__getattribute__" "BaseException.__getattribute__") (Z:XCls K C) (hc:ox.cls=.ref C):PySem.W.KitX K (.ref x) (.ref C) (fun h=>h.get? x=some ox) where
 ty:=fun M h _ hx=>hc ▸ (PySem.W.Looks.ld hx).andThen .now
 it:=fun M h X _=>by
  have z:=Z.ob;unfold PySem.W.mroIn at z;obtain ⟨cd,a,_⟩:=Option.bind_eq_some_iff.mp z;unfold PySem.W.clsIn at a;split at a
  ·rename_i ho;intro A' Q' E' s' k q;unfold isType loadHead;exact wpAny_bind (wpAny_loadPart (k _ _ (X _ _ ho)) (wpAny_pure q))
  ·cases a
 ne:=fun h tp dd its n sl X htp=>by
  refine Bool.eq_false_iff.mpr fun q=>?_;have e:C=tp:=Value.ref.inj (beq_iff_eq.mp q);subst e;have z:=Z.ob;unfold PySem.W.mroIn at z;obtain ⟨cd,a,_⟩:=Option.bind_eq_some_iff.mp z;unfold PySem.W.clsIn at a;split at a
  ·rename_i ho;cases (X _ _ ho).symm.trans htp
  ·cases a
 ca:=fun {_ _ _ _ _ s} X hx q=>by
  obtain ⟨h,g,d,t,os⟩:=s;exact aE8 FB Z X hx hc q
end
end L2
namespace DL
open PySem PySem.Spec PyProof.Rows L2 CI
structure Su (X:Cx) (κ:Kp) (n:Str) (ea C:Addr) (s:Shared):Prop where
 lk:∃ o m,κ X.env.locals=some (false,o)/\kT o m/\m n=some (.ref ea)
 ob:∃ oe,s.heap.get? ea=some oe/\oe.cls=.ref C
 nl:ea≠X.env.locals
section
variable {X:Cx} {κ:Kp} {M:Mp} {h h':aA} {s:Shared} {δ:DSt} {x n:Str} {C ea:Addr} {A:Around} {E:Value->Shared->Prop} {i:Nat} {u:Value} {o o':Obj} {m:Str->Option Value}
def Fra.at1 {z:Option W} {v:Option Value} (F:Fra X κ M δ) (hi:X.N[i]?=some x) (hk:X.env.scope.names.lookup x=some .local) (h1:κ X.env.locals=some (false,o)) (d:kT o m) (d':kT o' fun y=>if y=x then v else m y) (r:∀ w,z=some w->∃ u,v=some u/\RepW X.S M w u):Fra X (κ.up X.env.locals (false,o')) M (δ.set i z):=by
 have hiδ:i < δ.length:=by rw [F.len];exact (List.getElem?_eq_some_iff.mp hi).1
 obtain ⟨o1,m1,k1,k2,k3⟩:=F.loc;rw [h1] at k1;cases k1;have em:m1=m:=by
  obtain ⟨es,ep,e1,_,e3⟩:=k2;obtain ⟨es',ep',e1',_,e3'⟩:=d;rw [e1] at e1';cases e1';exact funext fun y=>(e3 y).symm.trans (e3' y)
 subst em;refine ⟨F.ok,by rw [List.length_set];exact F.len,⟨o',_,gW,d',fun j y w' e1 e2 e3=>?_⟩,fun y c ec=>?_,F.frs.up fun vs z=>by obtain ⟨_,_,z',_⟩:=d';rw [z'] at z;cases z⟩
 ·by_cases hj:j=i
  ·subst hj;rw [hi] at e1;cases e1;rw [List.getElem?_set_self hiδ] at e2;obtain ⟨u,ev,ru⟩:=r w' (Option.some.inj e2);exact ⟨u,ru,.inl ⟨hk,by simp [ev]⟩⟩
  ·rw [List.getElem?_set_ne (Ne.symm hj)] at e2;obtain ⟨u',r',l⟩:=k3 j y w' e1 e2 e3;refine ⟨u',r',?_⟩;rcases l with ⟨k,e⟩ | ⟨k,c,oc,ec,eo,ed⟩
   ·have:y≠x:=fun e=>hj (kU F.ok.nd e1 (e ▸ hi));exact .inl ⟨k,by simp [this,e]⟩
   ·exact .inr ⟨k,c,oc,ec,by rw [cD fun z=>by rw [z,h1] at eo;cases eo];exact eo,ed⟩
 ·obtain ⟨oc,v,h6,h7⟩:=F.cell y c ec;exact ⟨oc,v,by rw [cD fun z=>by rw [z,h1] at h6;cases h6];exact h6,h7⟩
def rW {o':Obj}:Own X κ (κ.up X.env.locals (false,o')):=fun a ha=>by
 by_cases z:a=X.env.locals
 ·exact .inl z
 ·exact (ha (cD z)).elim
def zD {Md:Model} {Q:Unit->Shared->Prop} (F:Fra X κ M δ) (R:Mem X.S κ M h s) (hk:X.env.scope.names.lookup x=some .local)
  (q:∀ s' o m o',κ X.env.locals=some (false,o)->kT o m->kT o' (fun y=>if y=x then some u else m y)->Mem X.S (κ.up X.env.locals (false,o')) M h s'->Heap.SameBut X.env.locals s.heap s'.heap->Q () s'):wpAny Md A (storeName X.env x u) Q E s:=by
 have hcls:(X.env.scope.kind==.class||(X.env.scope.kind==.module&&X.env.locals != X.env.globals))=false:=by rw [F.ok.kind];rfl
 obtain ⟨o,m,h1,⟨es,ep,h2,h3,h4⟩,h5⟩:=F.loc;obtain ⟨_,⟨sl,e⟩,_⟩:=R.k _ _ _ h1;have hn:s.heap.Ns X.env.locals m:=⟨_,es,ep,e,h2,h3,h4⟩;refine wpAny_storeName_local hk hn (fun h' hn' hs=>?_) hcls;obtain ⟨o',es',ep',ho',hd',hk',hm'⟩:=hn';exact q _ o m o' h1 ⟨es,ep,h2,h3,h4⟩ ⟨es',ep',hd',hk',hm'⟩ (R.own h1 (fun b ob hb q=>(hs.2 b hb).trans q) ho' R.bare rfl) hs
def bE6 {Md:Model} {pos:Pos} {Q:Unit->Shared->Prop} (F:Fra X κ M δ) (R:Mem X.S κ M h s) (hi:X.N[i]?=some x) (hk:X.env.scope.names.lookup x=some .local)
  (q:∀ s' κ',Own X κ κ'->Mem X.S κ' M h s'->Fra X κ' M (δ.set i none)->Q () s'):wpAny Md A (do bindName X.env x .none;unbindBehindTheSuite X.env x pos) Q E s:=by
 have hcls:(X.env.scope.kind==.class||(X.env.scope.kind==.module&&X.env.locals != X.env.globals))=false:=by rw [F.ok.kind];rfl
 obtain ⟨o,m,h1,⟨es,ep,h2,h3,h4⟩,h5⟩:=F.loc;obtain ⟨_,⟨sl,e⟩,_⟩:=R.k _ _ _ h1;have hn:s.heap.Ns X.env.locals m:=⟨_,es,ep,e,h2,h3,h4⟩;refine wpAny_nameGoes_keeps (m:=m) hk hn hcls fun h' v hn' hs=>?_;obtain ⟨o',es',ep',ho',hd',hk',hm'⟩:=hn';exact q _ _ rW (R.own h1 (fun b ob hb q=>(hs.2 b hb).trans q) ho' R.bare rfl) (F.at1 hi hk h1 ⟨es,ep,h2,h3,h4⟩ ⟨es',ep',hd',hk',hm'⟩ fun w z=>nomatch z)
end
end DL

namespace DL
open PySem PySem.Spec PyProof.Rows L2 CI
section
variable {X:Cx} {κ:Kp} {M:Mp} {h h':aA} {s:Shared} {δ:DSt} {x n c:Str} {C ea:Addr} {A:Around} {E:Value->Shared->Prop} {i:Nat} {u cu:Value} {b:Bool} {p p1 pc pos:Pos}
def Su.go {h2:Heap} {t:Nat} (U:Su X κ n ea C s) (k:∀ b o,s.heap.get? b=some o->h2.get? b=some o):Su X κ n ea C { s with heap:=h2,toks:=t }:=⟨U.lk,let ⟨oe,h1,h2⟩:=U.ob;⟨oe,k _ _ h1,h2⟩,U.nl⟩
def Qs (X:Cx) (κ:Kp) (M:Mp) (h:aA) (n:Str) (ea C:Addr) (v u:Value) (s:Shared):Prop:=u=v/\Mem X.S κ M h s/\Su X κ n ea C s
def aE9 {Q:Value->Shared->Prop} (F:Fra X κ M δ) (R:Mem X.S κ M h s) (hg:Gl X x) (hm:X.S.mg x=none) (hv:bootBuiltins x=some u) (hn:aW x=true) (q:Q u s):Wp X.S A (eval (.Name x pos) X.env) Q E s:=by
 unfold aW at hn;simp only [Bool.and_eq_true,Bool.not_eq_true'] at hn;obtain ⟨mb,h1,h2⟩:=F.ok.mod.blt;exact Calls.Name_function_global F.ok.kind hg (Calls.loadGlobal_builtin (by rw [F.ok.glob];exact F.ok.mod.glob.keeps R.bk) hm (by rw [F.ok.blt];exact h1.keeps R.bk) ((h2 x (fun z=>by rw [z] at hn;exact absurd hn.2.2 (by decide))).trans hv) q) hn.1
def zE {Q:Value->Shared->Prop} (F:Fra X κ M δ) (R:Mem X.S κ M h s) (U:Su X κ n ea C s) (hk:X.env.scope.names.lookup n=some .local) (hn:aW n=true) (q:Q (.ref ea) s):Wp X.S A (eval (.Name n pos) X.env) Q E s:=by
 unfold aW at hn;simp only [Bool.and_eq_true,Bool.not_eq_true'] at hn;obtain ⟨o,m,h1,⟨es,ep,h2,h3,h4⟩,h5⟩:=U.lk;obtain ⟨_,⟨sl,e⟩,_⟩:=R.k _ _ _ h1;exact wpAny_Name (wpAny_loadName_local F.ok.kind hk ⟨_,es,ep,e,h2,h3,h4⟩ h5 q) hn.1
def Cn (X:Cx) (c:Str) (cu:Value):Prop:=Gl X c/\aW c=true/\((X.S.mg c=some cu)\/(X.S.mg c=none/\bootBuiltins c=some cu))
def tO {Q:Value->Shared->Prop} (F:Fra X κ M δ) (R:Mem X.S κ M h s) (k:Cn X c cu) (q:Q cu s):Wp X.S A (eval (.Name c pc) X.env) Q E s:=by
 obtain ⟨hg,hn,hm | ⟨hm,hb⟩⟩:=k
 ·exact pY F R hg hm hn q
 ·exact aE9 F R hg hm hb hn q
def zF (F:Fra X κ M δ) (R:Mem X.S κ M h s) (U:Su X κ n ea C s) (Z:XCls X.S.K C) (hi:Cn X "isinstance" (.builtin "isinstance")) (hk:X.env.scope.names.lookup n=some .local) (hn:aW n=true) (hc:Cn X c cu) (e:PySem.W.kitOne X.S.K (.ref C) cu=some b) :
  Wp X.S A (eval (.Call (.Name "isinstance" p) [.Name n p1,.Name c pc] [] pos) X.env) (Qs X κ M h n ea C (.bool b)) E s:=by
 refine wpAny_Call_Name_kw (tO F R hi ?_);refine PyProof.Rows.callWith_builtin1 ?_ (aZ (.Name n p1) rfl) (bD pos [.Name c pc] rfl);rw [aZ (.Name n p1) rfl];show Wp _ _ (spliced ((false,eval (.Name n p1) X.env)::backTo pos (starEach [.Name c pc] X.env))) _ _ s;refine Calls.spliced_cons (zE F R U hk hn ?_);rw [aZ (X:=X) (es:=[]) (.Name c pc) rfl];show Wp _ _ (spliced ((false,eval (.Name c pc) X.env)::[])) _ _ s;refine Calls.spliced_cons (tO F R hc (Calls.spliced_nil ?_));obtain ⟨oe,ho,hcl⟩:=U.ob;exact PySem.W.kia_one (pZ PySem.F.excAttr_ValueError.ga Z hcl) (F.kin.keeps R.bk) ho e (fun z=>nomatch z) fun tk=>⟨rfl,R.tok tk,U.go (h2:=s.heap) fun _ _ z=>z⟩
theorem aJ7 (F:Fra X κ M δ) (R:Mem X.S κ M h s):∀ {cs:List (Str×Pos)} {us:List Value} {Q:List Value->Shared->Prop},Paired (fun (q:Str×Pos) v=>Cn X q.1 v) cs us->Q us s->Wp X.S A (spliced (backTo pos (starEach (cs.map fun q=>.Name q.1 q.2) X.env))) Q E s
 | [],_,Q,.nil,q=>Calls.spliced_nil q
 | (a,pa)::cs,_,Q,.cons k r,q=>by
  rw [List.map_cons,aZ (X:=X) (.Name a pa) rfl];show Wp _ _ (spliced ((false,eval (.Name a pa) X.env)::backTo pos (starEach _ X.env))) _ _ s;exact Calls.spliced_cons (tO F R k (aJ7 F R r q))
def aF0 {cs:List (Str×Pos)} {us:List Value} {k} (F:Fra X κ M δ) (R:Mem X.S κ M h s) (U:Su X κ n ea C s) (Z:XCls X.S.K C) (hi:Cn X "isinstance" (.builtin "isinstance")) (hk:X.env.scope.names.lookup n=some .local) (hn:aW n=true) (hc:Paired (fun (q:Str×Pos) v=>Cn X q.1 v) cs us) (hl:us.length<=sizeLine) (e:PySem.W.kitAny X.S.K (.ref C) us=some b) :
  Wp X.S A (eval (.Call (.Name "isinstance" p) [.Name n p1,.Tuple (cs.map fun q=>.Name q.1 q.2) k pc] [] pos) X.env) (Qs X κ M h n ea C (.bool b)) E s:=by
 have kp:∀ b o,s.heap.get? b=some o->(s.heap.push { cls:=.type "tuple",data:=.seq us.toArray }).get? b=some o:=fun b o e=>Heap.get?_push_of_some _ e;have tup:∀ {Q:Value->Shared->Prop},Q (.ref s.heap.objs.size) { s with heap:=s.heap.push { cls:=.type "tuple",data:=.seq us.toArray } }->Wp X.S A (eval (.Tuple (cs.map fun q=>.Name q.1 q.2) k pc) X.env) Q E s:=fun q=>wpAny_Tuple_spliced (aJ7 F R hc ⟨hl,q⟩);have ns:aH (.Tuple (cs.map fun q=>.Name q.1 q.2) k pc)=true:=rfl;generalize Expr.Tuple (cs.map fun q=>.Name q.1 q.2) k pc=te at tup ns;have ns':([te].all aH)=true:=by simp [ns]
 refine wpAny_Call_Name_kw (tO F R hi ?_);refine PyProof.Rows.callWith_builtin1 ?_ (aZ (.Name n p1) rfl) (bD pos [te] ns');rw [aZ (.Name n p1) rfl];show Wp _ _ (spliced ((false,eval (.Name n p1) X.env)::backTo pos (starEach [te] X.env))) _ _ s;refine Calls.spliced_cons (zE F R U hk hn ?_);rw [aZ (X:=X) (es:=[]) te ns];show Wp _ _ (spliced ((false,eval te X.env)::[])) _ _ s;refine Calls.spliced_cons (tup (Calls.spliced_nil ?_));obtain ⟨oe,ho,hcl⟩:=U.ob;have R2:Mem X.S κ M h { s with heap:=s.heap.push { cls:=.type "tuple",data:=.seq us.toArray } }:=R.kept (t:=s.toks) kp;exact PySem.W.kia_tup (pZ PySem.F.excAttr_ValueError.ga Z hcl) (F.kin.keeps R2.bk) (kp _ _ ho) (Heap.get?_push_size _ rfl) e (fun z=>nomatch z) fun tk=>⟨rfl,R2.tok tk,U.go kp⟩
def aS3 {j:Nat} {w:W} {Q:Value->Shared->Prop} (F:Fra X κ M δ) (R:Mem X.S κ M h s) (hi:X.N[j]?=some x) (e:δ[j]?=some (some w)) (hv:Vis X.env.scope x) (hn:aW x=true) (q:∀ u,RepW X.S M w u->Q u s):Wp X.S A (eval (.Name x pos) X.env) Q E s:=by
 unfold aW at hn;simp only [Bool.and_eq_true,Bool.not_eq_true'] at hn;obtain ⟨m,hns,hl⟩:=F.ns R;obtain ⟨u,r,l⟩:=hl j x w hi e hv;rcases l with ⟨hk,hm⟩ | ⟨hk,c,o,hc,ho,hd⟩
 ·exact wpAny_Name (wpAny_loadName_local F.ok.kind hk hns hm (q u r)) hn.1
 ·have hcell:s.heap.IsCell c (some u):=⟨o,(R.k _ _ _ ho).1 rfl,hd⟩;rcases hk with hk | hk
  ·exact wpAny_Name (wpAny_loadName_cell F.ok.kind hk hc hcell (q u r)) hn.1
  ·exact wpAny_Name (wpAny_loadName_free F.ok.kind hk hc hcell (q u r) hn.2.1) hn.1
def aS4 {j:Nat} (F:Fra X κ M δ) (R:Mem X.S κ M h s) (U:Su X κ n ea C s) (hi:X.N[j]?=some x) (e:δ[j]?=some (some (.d (.bool b)))) (hv:Vis X.env.scope x) (hn:aW x=true):Wp X.S A (eval (.Name x pos) X.env) (Qs X κ M h n ea C (.bool b)) E s :=
 aS3 F R hi e hv hn fun u r=>⟨wb.mp r,R,U⟩
def aS5 {a:Expr} (k:Wp X.S A (eval a X.env) (Qs X κ M h n ea C (.bool b)) E s):Wp X.S A (eval (.UnaryOp .Not a pos) X.env) (Qs X κ M h n ea C (.bool !b)) E s :=
 UnaryOp_ (wpAny_mono k (fun u s1 ⟨e,R,U⟩=>by subst e;exact not_of (wpAny_truthy_bool ⟨rfl,R,U⟩)) fun _ _ z=>z)
theorem zG:∀ (l:List (Expr×Bool)) {s:Shared},l≠[]->Mem X.S κ M h s->Su X κ n ea C s->(∀ q∈l,∀ s,Mem X.S κ M h s->Su X κ n ea C s->Wp X.S A (eval q.1 X.env) (Qs X κ M h n ea C (.bool q.2)) E s)->Wp X.S A (eval (.BoolOp .And (l.map (·.1)) pos) X.env) (Qs X κ M h n ea C (.bool (l.all (·.2)))) E s
 | [],_,hl,_,_,_=>(hl rfl).elim
 | [(a,b)],s,_,R,U,k=>by
  have:=k _ List.mem_cons_self s R U;simp only [List.map_cons,List.map_nil,List.all_cons,List.all_nil,Bool.and_true];exact BoolOp_one this
 | (a,b)::(a2,b2)::r,s,_,R,U,k=>by
  refine BoolOp_and (wpAny_mono (k _ List.mem_cons_self s R U) (fun u s1 ⟨e,R1,U1⟩=>?_) fun _ _ z=>z);subst e;cases b with
  | false=>exact wpAny_truthy_bool ⟨by simp,R1,U1⟩
  | true =>
   have:=zG ((a2,b2)::r) (by simp) R1 U1 fun q hq=>k q (List.mem_cons_of_mem _ hq);exact wpAny_truthy_bool (by simpa using this)
def aS6 {j:Nat} {px:Pos} {a:Expr} {r:List Stmt} {Q:Flow->Shared->Prop} (F:Fra X κ M δ) (hi:X.N[j]?=some x) (hk:X.env.scope.names.lookup x=some .local) (hx:x≠n) (hs:swapsWith a (some (.Name x px)) pos.line X.env=pure false) (ka:Wp X.S A (eval a X.env) (Qs X κ M h n ea C (.bool b)) E s)
  (q:∀ {κ1 s1},Own X κ κ1->Mem X.S κ1 M h s1->Fra X κ1 M (δ.set j (some (.d (.bool b))))->Su X κ1 n ea C s1->Wp X.S A (execs r X.env) Q E s1):Wp X.S A (execs (.Assign [.Name x px] a pos::r) X.env) Q E s:=by
 refine wpAny_execs_cons (wpAny_Assign_Name (wpAny_mono ka (fun u s1 ⟨e,R,U⟩=>?_) fun _ _ z=>z) hs);subst e;refine zD F R hk fun s2 o m o' h1 d d' R2 sb=>q rW R2 (F.at1 hi hk h1 d d' fun w z=>⟨_,rfl,by cases z;exact wb.mpr rfl⟩) ⟨?_,?_,U.nl⟩
 ·obtain ⟨o1,m1,k1,k2,k3⟩:=U.lk;rw [h1] at k1;cases k1;have em:m1=m:=by
   obtain ⟨es,ep,e1,_,e3⟩:=k2;obtain ⟨es',ep',e1',_,e3'⟩:=d;rw [e1] at e1';cases e1';exact funext fun y=>(e3 y).symm.trans (e3' y)
  subst em;exact ⟨o',_,gW,d',by simp [Ne.symm hx,k3]⟩
 ·obtain ⟨oe,k1,k2⟩:=U.ob;exact ⟨oe,(sb.2 _ U.nl).trans k1,k2⟩
def aF1 {J:Str} {jp hpos tpos:Pos} {CJ L:Addr} {b0:Stmt} {su body:List Stmt} {Q:Flow->Shared->Prop} {h2:aA} (F:Fra X κ M δ) (hb:Wp X.S X.A (execs body X.env) (fun _ _=>False) (Rt X κ M h' C) s) (hmJ:X.S.mg J=some (.ref CJ)) (hJ:PySem.W.exmOne X.S.K (.ref C) (.ref CJ)=some true) (hnJ:aW J=true) (hgJ:Gl X J) (hf:X.env.frame=some L) (hi:X.N[i]?=some n) (hk:X.env.scope.names.lookup n=some .local)
  (hsu:∀ {κ1:Kp} {M1:Mp} {s1:Shared} {ea:Addr},Own X κ κ1->Le M M1->Mem X.S κ1 M1 h' s1->Fra X κ1 M1 (δ.set i none)->Su X κ1 n ea C s1->Wp X.S (X.A.mark (some (.ref ea))) (execs (b0::su) X.env) (fun fl s2=>∃ κ2 M2 δ2,Own X κ κ2/\Le M M2/\Mem X.S κ2 M2 h2 s2/\Fra X κ2 M2 δ2/\∀ {κ3 s3},Own X κ κ3->Mem X.S κ3 M2 h2 s3->Fra X κ3 M2 (δ2.set i none)->Q fl s3) NE s1) :
  Wp X.S X.A (exec (.Try body [.ExceptHandler (some (.Name J jp)) (some n) (b0::su) hpos] [] [] tpos) X.env) Q NE s:=by
 refine wpAny_Try_except (wpAny_mono hb (fun _ _ z=>z.elim) fun ex s' ⟨M',l,ea,hex,l1,hA,R,B,t,fl,pr⟩=>?_);subst hex;have FL:=F.frl hA;have F1:=F.go l1;have inv:∀ h2,B.StaysIn h2->s'.heap.UpToSlots h2->Mem X.S κ M' h' { s' with heap:=h2 }:=fun h2 hB up=>R.keepF (fs:=frs (X.env::l)) (fun a ha=>let ⟨o,h1,_⟩:=FL.at ha;⟨o,h1⟩) (fun b o q n nf=>hB b o (pr b o q n nf)) (fun a ha o q _=>by
  obtain ⟨o',k1,k2⟩:=FL.at ha;obtain ⟨_,⟨sl,k3⟩,_⟩:=R.k _ _ _ k1;rw [q] at k3;cases k3;exact up a _ q k2) R.bare rfl
 refine wpAny_looks_onW hA hf fl fun h4 held4 up4=>?_;refine wpAny_landsW held4 fun h5 fl5 up5=>?_;have R5:=inv h5 fl5.1 (up4.trans up5);obtain ⟨oe5,ws5,he5,hc5,hd5,_⟩:=fl5.first
 refine wpAny_handleBy_cons (codeAny_handlers_test (pY F1 R5 hgJ hmJ hnJ ?_)) (by intro q;cases q);have LT:PySem.W.Looks (model X.S.P X.S.w) h5 (typeOf (.ref ea)) (.ref C):=hc5 ▸ (PySem.W.Looks.ld he5).andThen .now;refine (PySem.W.exm_one (K:=X.S.K) (F1.kin.keeps R5.bk) LT hJ).here ?_;refine codeAny_handlers_suite_as ?_;refine lands_againW fl5 fun h6 fl6 up6=>?_;have R6:=inv h6 fl6.1 ((up4.trans up5).trans up6);obtain ⟨oe6,ws6,he6,hc6,hd6,_⟩:=fl6.first
 refine zD F1 R6 hk fun s7 o m o' k1 d d' R7 sb=>?_;have nl:ea≠X.env.locals:=fun z=>by
  obtain ⟨_,⟨sl,k3⟩,_⟩:=R6.k _ _ _ k1;obtain ⟨es,ep,e1,_⟩:=d;rw [<- z] at k3;have:=he6.symm.trans k3;cases this;rw [hd6] at e1;cases e1
 refine wpAny_mono (hsu rW l1 R7 (F1.at1 hi hk k1 d d' fun w z=>nomatch z) ⟨⟨o',_,gW,d',by simp⟩,⟨oe6,(sb.2 _ nl).trans he6,hc6⟩,nl⟩) (fun f8 s8 ⟨κ2,M2,δ2,o2,l2,R8,F8,q8⟩=>?_) fun _ _ z=>z.elim;cases f8<;>exact bE6 F8 R8 hi hk fun s9 κ9 o9 R9 F9=>q8 (o2.trans o9) R9 F9
end
end DL

namespace CI
open PySem DL
@[simp] theorem bE7 {α β:Type} (x:XR α) (f:α->XR β) (δ:DSt) (h:aA):xb x f δ h=(x δ h).bind fun p=>f p.1 δ p.2:=rfl
@[simp] theorem zH {α:Type} (a:α) (δ:DSt) (h:aA):aD a δ h=some (a,h):=rfl
@[simp] theorem bS6 {α:Type} (δ:DSt) (h:aA):(xno:XR α) δ h=none:=rfl
@[simp] theorem bP3 (i:Nat) (δ:DSt) (h:aA):aB i δ h=match δ[i]? with
 | some (some w)=>some (w,h)
 | _=>none:=rfl
def dM (h:aA):okP h h:=fun i c _ e=>.inr e
def gT {h h1:aA} (L:aA) (hl:h1.length=h.length) (k:okP h h1):okP h (h1++L):=fun i c hi e=>k i c hi (by rwa [List.getElem?_append_left (by omega)] at e)
def aS7 {h h1:aA} (i:Nat) (xs:List PyData) (k:okP h h1):okP h (h1.set i (.l xs)):=fun j c hj e=>by
 by_cases q:i=j
 ·subst q
  by_cases hi:i < h1.length
  ·rw [List.getElem?_set_self hi] at e;cases e;exact .inl fun m hm=>by cases hm
  ·rw [List.set_eq_of_length_le (by omega)] at e;exact k i c hj e
 ·rw [List.getElem?_set_ne q] at e;exact k j c hj e
@[simp] theorem bX9 (h:aA):okP h h=True:=eq_true (dM h)
@[simp] theorem bY0 (h L:aA):okP h (h++L)=True:=eq_true (gT L rfl (dM h))
def zJ (h0:aA) (z:PyData) (h:aA) (ok:okP h0 h):aO h0 (.rt (.d z),h)=some (z,h.take h0.length):=by
 unfold aO;rw [if_pos ok]
def zK (h0:aA) (δ:DSt) (h:aA) (ok:okP h0 h):aO h0 (.nx δ,h)=some (.none,h.take h0.length):=by
 unfold aO;rw [if_pos ok]
@[simp] theorem aF2 (h:aA) (z:PyData):aO h (.rt (.d z),h)=some (z,h):=by rw [zJ _ _ _ (dM h),List.take_length]
@[simp] theorem bP4 (h:aA) (δ:DSt):aO h (.nx δ,h)=some (.none,h):=by rw [zK _ _ _ (dM h),List.take_length]
@[simp] theorem bP5 (h L:aA) (z:PyData):aO h (.rt (.d z),h++L)=some (z,h):=by rw [zJ _ _ _ (gT L rfl (dM h)),List.take_left'];rfl
@[simp] theorem bP6 (h L:aA) (δ:DSt):aO h (.nx δ,h++L)=some (.none,h):=by rw [zK _ _ _ (gT L rfl (dM h)),List.take_left'];rfl
@[simp] theorem bP7 (δ:DSt) (h:aA):sW (.nx δ,h)=some (.d .none,h):=rfl
@[simp] theorem bP8 (w:W) (h:aA):sW (.rt w,h)=some (w,h):=rfl
@[simp] theorem aW5 (δ:DSt):aU [] δ=[]:=rfl
@[simp] theorem aS8 (r:List (Option Nat)) (δ:DSt):aU (none::r) δ=none::aU r δ:=rfl
@[simp] theorem aS9 (i:Nat) (r:List (Option Nat)) (δ:DSt):aU (some i::r) δ=(δ[i]?).bind id::aU r δ:=rfl
@[simp] theorem bE8 (gs:List XG) (xs:List PyData) (δ:DSt) (h:aA):bU gs (.d (.tuple xs)) δ h=iV gs xs δ h:=rfl
@[simp] theorem bE9 (δ:DSt) (h:aA):iV [] [] δ h=some (δ,h):=rfl
@[simp] theorem aW6 (g:XG) (gs:List XG) (x:PyData) (xs:List PyData) (δ:DSt) (h:aA):iV (g::gs) (x::xs) δ h=(g (.d x) δ h).bind fun p=>iV gs xs p.1 p.2:=rfl
@[simp] theorem bW1 (h:aA) (x:PyData):ref h (.d x)=some x:=rfl
end CI

namespace CI
open PySem PySem.Spec PyProof.Rows L2 DL
section
variable {δ:DSt} {h:aA}
@[simp] theorem bF0 (x:XR Bool):cN x δ h=(x δ h).map asW:=rfl
@[simp] theorem bS7 (b:Bool):asW (b,h)=(.d (.bool b),h):=rfl
@[simp] theorem bS8 (op:CmpOp) (x y:XR W):xC1 op x y δ h=(x δ h).bind fun u=>(y δ u.2).bind fun w=>dH op u.1 w.1 w.2:=rfl
@[simp] theorem bS9 (op op':CmpOp) (x y z:XR W):xC2 op op' x y z δ h=(x δ h).bind fun u=>(y δ u.2).bind fun w=>(dH op u.1 w.1 w.2).bind fun p=>if p.1=true then (z δ p.2).bind fun q=>dH op' w.1 q.1 q.2 else some (false,p.2):=rfl
@[simp] theorem bT0 (op op' op'':CmpOp) (x y z t:XR W):xC3 op op' op'' x y z t δ h=(x δ h).bind fun u=>(y δ u.2).bind fun w=>(dH op u.1 w.1 w.2).bind fun p =>
 if p.1=true then (z δ p.2).bind fun q=>(dH op' w.1 q.1 q.2).bind fun p'=>if p'.1=true then (t δ p'.2).bind fun q'=>dH op'' q.1 q'.1 q'.2 else some (false,p'.2) else some (false,p.2):=rfl
@[simp] theorem bF1 (f:Str->Option PyData) (x:XR W):gY f x δ h=(x δ h).bind fun p=>(match p.1 with
 | .d (.str s)=>some (!(f s).isSome,p.2)
 | .d .none=>some (true,p.2)
 | _=>none):=by
 unfold gY;rw [bE7]
 congr 1
 funext p
 obtain ⟨w,h'⟩:=p;cases w with
 | d x=>cases x<;>rfl
 | c i=>rfl
@[simp] theorem bP9 (x:XR (List PyData)):aM x δ h=(x δ h).bind fun p=>some (.d (.list p.1),p.2):=rfl
@[simp] theorem bF2 (x:XR (List PyData)):aV x δ h=(x δ h).bind fun p=>some (.c p.2.length,p.2++[.l p.1]):=rfl
@[simp] theorem bT1 (x:XR (List W)):xPl x δ h=(x δ h).bind fun p=>(match fI p.1 with
 | some xs=>if xs.length<=sizeLine then some (xs,p.2) else none
 | none=>none):=rfl
@[simp] theorem bQ0 (i:Nat) (x:XR W):aN i x δ h=(x δ h).bind fun p=>some (.nx (δ.set i (some p.1)),p.2):=rfl
@[simp] theorem bF3 (x:XR W):bK x δ h=(x δ h).bind fun p=>(match p.1 with
 | .d (.list xs)=>some ((xs,none),p.2)
 | .d (.tuple xs)=>some ((xs,none),p.2)
 | .c i=>(match p.2[i]? with
  | some (.l xs)=>some ((xs,some (i,false)),p.2)
  | _=>none)
 | _=>none):=rfl
@[simp] theorem aT2:fI []=some []:=rfl
@[simp] theorem bF4 (x:PyData) (r:List W):fI (.d x::r)=(fI r).map (x::·):=rfl
@[simp] theorem bT2 (i j:Int):dH .Lt (.d (.int i)) (.d (.int j)) h=some (decide (i < j),h):=rfl
@[simp] theorem bT3 (i j:Int):dH .LtE (.d (.int i)) (.d (.int j)) h=some (decide (i<=j),h):=rfl
@[simp] theorem bT4 (i j:Int):dH .Gt (.d (.int i)) (.d (.int j)) h=some (decide (j < i),h):=rfl
@[simp] theorem bT5 (i j:Int):dH .GtE (.d (.int i)) (.d (.int j)) h=some (decide (j<=i),h):=rfl
@[simp] theorem bT6 (u w:W):dH .Eq u w h=(xEq u w h).map fun b=>(b,h):=rfl
@[simp] theorem bT7 (u w:W):dH .NotEq u w h=(xEq u w h).map fun b=>(!b,h):=rfl
@[simp] theorem bT8 (u w:W):dH .Is u w h=(xIs u w).map fun b=>(b,h):=rfl
@[simp] theorem aW7 (u w:W):dH .IsNot u w h=(xIs u w).map fun b=>(!b,h):=rfl
@[simp] theorem bT9 (u w:W):dH .In u w h=(xIn u w h).map fun b=>(b,h):=rfl
@[simp] theorem aW8 (u w:W):dH .NotIn u w h=(xIn u w h).map fun b=>(!b,h):=rfl
def tP (a b:PyData):xEq (.d a) (.d b) h=if (aI 64 a&&aI 64 b)=true then some (PyData.eqv a b) else none:=rfl
@[simp] theorem bQ1 (n:Nat):aI n .none=true:=by rw [aI]
@[simp] theorem bQ2 (n:Nat) (b:Bool):aI n (.bool b)=true:=by rw [aI]
@[simp] theorem bU0 (n:Nat) (i:Int):aI n (.int i)=true:=by rw [aI]
@[simp] theorem bU1 (n:Nat) (x:Str):aI n (.str x)=true:=by rw [aI]
@[simp] theorem bQ3 (n:Nat) (xs:List PyData):aI (n+1) (.list xs)=plainsB n xs:=by rw [aI]
@[simp] theorem bF5 (n:Nat) (xs:List PyData):aI (n+1) (.tuple xs)=plainsB n xs:=by rw [aI]
@[simp] theorem bQ4 (n:Nat):plainsB n []=true:=by rw [plainsB]
@[simp] theorem bF6 (n:Nat) (x:PyData) (xs:List PyData):plainsB n (x::xs)=(aI n x&&plainsB n xs):=by rw [plainsB]
@[simp] theorem bQ5 (i j:Int):xEq (.d (.int i)) (.d (.int j)) h=some (decide (i=j)):=by rw [tP];simp [PyData.eqv];exact Bool.beq_eq_decide_eq i j
@[simp] theorem bQ6 (x y:Str):xEq (.d (.str x)) (.d (.str y)) h=some (x==y):=by simp [tP,PyData.eqv]
@[simp] theorem bF7 (x y:Bool):xEq (.d (.bool x)) (.d (.bool y)) h=some (x==y):=by cases x<;>cases y<;>simp [tP,PyData.eqv]
@[simp] theorem aJ8 (y:Str):xEq (.d .none) (.d (.str y)) h=some false:=by simp [tP,PyData.eqv]
@[simp] theorem bW2 (x:PyData):bN [.d x] h=(match x with
  | .list xs=>some (.d (.int xs.length),h)
  | .tuple xs=>some (.d (.int xs.length),h)
  | _=>none):=by cases x<;>rfl
@[simp] theorem bQ7 (xs:List PyData):bS [.d (.list xs)] h=some (.d (.tuple xs),h):=rfl
@[simp] theorem bQ8 (xs:List PyData):bS [.d (.tuple xs)] h=some (.d (.tuple xs),h):=rfl
@[simp] theorem bF8 (xs:List PyData):fX [.d (.list xs)] h=(dE xs).map fun bs=>(.d (.bool (bs.all id)),h):=rfl
@[simp] theorem bY1 (xs:List PyData) (i:Int):xIx (.d (.tuple xs)) (.d (.int i)) h=(atI xs i).map fun v=>(.d v,h):=rfl
@[simp] theorem bY2 (xs:List PyData) (i:Int):xIx (.d (.list xs)) (.d (.int i)) h=(atI xs i).map fun v=>(.d v,h):=rfl
@[simp] theorem sl_t (xs:List PyData) (lo hi:Option Int):xSl (.d (.tuple xs)) lo hi h=some (.d (.tuple (cut xs lo hi)),h):=rfl
@[simp] theorem sl_l (xs:List PyData) (lo hi:Option Int):xSl (.d (.list xs)) lo hi h=some (.d (.list (cut xs lo hi)),h):=rfl
@[simp] theorem aW9 (i j:Int):cW .Add (.d (.int i)) (.d (.int j)) h=some (.d (.int (i+j)),h):=rfl
@[simp] theorem aX0 (i j:Int):cW .Sub (.d (.int i)) (.d (.int j)) h=some (.d (.int (i - j)),h):=rfl
@[simp] theorem aX1 (i j:Int):cW .Mult (.d (.int i)) (.d (.int j)) h=if cM i j=true then some (.d (.int (i*j)),h) else none:=rfl
@[simp] theorem aX2 (i j:Int):cW .FloorDiv (.d (.int i)) (.d (.int j)) h=if aP j=true then some (.d (.int (i / j)),h) else none:=rfl
@[simp] theorem aX3 (i j:Int):cW .Mod (.d (.int i)) (.d (.int j)) h=if 0 < j then some (.d (.int (i%j)),h) else none:=rfl
@[simp] theorem aX4 (i j:Int):cW .Pow (.d (.int i)) (.d (.int j)) h=if pF i j=true then some (.d (.int (i^j.toNat)),h) else none:=rfl
@[simp] theorem aX5 (xs ys:List PyData):cW .Add (.d (.tuple xs)) (.d (.tuple ys)) h=if xs.length+ys.length<=sizeLine then some (.d (.tuple (xs++ys)),h) else none:=rfl
@[simp] theorem vI (xs ys:List PyData):cW .Add (.d (.list xs)) (.d (.list ys)) h=if xs.length+ys.length<=sizeLine then some (.d (.list (xs++ys)),h) else none:=rfl
@[simp] theorem fS (xs:List PyData):condB none xs h=true:=rfl
theorem bM {g:XG} {te:XR W} {all:List PyData} (f:PyData->PyData) (k:Nat) (hg:∀ w δ h,g w δ h=some (δ.set k (some w),h)) :
  ∀ (rest:List PyData) (δ:DSt) (ac:List PyData),(∀ x∈rest,∀ u,te ((δ.set k u).set k (some (.d x))) h=some (.d (f x),h))->aR g (aD true) te none all rest δ h ac=some (ac++rest.map f,h)
 | [],δ,ac,_=>by simp [aR]
 | x::r,δ,ac,hf=>by
  have e:=hf x List.mem_cons_self none;rw [List.set_set] at e;rw [aR,fS,if_pos rfl,hg];simp only [Option.bind_some,zH,if_true,e];rw [bM f k hg r _ _ fun y hy u=>by
   have:=hf y (List.mem_cons_of_mem _ hy) u;rw [List.set_set] at this ⊢;rw [List.set_set];exact this]
  simp
theorem bools_map {f:PyData->Bool}:∀ xs:List PyData,dE (xs.map fun x=>.bool (f x))=some (xs.map f)
 | []=>rfl
 | x::r=>by rw [List.map_cons,dE,bools_map r];rfl
theorem all_map {f:PyData->Bool} {h:aA} (xs:List PyData):fX [.d (.list (xs.map fun x=>.bool (f x)))] h=some (.d (.bool (xs.all f)),h):=by
 rw [bF8,bools_map,Option.map_some,List.all_map];rfl
end
end CI

namespace CI
open PySem PySem.Spec PyProof.Rows L2 DL
abbrev S3:=Int×Int×Int
noncomputable def stL (s:S3):Cell:=.l [.int s.1,.int s.2.1,.int s.2.2]
def eJ {i:Int} (h1:-(2^64) < i) (h2:i < 2^64) (j:Int):cM i j=true:=by
 unfold cM;rw [decide_eq_true h1,decide_eq_true h2];rfl
def oO {j:Int} (h1:-(2^64) < j) (h2:j < 2^64) (i:Int):cM i j=true:=by
 unfold cM;rw [decide_eq_true h1,decide_eq_true h2,Bool.and_self,Bool.or_true]
def tQ {j:Int} (h1:0 < j) (h2:j < 1073741824):aP j=true:=by
 unfold aP;rw [decide_eq_true h1,decide_eq_true h2];rfl
def mW {h L:aA} {i:Nat} {c:Cell} (hi:i < h.length):h.set i c++L=(h++L).set i c:=(List.set_append_left _ _ hi).symm
def aF3 {h:aA} {i:Nat} {xs:List PyData} (hi:i < h.length):ref (h.set i (.l xs)) (.c i)=some (.list xs):=by
 simp [ref,hi]
@[simp] theorem bY3 {h:aA} {i:Nat} {xs:List PyData} (hi:i < h.length) (k:Int):xIx (.c i) (.d (.int k)) (h.set i (.l xs))=(atI xs k).map fun v=>(.d v,h.set i (.l xs)):=by
 unfold xIx;rw [aF3 hi]
end CI

namespace CI
open PySem PySem.Spec PyProof.Rows L2 DL
variable (h:aA)
@[simp] theorem bU2 (L:aA) (i:Nat) (c:Cell):(h.set i c++L).take h.length=h.set i c:=by
 rw [List.take_append_of_le_length (by simp)];simp
end CI

namespace CI
open PySem PySem.Spec PyProof.Rows L2 DL
theorem mX {g:XG} {te:XR W} {all:List PyData} {h:aA} (f:PyData->PyData) (J:DSt->Prop) :
  ∀ (rest:List PyData) (δ:DSt) (ac:List PyData),J δ->(∀ x∈rest,∀ δ,J δ->∃ δ1,g (.d x) δ h=some (δ1,h)/\J δ1/\te δ1 h=some (.d (f x),h))->aR g (aD true) te none all rest δ h ac=some (ac++rest.map f,h)
 | [],δ,ac,_,_=>by simp [aR]
 | x::r,δ,ac,j,hf=>by
  obtain ⟨δ1,e1,j1,e2⟩:=hf x List.mem_cons_self δ j;rw [aR];simp [e1,e2,aD];rw [mX f J r δ1 (ac++[f x]) j1 fun y hy=>hf y (List.mem_cons_of_mem _ hy)];simp
theorem cP {g:XG} {te:XR W} {all:List PyData} {h:aA} (J:DSt->Prop) :
  ∀ (ps:List (PyData×PyData)) (δ:DSt) (ac:List PyData),J δ->(∀ p∈ps,∀ δ,J δ->∃ δ1,g (.d p.1) δ h=some (δ1,h)/\J δ1/\te δ1 h=some (.d p.2,h))->aR g (aD true) te none all (ps.map (·.1)) δ h ac=some (ac++ps.map (·.2),h)
 | [],δ,ac,_,_=>by simp [aR]
 | x::r,δ,ac,j,hf=>by
  obtain ⟨δ1,e1,j1,e2⟩:=hf x List.mem_cons_self δ j;rw [List.map_cons,aR];simp [e1,e2,aD];rw [cP J r δ1 (ac++[x.2]) j1 fun y hy=>hf y (List.mem_cons_of_mem _ hy)];simp
@[simp] theorem bU3 (xs:List PyData) (h:aA):lU (.d (.list xs)) h=some ((bB xs,none),h):=rfl
@[simp] theorem bU4 (xs:List PyData) (h:aA):lU (.d (.tuple xs)) h=some ((bB xs,none),h):=rfl
@[simp] theorem bU5 (xs:List PyData):gX (.d (.tuple xs))=some xs:=rfl
@[simp] theorem bU6 (xs:List PyData):gX (.d (.list xs))=some xs:=rfl
def aT3 (a:PyData) (xs:List PyData) (h:aA):xIn (.d a) (.d (.tuple xs)) h=if (aI 64 (.tuple xs)&&aI 64 a)=true then some (xs.any fun z=>PyData.eqv z a) else none:=rfl
@[simp] theorem bF9 (x a b:Str) (h:aA):xIn (.d (.str x)) (.d (.tuple [.str a,.str b])) h=some (a==x||b==x):=by
 rw [aT3];simp [PyData.eqv]
end CI

namespace CI
open PySem PySem.Spec PyProof.Rows L2 DL ST
section
variable (h:aA)
@[simp] theorem bG0:cS []=some []:=rfl
@[simp] theorem aX6 (i:Int) (r:List PyData):cS (.int i::r)=(cS r).map (i::·):=rfl
@[simp] theorem bW3:xIs (.d .none) (.d .none)=some true:=rfl
@[simp] theorem bW4 (i:Int):xIs (.d (.int i)) (.d .none)=some false:=rfl
@[simp] theorem bW5 (xs:List PyData):xIs (.d (.tuple xs)) (.d .none)=some false:=rfl
def get_last (c:Cell):(h++[c])[h.length]?=some c:=by simp
def mpre_last (xs:List PyData):uJ "append" (.c h.length) (h++[.l xs])=true:=by
 unfold uJ;rw [if_pos rfl];simp
def kD {lo:Int} {n:Nat} {x:PyData} (hx:x∈rng lo n):∃ k:Nat,k < n/\x=.int (lo+k):=by
 unfold rng at hx;obtain ⟨k,hk,rfl⟩:=List.mem_map.mp hx;exact ⟨k,by simpa using hk,rfl⟩
end
end CI

namespace CI
open PySem PySem.Spec PyProof.Rows L2 DL ST
@[simp high] theorem bs {α β:Type} (a:α) (f:α->Option β):(some a).bind f=f a:=id rfl
@[simp high] theorem xv0 (w:W) (l:DSt) (h:aA):aB 0 (some w::l) h=some (w,h):=id rfl
@[simp high] theorem xv1 {x0:Option W} (w:W) (l:DSt) (h:aA):aB 1 (x0::some w::l) h=some (w,h):=id rfl
@[simp high] theorem xv2 {x0 x1:Option W} (w:W) (l:DSt) (h:aA):aB 2 (x0::x1::some w::l) h=some (w,h):=id rfl
@[simp high] theorem xv3 {x0 x1 x2:Option W} (w:W) (l:DSt) (h:aA):aB 3 (x0::x1::x2::some w::l) h=some (w,h):=id rfl
@[simp high] theorem xv4 {x0 x1 x2 x3:Option W} (w:W) (l:DSt) (h:aA):aB 4 (x0::x1::x2::x3::some w::l) h=some (w,h):=id rfl
@[simp high] theorem xv5 {x0 x1 x2 x3 x4:Option W} (w:W) (l:DSt) (h:aA):aB 5 (x0::x1::x2::x3::x4::some w::l) h=some (w,h):=id rfl
@[simp high] theorem xv6 {x0 x1 x2 x3 x4 x5:Option W} (w:W) (l:DSt) (h:aA):aB 6 (x0::x1::x2::x3::x4::x5::some w::l) h=some (w,h):=id rfl
@[simp high] theorem xv7 {x0 x1 x2 x3 x4 x5 x6:Option W} (w:W) (l:DSt) (h:aA):aB 7 (x0::x1::x2::x3::x4::x5::x6::some w::l) h=some (w,h):=id rfl
@[simp high] theorem xv8 {x0 x1 x2 x3 x4 x5 x6 x7:Option W} (w:W) (l:DSt) (h:aA):aB 8 (x0::x1::x2::x3::x4::x5::x6::x7::some w::l) h=some (w,h):=id rfl
@[simp high] theorem bY4 {x0 x1 x2 x3 x4 x5 x6 x7 x8 x9:Option W} (w:W) (l:DSt) (h:aA):aB 10 (x0::x1::x2::x3::x4::x5::x6::x7::x8::x9::some w::l) h=some (w,h):=id rfl
@[simp high] theorem bY5 {x0 x1 x2 x3 x4 x5 x6 x7 x8 x9 x10 x11 x12:Option W} (w:W) (l:DSt) (h:aA):aB 13 (x0::x1::x2::x3::x4::x5::x6::x7::x8::x9::x10::x11::x12::some w::l) h=some (w,h):=id rfl
@[simp high] theorem bY6 {x0 x1 x2 x3 x4 x5 x6 x7 x8 x9 x10 x11 x12 x13 x14:Option W} (w:W) (l:DSt) (h:aA):aB 15 (x0::x1::x2::x3::x4::x5::x6::x7::x8::x9::x10::x11::x12::x13::x14::some w::l) h=some (w,h):=id rfl
theorem iJ {g:XG} {tt:XR Bool} {te:XR W} {all:List PyData} {h:aA} (p:PyData->Bool) (f:PyData->PyData) (I:DSt->Prop):∀ (xs:List PyData) (δ:DSt) (ac:List PyData),I δ ->
  (∀ x∈xs,∀ δ,I δ->∃ δ',g (.d x) δ h=some (δ',h)/\I δ'/\tt δ' h=some (p x,h)/\(p x=true->te δ' h=some (.d (f x),h)))->aR g tt te none all xs δ h ac=some (ac++(xs.filter p).map f,h)
 | [],δ,ac,_,_=>by simp [aR]
 | x::r,δ,ac,i,hx=>by
  obtain ⟨δ',e1,i',e2,e3⟩:=hx x List.mem_cons_self δ i;have ih:=fun ac=>iJ (all:=all) p f I r δ' ac i' fun y hy=>hx y (List.mem_cons_of_mem _ hy);rw [aR,fS,if_pos rfl,e1];simp only [bs,e2];cases hp:p x with
  | true=>rw [if_pos rfl,e3 hp];simp only [bs];rw [ih];simp [hp]
  | false=>rw [if_neg (by simp)];rw [ih];simp [hp]
def lI {g:XG} {te:XR W} {all:List PyData} {h:aA} (f:PyData->PyData) (I:DSt->Prop) (xs:List PyData) (δ:DSt) (i:I δ)
  (hx:∀ x∈xs,∀ δ,I δ->∃ δ',g (.d x) δ h=some (δ',h)/\I δ'/\te δ' h=some (.d (f x),h)):aR g (aD true) te none all xs δ h []=some (xs.map f,h):=by
 have:=iJ (g:=g) (tt:=aD true) (te:=te) (all:=all) (h:=h) (fun _=>true) f I xs δ [] i fun x m δ i=>by
  obtain ⟨δ',a,b,c⟩:=hx x m δ i;exact ⟨δ',a,b,rfl,fun _=>c⟩
 rw [this,List.filter_eq_self.mpr (fun _ _=>rfl),List.nil_append]
def rX {σ α:Type} {g:XG} {tb:XS} {all:List PyData} {P:DSt->aA->Prop} (F:α->PyData) (st:σ->α->σ) (R:σ->DSt->aA->Prop) (s:σ) (qs:List α) {δ:DSt} {h:aA} (hi:R s δ h) (hP:∀ δ h,R (qs.foldl st s) δ h->P δ h)
  (ht:∀ q∈qs,∀ s δ h,R s δ h->∃ δ1 h1,g (.d (F q)) δ h=some (δ1,h1)/\∃ δ2 h2,tb δ1 h1=some (.nx δ2,h2)/\R (st s q) δ2 h2):∃ δ' h',bR g tb none all (qs.map F) δ h=some (.nx δ',h')/\P δ' h':=by
 suffices H:∀ (qs:List α) (s:σ) (δ:DSt) (h:aA),R s δ h->(∀ q∈qs,∀ s δ h,R s δ h->∃ δ1 h1,g (.d (F q)) δ h=some (δ1,h1)/\∃ δ2 h2,tb δ1 h1=some (.nx δ2,h2)/\R (st s q) δ2 h2)->∃ δ' h',bR g tb none all (qs.map F) δ h=some (.nx δ',h')/\R (qs.foldl st s) δ' h' by
  obtain ⟨δ',h',e,r⟩:=H qs s δ h hi ht;exact ⟨δ',h',e,hP _ _ r⟩
 clear hP hi ht;intro qs;induction qs with
 | nil=>exact fun s δ h i _=>⟨δ,h,by simp [bR],i⟩
 | cons q r ih =>
  intro s δ h i ht;obtain ⟨δ1,h1,e1,δ2,h2,e2,i2⟩:=ht q List.mem_cons_self s δ h i;obtain ⟨δ3,h3,e3,i3⟩:=ih _ δ2 h2 i2 fun y hy=>ht y (List.mem_cons_of_mem _ hy);refine ⟨δ3,h3,?_,i3⟩;rw [List.map_cons,bR,fS,if_pos rfl,e1];simp only [bs,e2];exact e3
def dX {g:XG} {tb:XS} {all:List PyData} {P:DSt->aA->Prop} (I:Nat->DSt->aA->Prop) {rest:List PyData} {δ:DSt} {h:aA} (hi:I 0 δ h) (hP:∀ δ h,I rest.length δ h->P δ h)
  (ht:∀ n (hn:n < rest.length) δ h,I n δ h->∃ δ1 h1,g (.d rest[n]) δ h=some (δ1,h1)/\∃ δ2 h2,tb δ1 h1=some (.nx δ2,h2)/\I (n+1) δ2 h2):∃ δ' h',bR g tb none all rest δ h=some (.nx δ',h')/\P δ' h':=by
 suffices H:∀ (r:List PyData) (n:Nat) (δ:DSt) (h:aA),(∃ p,rest=p++r/\p.length=n)->I n δ h->∃ δ' h',bR g tb none all r δ h=some (.nx δ',h')/\I rest.length δ' h' by
  obtain ⟨δ',h',e,i⟩:=H rest 0 δ h ⟨[],rfl,rfl⟩ hi;exact ⟨δ',h',e,hP δ' h' i⟩
 intro r;induction r with
 | nil =>
  rintro n δ h ⟨p,e1,e2⟩ i;subst e2;simp at e1;subst e1;exact ⟨δ,h,by simp [bR],i⟩
 | cons x r ih =>
  rintro n δ h ⟨p,e1,e2⟩ i;have hn:n < rest.length:=by rw [e1];simp;omega
  have hx:rest[n]=x:=by subst e2;subst e1;simp
  obtain ⟨δ1,h1,e1',δ2,h2,e2',i2⟩:=ht n hn δ h i;rw [hx] at e1';obtain ⟨δ3,h3,e3,i3⟩:=ih (n+1) δ2 h2 ⟨p++[x],by simp [e1],by simp [e2]⟩ i2;refine ⟨δ3,h3,?_,i3⟩;rw [bR,fS,if_pos rfl,e1'];simp only [bs,e2'];exact e3
def rng_len (lo:Int) (n:Nat):(rng lo n).length=n:=by simp [rng]
def rng_get (lo:Int) (n k:Nat) (hk:k < (rng lo n).length):(rng lo n)[k]=.int (lo+k):=by simp [rng]
@[simp] theorem at4 (a b c e f:PyData) (r:List PyData):atI (a::b::c::e::f::r) 4=some f:=dK (j:=4) (by simp)
@[simp] theorem at5 (a b c e f g:PyData) (r:List PyData):atI (a::b::c::e::f::g::r) 5=some g:=dK (j:=5) (by simp)
end CI

namespace CI
open PySem DL
variable {h L:aA} {i:Nat} {c c':Cell}
open Classical in
@[simp] theorem bU7 (h0:aA) (z:PyData) (h1:aA):aO h0 (.rt (.d z),h1)=if okP h0 h1 then some (z,h1.take h0.length) else none:=rfl
open Classical in
@[simp] theorem bU8 (h0:aA) (δ:DSt) (h1:aA):aO h0 (.nx δ,h1)=if okP h0 h1 then some (PyData.none,h1.take h0.length) else none:=rfl
def tR (xs:List PyData):okP (h.set i c) (h.set i (.l xs)):=by
 have:=aS7 i xs (dM (h.set i c))
 rwa [List.set_set] at this
@[simp] theorem bW6 (xs:List PyData):okP (h.set i c) (h.set i (.l xs))=True:=eq_true (tR xs)
@[simp] theorem bW7 (s:S3):okP (h.set i c) (h.set i (stL s))=True:=eq_true (tR _)
@[simp] theorem bW8 (xs:List PyData):okP (h.set i c) (h.set i (.l xs)++L)=True:=eq_true (gT L (by simp) (tR xs))
@[simp] theorem aT4 (s:S3):okP (h.set i c) (h.set i (stL s)++L)=True:=eq_true (gT L (by simp) (tR _))
@[simp] theorem bW9 (s:S3) (hi:i < h.length):okP (h.set i c) ((h++L).set i (stL s))=True:=by rw [<- mW hi,aT4]
@[simp] theorem bU9:(h.set i c).take h.length=h.set i c:=List.take_of_length_le (by simp)
@[simp] theorem bG1:(h.set i c++L).take h.length=h.set i c:=by rw [List.take_append_of_le_length (by simp),bU9]
@[simp] theorem bX0 (hi:i < h.length):((h++L).set i c).take h.length=h.set i c:=by rw [<- mW hi,bG1]
end CI

namespace SJ
open PySem
set_option genInjectivity true in
inductive One where
 | read (k:Nat) | write (k:Nat) (v:Int) | add (k:Nat) (n:Int) | swap (k:Nat) (o n:Int)
set_option genInjectivity true in
inductive Call where
 | one (c:One) | span (lo hi:Nat) | deal (cs:List One)
set_option genInjectivity true in
inductive Stp where
 | call (c:Call) | look (c:Call) | lay (ps:List (Nat×Int))
def One.dat:One->PyData
 | .read k=>.tuple [.str "read",.int k]
 | .write k v=>.tuple [.str "write",.int k,.int v]
 | .add k n=>.tuple [.str "add",.int k,.int n]
 | .swap k o n=>.tuple [.str "swap",.int k,.int o,.int n]
def One.key:One->Nat
 | .read k=>k | .write k _=>k | .add k _=>k | .swap k _ _=>k
def Call.dat:Call->PyData
 | .one c=>c.dat
 | .span lo hi=>.tuple [.str "span",.int lo,.int hi]
 | .deal cs=>.tuple [.str "deal",.tuple (cs.map One.dat)]
def Stp.dat:Stp->PyData
 | .call c=>c.dat
 | .look c=>.tuple [.str "look",c.dat]
 | .lay ps=>.tuple [.str "lay",.tuple (ps.map fun p=>.tuple [.int p.1,.int p.2])]
def One.ok (c:One):Prop:=c.key < 8
noncomputable def Call.ok:Call->Prop
 | .one c=>c.ok
 | .span lo hi=>lo < hi/\hi<=8
 | .deal cs=>cs.length<=4/\1<=cs.length/\∀ c∈cs,c.ok
noncomputable def got (v:Int):PyData:=.tuple [.str "got",.int v]
noncomputable def yes:PyData:=.tuple [.str "yes"]
def no:PyData:=.tuple [.str "no"]
end SJ

namespace SJ
open PySem
mutual
noncomputable def sok:PyData->Bool
 | .str x=>PyData.strOk x
 | .list xs=>decide (xs.length<=1000)&&soks xs
 | .tuple xs=>decide (xs.length<=1000)&&soks xs
 | _=>true
noncomputable def soks:List PyData->Bool
 | []=>true
 | x::r=>sok x&&soks r
end
def mY {x:PyData} {xs:List PyData}:soks (x::xs)=true ↔ sok x=true/\soks xs=true:=by rw [soks,Bool.and_eq_true]
noncomputable def dZ:PyData->Bool
 | .int _=>true
 | _=>false
noncomputable def aS (x:PyData) (lo hi:Int):Bool:=match x with
 | .int i=>decide (lo<=i)&&decide (i<=hi)
 | _=>false
def eB (x:PyData):Bool:=aS x 0 7
noncomputable def bG:PyData->Int->Bool
 | .tuple xs,n=>decide ((xs.length:Int)=n)
 | _,_=>false
noncomputable def cZ:PyData->PyData
 | .tuple (.str s::_)=>.str s
 | _=>.none
noncomputable def aK (x:PyData) (s:Str) (n:Int):Bool:=match x with
 | .tuple (.str t::r)=>(t==s)&&decide ((r.length:Int)+1=n)
 | _=>false
def nb (s:Str):Option Int:=if s=Str.ofString "read" then some 0 else if s=Str.ofString "write" then some 1 else if s=Str.ofString "add" then some 1 else if s=Str.ofString "swap" then some 2 else none
def bE:PyData->Bool
 | .tuple (.str s::r)=>match nb s with
  | some n=>(decide ((r.length:Int)+1=2+n))&&(match r with
   | k::vs=>eB k&&vs.all dZ
   | []=>false)
  | none=>false
 | _=>false
noncomputable def dA:PyData->Bool
 | .tuple [.str s,.int a,.int b]=>(s==Str.ofString "span")&&decide (0<=a)&&decide (a < b)&&decide (b<=8)
 | _=>false
def dB:PyData->Bool
 | .tuple [.str s,.tuple ps]=>(s==Str.ofString "deal")&&decide (1<=ps.length)&&decide (ps.length<=4)&&ps.all bE
 | _=>false
def bZ (x:PyData):Bool:=bE x||dA x||dB x
def gU:PyData->Bool
 | .tuple [.str s,c]=>(s==Str.ofString "look")&&bZ c
 | _=>false
def dD:PyData->Bool
 | .tuple [k,v]=>eB k&&dZ v
 | _=>false
noncomputable def cK:PyData->Int
 | .int i=>i
 | _=>0
noncomputable def lJ:PyData->PyData
 | .tuple (k::_)=>k
 | _=>.none
noncomputable def aF4 (ns:List Int):Bool:=(List.range (ns.length - 1)).all fun k=>decide (ns.getD k 0 < ns.getD (k+1) 0)
def iK:PyData->Bool
 | .tuple [.str s,.tuple ps]=>(s==Str.ofString "lay")&&!ps.isEmpty&&ps.all dD&&aF4 (ps.map fun p=>cK (lJ p))
 | _=>false
def eT (x:PyData):Bool:=bZ x||gU x||iK x
end SJ

namespace SJ
open PySem PySem.Spec PyProof.Rows L2 DL
def aF5:nb "read"=some 0:=by decide +kernel
def zL:nb "write"=some 1:=by decide +kernel
def aT5:nb "add"=some 1:=by decide +kernel
def aF6:nb "swap"=some 2:=by decide +kernel
def aF7:nb "look"=none:=by decide +kernel
def aT6:nb "lay"=none:=by decide +kernel
def aF8:PyData.strOk "read"=true:=by decide +kernel
def zM:PyData.strOk "write"=true:=by decide +kernel
def aT7:PyData.strOk "add"=true:=by decide +kernel
def aF9:PyData.strOk "swap"=true:=by decide +kernel
end SJ

namespace SJ
open PySem PySem.Spec PyProof.Rows L2 DL
def aG0:PyData.strOk "span"=true:=by decide +kernel
def aG1:PyData.strOk "deal"=true:=by decide +kernel
def aG2:PyData.strOk "look"=true:=by decide +kernel
def aT8:PyData.strOk "lay"=true:=by decide +kernel
def zN {k:Nat} (h:k < 8):eB (.int k)=true:=by
 simp [eB,aS];omega
def lK {o:One} (h:o.ok):bE o.dat=true/\sok o.dat=true:=by
 have h':o.key < 8:=h;cases o<;>simp [One.key] at h'<;>simp [One.dat,bE,aF5,zL,aT5,aF6,zN h',dZ,sok,soks,aF8,zM,aT7,aF9]
theorem qA:∀ {cs:List One},(∀ c∈cs,c.ok)->(cs.map One.dat).all bE=true/\soks (cs.map One.dat)=true
 | [],_=>⟨rfl,rfl⟩
 | c::r,h=>by
  obtain ⟨h1,h2⟩:=lK (h c List.mem_cons_self);obtain ⟨h3,h4⟩:=qA fun z hz=>h z (List.mem_cons_of_mem _ hz);rw [List.map_cons,List.all_cons,h1,h3,mY];exact ⟨rfl,h2,h4⟩
def eX {o:SJ.Call} (h:o.ok):bZ o.dat=true/\eT o.dat=true/\sok o.dat=true:=by
 have hc:bZ o.dat=true/\sok o.dat=true:=by
  cases o with
  | one c =>
   obtain ⟨h1,h2⟩:=lK (o:=c) h;exact ⟨by simp [bZ,Call.dat,h1],h2⟩
  | span lo hi =>
   obtain ⟨h1,h2⟩:=h;refine ⟨?_,by simp [Call.dat,sok,soks,aG0]⟩;have e1:(0:Int)<=lo:=by omega
   have e2:(lo:Int) < hi:=by omega
   have e3:(hi:Int)<=8:=by omega
   simp [bZ,Call.dat,dA,e2,e3]
  | deal cs =>
   obtain ⟨h1,h2,h3⟩:=h;obtain ⟨h4,h5⟩:=qA h3;refine ⟨?_,by simp [Call.dat,sok,soks,aG1,h5];omega⟩;simp only [bZ,Call.dat,dB,h4,List.length_map];simp [h1,h2]
 exact ⟨hc.1,by simp [eT,hc.1],hc.2⟩
def fT {o:SJ.Call} (h:o.ok):bZ (.tuple [.str "look",o.dat])=false/\eT (.tuple [.str "look",o.dat])=true/\sok (.tuple [.str "look",o.dat])=true:=by
 obtain ⟨h1,h2,h3⟩:=eX h;have hs:dA (.tuple [.str "look",o.dat])=false:=by
  unfold dA;split
  ·simp_all
  ·rfl
 have hd:dB (.tuple [.str "look",o.dat])=false:=by
  unfold dB;split
  ·rename_i e;injection e with e
   injection e with e1 e2
   injection e1 with e1
   subst e1;simp
  ·rfl
 have hi:bE (.tuple [.str "look",o.dat])=false:=by simp [bE,aF7]
 have hc:bZ (.tuple [.str "look",o.dat])=false:=by simp [bZ,hs,hd,hi]
 refine ⟨hc,?_,by simp [sok,soks,aG2,h3]⟩;simp only [eT,hc,gU,h1];simp
noncomputable def prP (p:Nat×Int):PyData:=.tuple [.int p.1,.int p.2]
theorem jF:∀ {ps:List (Nat×Int)},(∀ p∈ps,p.1 < 8)->(ps.map prP).all dD=true/\soks (ps.map prP)=true/\((ps.map prP).map fun p=>cK (lJ p))=ps.map fun p=>(p.1:Int)
 | [],_=>⟨rfl,rfl,rfl⟩
 | p::r,h=>by
  obtain ⟨h3,h4,h5⟩:=jF fun z hz=>h z (List.mem_cons_of_mem _ hz);have hk:=zN (h p List.mem_cons_self);rw [List.map_cons,List.all_cons,h3,mY,List.map_cons,h5];refine ⟨by simp [prP,dD,hk,dZ],⟨by simp [prP,sok,soks],h4⟩,?_⟩;rfl
def tS {ks:List Nat} (h:ks.Pairwise (· < ·)):aF4 (ks.map fun (k:Nat)=>(k:Int))=true:=by
 unfold aF4;rw [List.all_eq_true];intro i hi;have hi':i+1 < ks.length:=by
  have:=List.mem_range.mp hi;simp at this;omega
 have:=List.pairwise_iff_getElem.mp h i (i+1) (by omega) hi' (by omega);simp [List.getD,hi',show i < ks.length by omega];omega
def zO {ps:List (Nat×Int)} (h0:ps≠[]) (h1:(ps.map (·.1)).Pairwise (· < ·)) (h2:∀ p∈ps,p.1 < 8) (h3:ps.length<=8) :
  bZ (.tuple [.str "lay",.tuple (ps.map prP)])=false/\eT (.tuple [.str "lay",.tuple (ps.map prP)])=true/\sok (.tuple [.str "lay",.tuple (ps.map prP)])=true:=by
 obtain ⟨q1,q2,q3⟩:=jF h2;have hd:dB (.tuple [.str "lay",.tuple (ps.map prP)])=false:=by
  unfold dB;simp
 have hc:bZ (.tuple [.str "lay",.tuple (ps.map prP)])=false:=by simp [bZ,hd,bE,aT6,dA]
 refine ⟨hc,?_,by simp [sok,soks,aT8,q2];omega⟩;have hr:=tS h1;rw [List.map_map] at hr;have he:(ps.map prP).isEmpty=false:=by simpa using h0
 simp only [eT,hc,iK,q1,q3,he];have e:(List.map (fun p:Nat×Int=>(p.1:Int)) ps)=List.map ((fun k:Nat=>(k:Int)) ∘ fun x=>x.1) ps:=rfl;rw [e,hr];simp
end SJ

namespace SJ
open PySem
set_option genInjectivity true in
inductive An1 where
 | got (v:Int) | dn | yes | no
def An1.dat:An1->PyData
 | .got v=>.tuple [.str "got",.int v]
 | .dn=>.tuple [.str "done"]
 | .yes=>.tuple [.str "yes"]
 | .no=>.tuple [.str "no"]
def An1.fits:One->An1->Prop
 | .read _,.got _=>True
 | .add _ _,.got _=>True
 | .write _ _,.dn=>True
 | .swap _ _ _,.yes=>True
 | .swap _ _ _,.no=>True
 | _,_=>False
set_option genInjectivity true in
inductive Ans where
 | one (a:An1) | all (ns:List Int) | each (as:List An1)
def Ans.dat:Ans->PyData
 | .one a=>a.dat
 | .all ns=>.tuple [.str "all",.tuple (ns.map .int)]
 | .each as=>.tuple [.str "each",.tuple (as.map An1.dat)]
set_option genInjectivity true in
inductive Fit2:List One->List An1->Prop
 | nil:Fit2 [] []
 | cons {o:One} {a:An1} {os:List One} {as:List An1} (h:An1.fits o a) (t:Fit2 os as):Fit2 (o::os) (a::as)
def Ans.fits:Call->Ans->Prop
 | .one o,.one a=>An1.fits o a
 | .span lo hi,.all ns=>ns.length=hi - lo
 | .deal cs,.each as=>Fit2 cs as
 | _,_=>False
def cL (o:One) (t:PyData):Bool:=match o with
 | .read _=>(match t with
  | .tuple [.str s,v]=>(s==Str.ofString "got")&&dZ v
  | _=>false)
 | .add _ _=>(match t with
  | .tuple [.str s,v]=>(s==Str.ofString "got")&&dZ v
  | _=>false)
 | .write _ _=>aK t "done" 1
 | .swap _ _ _=>aK t "yes" 1||aK t "no" 1
def eK:List One->List PyData->Bool
 | o::os,t::ts=>cL o t&&eK os ts
 | _,_=>true
def aY (c:Call) (t:PyData):Bool:=match c with
 | .one o=>cL o t
 | .span lo hi=>(match t with
  | .tuple [.str s,.tuple xs]=>(s==Str.ofString "all")&&decide ((xs.length:Int)=(hi:Int) - lo)&&xs.all dZ
  | _=>false)
 | .deal cs=>(match t with
  | .tuple [.str s,.tuple xs]=>(s==Str.ofString "each")&&decide (xs.length=cs.length)&&eK cs xs
  | _=>false)
theorem Fit2.length:∀ {os:List One} {as:List An1},Fit2 os as->as.length=os.length
 | _,_,.nil=>rfl
 | _,_,.cons _ t=>by simp [t.length]
def qB {o:One} {a:An1} (h:An1.fits o a):cL o a.dat=true:=by
 cases o<;>cases a<;>first | exact False.elim h | rfl
theorem mZ:∀ {os:List One} {as:List An1},Fit2 os as->eK os (as.map An1.dat)=true
 | _,_,.nil=>rfl
 | _,_,.cons h t=>by simp [eK,qB h,mZ t]
def vJ {c:Call} {a:Ans} (h:Ans.fits c a) (hc:c.ok):aY c a.dat=true:=by
 cases c<;>cases a<;>first | exact False.elim h | skip
 ·exact qB h
 ·rename_i lo hi ns;have:=hc.1
  replace h:ns.length=hi - lo:=h
  simp [aY,Ans.dat,h,dZ];omega
 ·rename_i cs as
  replace h:Fit2 cs as:=h
  simp [aY,Ans.dat,mZ h,h.length]
end SJ

noncomputable section
namespace K30
open PySem PySem.Spec PyProof.Rows L2 DL CI SJ
noncomputable def body:List Stmt:=PySem.Challenge.pw_storejudge_k30_what_is_no_step.main.body
noncomputable def cv (x:Str):List Str:=if x="_law_draws" then ["_law_found"] else if x="_law_items" then ["_law_items_here"] else if x="_law_problem" then ["_law_pairs","_law_triples"] else if x="_law_none" then ["_law_some"] else if x="deal_done" then ["answers"] else if x="law" then ["_law_steps"] else []
def T:Top:=bE0 body (fun _=>[]) cv 100000 60
end K30

namespace K30
open PySem PySem.Spec PyProof.Rows L2 DL CI
noncomputable def YE:Fl×aA->Option (Fl×aA):=fun p=>match p.1 with
  | Fl.nx δ'=>some (Fl.nx δ',p.2)
  | f=>some (f,p.2)
def YN:W->XR (List W):=fun w=>xb (aD []) fun ws=>aD (w::ws)
@[simp] theorem bY7 :YN=fun w=>xb (aD []) fun ws=>aD (w::ws):=rfl
def YC (w:W):List W->XR (List W):=fun ws=>aD (w::ws)
@[simp] theorem bY8 (w:W):YC w=fun ws=>aD (w::ws):=rfl
def YF (d:Nat) (s:String):List W->XR W:=fun ws x h=>Option.bind (aE T d (Str.ofString s) ws h) fun p=>some (W.d p.1,p.2)
@[simp] theorem bY9 (d:Nat) (s:String):YF d s=fun ws x h=>Option.bind (aE T d (Str.ofString s) ws h) fun p=>some (W.d p.1,p.2):=rfl
def YI (n:Int):W->XR W:=fun x=>xb (aD (W.d (PyData.int n))) fun y x_1 h=>xIx x y h
@[simp] theorem bZ0 (n:Int):YI n=fun x=>xb (aD (W.d (PyData.int n))) fun y x_1 h=>xIx x y h:=rfl
def YB (o:Operator) (n:Int):W->XR W:=fun u=>xb (aD (W.d (PyData.int n))) fun w x h=>cW o u w h
@[simp] theorem bZ1 (o:Operator) (n:Int):YB o n=fun u=>xb (aD (W.d (PyData.int n))) fun w x h=>cW o u w h:=rfl
def YO (o:Operator) (u:W):W->XR W:=fun w x h=>cW o u w h
@[simp] theorem bZ2 (o:Operator) (u:W):YO o u=fun w x h=>cW o u w h:=rfl
def YT:List PyData->XR W:=fun xs=>aD (W.d (PyData.tuple xs))
@[simp] theorem bZ3 :YT=fun xs=>aD (W.d (PyData.tuple xs)):=rfl
noncomputable def YW:W×aA->Option (Fl×aA):=fun p=>some (Fl.rt p.1,p.2)
@[simp] theorem bZ4 :YW=fun p=>some (Fl.rt p.1,p.2):=rfl
def YS (s:String):XR W:=aD (W.d (PyData.str (Str.ofString s)))
@[simp] theorem bZ5 (s:String):YS s=aD (W.d (PyData.str (Str.ofString s))):=rfl
def YJ (n:Int):XR W:=aD (W.d (PyData.int n))
@[simp] theorem bZ6 (n:Int):YJ n=aD (W.d (PyData.int n)):=rfl
noncomputable def YK (f:List W->aA->Option (W×aA)):List W->XR W:=fun ws x h=>f ws h
@[simp] theorem bZ7 (f:List W->aA->Option (W×aA)):YK f=fun ws x h=>f ws h:=rfl
noncomputable def YQ (k:DSt->Fl×aA->Option (Fl×aA)):Fl×aA->Option (Fl×aA):=fun p=>match p.1 with
  | Fl.nx δ'=>k δ' p
  | f=>some (f,p.2)
noncomputable def YP {α β:Type} (x:Option α) (f:α->Option β):Option β:=Option.bind x f
@[simp] theorem bZ8 {α β:Type} (x:Option α) (f:α->Option β):YP x f=Option.bind x f:=rfl
noncomputable def YG (i:Nat):XG:=fun w δ h=>some (List.set δ i (some w),h)
@[simp] theorem bG2 (i:Nat):YG i=fun w δ h=>some (List.set δ i (some w),h):=rfl
def YZ:XR W:=aD (W.d PyData.none)
@[simp] theorem bZ9:YZ=aD (W.d PyData.none):=rfl
def YV (i:Nat) (n:Int):XR W:=xb (aB i) (YI n)
@[simp] theorem cA0 (i:Nat) (n:Int):YV i n=xb (aB i) (YI n):=rfl
def YA (e:XR (List W)):W->XR W:=fun w δ h=>if uJ (Str.ofString "append") w h=true then Option.bind (e δ h) fun p=>fZ w p.1 p.2 else none
@[simp] theorem cA1 (e:XR (List W)):YA e=fun w δ h=>if uJ (Str.ofString "append") w h=true then Option.bind (e δ h) fun p=>fZ w p.1 p.2 else none:=rfl
def YR :W->XR (List PyData×Cw):=fun w x h=>match w with
  | W.d (PyData.int j)=>if fY 0 j=true then some ((rng 0 (Int.toNat j),none),h) else none
  | x=>none
@[simp] theorem cA2 :YR =fun w x h=>match w with
  | W.d (PyData.int j)=>if fY 0 j=true then some ((rng 0 (Int.toNat j),none),h) else none
  | x=>none:=rfl
def YD :W->XR Bool:=fun w=>match w with
  | W.d (PyData.bool b)=>aD b
  | x=>xno
@[simp] theorem cA3 :YD =fun w=>match w with
  | W.d (PyData.bool b)=>aD b
  | x=>xno:=rfl
def YU :W->XR (Option Int):=fun w=>match w with
  | W.d (PyData.int i)=>aD (some i)
  | x=>xno
@[simp] theorem cA4 :YU =fun w=>match w with
  | W.d (PyData.int i)=>aD (some i)
  | x=>xno:=rfl
def YX (x:W):W->XR W:=fun y _ h=>xIx x y h
@[simp] theorem cA5 (x:W):YX x=fun y _ h=>xIx x y h:=rfl
def YS3 (x:W) (l:Option Int):Option Int->XR W:=fun u _ h=>xSl x l u h
@[simp] theorem bX1 (x:W) (l:Option Int):YS3 x l=fun u _ h=>xSl x l u h:=rfl
def YT2 (b:Bool) (δ:DSt):Bool×aA->Option (Fl×aA):=fun p=>if p.1=true then YP (YP (aD (W.d (PyData.bool b)) δ p.2) YW) YE else some (Fl.nx δ,p.2)
@[simp] theorem bX2 (b:Bool) (δ:DSt):YT2 b δ=fun p=>if p.1=true then YP (YP (aD (W.d (PyData.bool b)) δ p.2) YW) YE else some (Fl.nx δ,p.2):=rfl
def YI2 (s:String):W->XR W:=fun w x h=>Option.bind (ref h w) fun d=>some (W.d (PyData.bool (isi d s)),h)
@[simp] theorem bX3 (s:String):YI2 s=fun w x h=>Option.bind (ref h w) fun d=>some (W.d (PyData.bool (isi d s)),h):=rfl
def YNg :W->XR W:=fun w=>match w with
  | W.d (PyData.int i)=>aD (W.d (PyData.int (-i)))
  | x=>xno
@[simp] theorem bX4 :YNg =fun w=>match w with
  | W.d (PyData.int i)=>aD (W.d (PyData.int (-i)))
  | x=>xno:=rfl
def Y1 (a:XR W):XR (List W):=xb a YN
@[simp] theorem cA6 (a:XR W):Y1 a=xb a YN:=rfl
def Y2 (a b:XR W):XR (List W):=xb a fun w=>xb (Y1 b) (YC w)
@[simp] theorem cA7 (a b:XR W):Y2 a b=xb a fun w=>xb (Y1 b) (YC w):=rfl
def Y3 (a b c:XR W):XR (List W):=xb a fun w=>xb (Y2 b c) (YC w)
@[simp] theorem cA8 (a b c:XR W):Y3 a b c=xb a fun w=>xb (Y2 b c) (YC w):=rfl
def Y4 (a b c e:XR W):XR (List W):=xb a fun w=>xb (Y3 b c e) (YC w)
@[simp] theorem cA9 (a b c e:XR W):Y4 a b c e=xb a fun w=>xb (Y3 b c e) (YC w):=rfl
def Y5 (a b c e f:XR W):XR (List W):=xb a fun w=>xb (Y4 b c e f) (YC w)
@[simp] theorem cB0 (a b c e f:XR W):Y5 a b c e f=xb a fun w=>xb (Y4 b c e f) (YC w):=rfl
def Y6 (a b c e f g:XR W):XR (List W):=xb a fun w=>xb (Y5 b c e f g) (YC w)
@[simp] theorem cB1 (a b c e f g:XR W):Y6 a b c e f g=xb a fun w=>xb (Y5 b c e f g) (YC w):=rfl
def Y7 (a b c e f g i:XR W):XR (List W):=xb a fun w=>xb (Y6 b c e f g i) (YC w)
@[simp] theorem cB2 (a b c e f g i:XR W):Y7 a b c e f g i=xb a fun w=>xb (Y6 b c e f g i) (YC w):=rfl
def rY (d:Nat) (w0:W) (h:aA):aE T (d+1) "is_whole" [w0] h =
 YP
 (YP
 (YP
 (xb (xb (aB 0) (YI2 "int"))
 (fun (w:W) =>
 match w with
     | W.d (PyData.bool true) =>
      xb (xb (aB 0) (YI2 "bool")) fun (w:W) =>
 match w with
       | W.d (PyData.bool b)=>aD (W.d (PyData.bool !b))
       | x=>xno
     | W.d (PyData.bool false)=>aD (W.d (PyData.bool false))
     | x=>xno)
 [some w0] h)
 YW)
 YE)
 (aO h):=by kernel_rfl
def oP (d:Nat) (w0 w1 w2:W) (h:aA):aE T (d+1) "is_between" [w0,w1,w2] h =
 YP
 (YP
 (YP
 (xb (xb (Y1 (aB 0)) (YF d "is_whole"))
 (fun (w:W) =>
 match w with
     | W.d (PyData.bool true)=>cN (xC2 CmpOp.LtE CmpOp.LtE (aB 1) (aB 0) (aB 2))
     | W.d (PyData.bool false)=>aD (W.d (PyData.bool false))
     | x=>xno)
 [some w0,some w1,some w2] h)
 YW)
 YE)
 (aO h):=by kernel_rfl
def lZ (d:Nat) (w0 w1:W) (h:aA):aE T (d+1) "is_tuple_of" [w0,w1] h =
 YP
 (YP
 (YP
 (xb (xb (aB 0) (YI2 "tuple"))
 (fun (w:W) =>
 match w with
     | W.d (PyData.bool true)=>cN (xC1 CmpOp.Eq (xb (Y1 (aB 0)) (YK bN)) (aB 1))
     | W.d (PyData.bool false)=>aD (W.d (PyData.bool false))
     | x=>xno)
 [some w0,some w1] h)
 YW)
 YE)
 (aO h):=by kernel_rfl
def qC (d:Nat) (w0:W) (h:aA):aE T (d+1) "are_whole" [w0] h =
 YP
 (YP (YP (xb (Y1 (aM (xb (bK (aB 0)) fun (p:List PyData×Cw) (δ:DSt) (h:aA)=>aR (YG 0) (aD true) (xb (Y1 (aB 0)) (YF d "is_whole")) p.2 p.1 p.1 (aU [none] δ) h []))) (YK fX) [some w0] h) YW) YE)
 (aO h):=by kernel_rfl
def oQ (d:Nat) (w0:W) (h:aA):aE T (d+1) "are_rising" [w0] h =
 YP
 (YP
 (YP
 (xb
 (Y1 (aM
 (xb
 (xb (xb (xb (Y1 (aB 0)) (YK bN)) (YB .Sub 1)) YR)
 fun (p:List PyData×Cw) (δ:DSt) (h:aA)=>aR (YG 0) (aD true) (cN (xC1 CmpOp.Lt (xb (aB 1) fun x=>xb (aB 0) (YX x)) (xb (aB 1) fun x=>xb (xb (aB 0) (YB .Add 1)) (YX x)))) p.2 p.1 p.1 (aU [none,some 0] δ) h [])))
 (YK fX) [some w0] h)
 YW)
 YE)
 (aO h):=by kernel_rfl
def zP (d:Nat) (w0:W) (h:aA):aE T (d+1) "is_key" [w0] h =
 YP
 (YP (YP (xb (Y3 (aB 0) (YJ 0) (YJ 7)) ((YF d "is_between")) [some w0] h) YW) YE)
 (aO h):=by kernel_rfl
def fU (d:Nat) (w0:W) (h:aA):aE T (d+1) "word_of" [w0] h =
 YP
 (YP
 (YP
 (xb
 (xb (xb (aB 0) (YI2 "tuple")) YD)
 (fun c =>
 if c=true then
 xb (xC1 CmpOp.Gt (xb (Y1 (aB 0)) (YK bN)) (YJ 0)) fun c =>
 if c=true then
 xb (xb (YV 0 0) (YI2 "str")) YD
 else aD false
 else aD false)
 [some w0] h)
 fun p =>
 if p.1=true then
 YP (YP (xb (aB 0) (YI 0) [some w0] p.2) YW) YE
 else some (Fl.nx [some w0],p.2))
 (YQ fun δ' p =>
 YP (YP (YZ δ' p.2) YW) YE))
 (aO h):=by kernel_rfl
def qD (d:Nat) (w0 w1 w2:W) (h:aA):aE T (d+1) "is_worded" [w0,w1,w2] h =
 YP
 (YP
 (YP
 (xb (cN (xC1 CmpOp.Eq (xb (Y1 (aB 0)) (YF d "word_of")) (aB 1)))
 (fun (w:W) =>
 match w with
     | W.d (PyData.bool true)=>cN (xC1 CmpOp.Eq (xb (Y1 (aB 0)) (YK bN)) (aB 2))
     | W.d (PyData.bool false)=>aD (W.d (PyData.bool false))
     | x=>xno)
 [some w0,some w1,some w2] h)
 YW)
 YE)
 (aO h):=by kernel_rfl
def qE (d:Nat) (w0:W) (h:aA):aE T (d+1) "is_single" [w0] h =
 YP
 (YP (aN 1 (xb (Y1 (aB 0)) (YF d "word_of")) [some w0,none] h) (YQ fun δ' p =>
   YP
    (YP
     (xb (gY (fun (z:Str)=>List.lookup z [(Str.ofString "read",PyData.int 0),(Str.ofString "write",PyData.int 1),(Str.ofString "add",PyData.int 1),(Str.ofString "swap",PyData.int 2)]) (aB 1))
      (fun c =>
       if c=true then aD true
       else
        xC1 CmpOp.NotEq (xb (Y1 (aB 0)) (YK bN))
         (xb (YJ 2) fun (u:W) =>
          xb
           (xb (aB 1) fun (w:W) =>
            match w with
            | W.d (PyData.str z) =>
             match List.lookup z [(Str.ofString "read",PyData.int 0),(Str.ofString "write",PyData.int 1),(Str.ofString "add",PyData.int 1),(Str.ofString "swap",PyData.int 2)] with
             | some i=>aD (W.d i)
             | none=>xno
            | x=>xno)
           (YO .Add u)))
      δ' p.2)
     (YT2 false δ'))
    (YQ fun δ' p =>
     YP
      (YP
       (xb (xb (Y1 (YV 0 1)) (YF d "is_key"))
        (fun (w:W) =>
         match w with
         | W.d (PyData.bool true) =>
          xb
           (Y1 (xb (aB 0) fun (x:W) =>
             xb
              (xb (YJ 2) YU)
              fun (l:Option Int)=>xb (aD none) (YS3 x l)))
           (YF d "are_whole")
         | W.d (PyData.bool false)=>aD (W.d (PyData.bool false))
         | x=>xno)
        δ' p.2)
       YW)
      YE)))
 (aO h):=by kernel_rfl
def vK (d:Nat) (w0:W) (h:aA):aE T (d+1) "is_span" [w0] h =
 YP
 (YP
 (YP
 (xb
 (xb
 (xb (xb (Y3 (aB 0) (YS "span") (YJ 3)) (YF d "is_worded")) YD)
 fun (b:Bool)=>aD !b)
 (fun c =>
 if c=true then aD true
 else
 xb
 (xb
 (xb
 (Y1 (xb (aB 0) fun (x:W) =>
 xb
 (xb (YJ 1) YU)
 fun (l:Option Int)=>xb (aD none) (YS3 x l)))
 (YF d "are_whole"))
 YD)
 fun (b:Bool)=>aD !b)
 [some w0] h)
 (YT2 false [some w0]))
 (YQ fun δ' p =>
 YP (YP (cN (xC3 CmpOp.LtE CmpOp.Lt CmpOp.LtE (YJ 0) (YV 0 1) (YV 0 2) (xb (YJ 7) (YB .Add 1))) δ' p.2) YW) YE))
 (aO h):=by kernel_rfl
def vL (d:Nat) (w0:W) (h:aA):aE T (d+1) "is_deal" [w0] h =
 YP
 (YP
 (YP
 (xb
 (xb
 (xb (xb (Y3 (aB 0) (YS "deal") (YJ 2)) (YF d "is_worded")) YD)
 fun (b:Bool)=>aD !b)
 (fun c =>
 if c=true then aD true
 else
 xb
 (xb (xb (YV 0 1) (YI2 "tuple")) YD)
 fun (b:Bool)=>aD !b)
 [some w0] h)
 (YT2 false [some w0]))
 (YQ fun δ' p =>
 YP
 (YP
 (xb (cN (xC2 CmpOp.LtE CmpOp.LtE (YJ 1) (xb (Y1 (YV 0 1)) (YK bN)) (YJ 4)))
 (fun (w:W) =>
 match w with
       | W.d (PyData.bool true)=>xb (Y1 (aM (xb (bK (YV 0 1)) fun (p:List PyData×Cw) (δ:DSt) (h:aA)=>aR (YG 0) (aD true) (xb (Y1 (aB 0)) (YF d "is_single")) p.2 p.1 p.1 (aU [none] δ) h []))) (YK fX)
       | W.d (PyData.bool false)=>aD (W.d (PyData.bool false))
       | x=>xno)
 δ' p.2)
 YW)
 YE))
 (aO h):=by kernel_rfl
def vM (d:Nat) (w0:W) (h:aA):aE T (d+1) "is_call" [w0] h =
 YP
 (YP
 (YP
 (xb (xb (Y1 (aB 0)) (YF d "is_single"))
 (fun (w:W) =>
 match w with
     | W.d (PyData.bool true)=>aD (W.d (PyData.bool true))
     | W.d (PyData.bool false) =>
      xb (xb (Y1 (aB 0)) (YF d "is_span")) fun (w:W) =>
 match w with
       | W.d (PyData.bool true)=>aD (W.d (PyData.bool true))
       | W.d (PyData.bool false)=>xb (Y1 (aB 0)) (YF d "is_deal")
       | x=>xno
     | x=>xno)
 [some w0] h)
 YW)
 YE)
 (aO h):=by kernel_rfl
def vN (d:Nat) (w0:W) (h:aA):aE T (d+1) "is_look" [w0] h =
 YP
 (YP
 (YP
 (xb (xb (Y3 (aB 0) (YS "look") (YJ 2)) (YF d "is_worded"))
 (fun (w:W) =>
 match w with
     | W.d (PyData.bool true)=>xb (Y1 (YV 0 1)) (YF d "is_call")
     | W.d (PyData.bool false)=>aD (W.d (PyData.bool false))
     | x=>xno)
 [some w0] h)
 YW)
 YE)
 (aO h):=by kernel_rfl
def jW (d:Nat) (w0:W) (h:aA):aE T (d+1) "is_value_pair" [w0] h =
 YP
 (YP
 (YP
 (xb (xb (Y2 (aB 0) (YJ 2)) (YF d "is_tuple_of"))
 (fun (w:W) =>
 match w with
     | W.d (PyData.bool true) =>
      xb (xb (Y1 (YV 0 0)) (YF d "is_key")) fun (w:W) =>
 match w with
       | W.d (PyData.bool true)=>xb (Y1 (YV 0 1)) (YF d "is_whole")
       | W.d (PyData.bool false)=>aD (W.d (PyData.bool false))
       | x=>xno
     | W.d (PyData.bool false)=>aD (W.d (PyData.bool false))
     | x=>xno)
 [some w0] h)
 YW)
 YE)
 (aO h):=by kernel_rfl
def zQ (d:Nat) (w0:W) (h:aA):aE T (d+1) "is_lay" [w0] h =
 YP
 (YP
 (YP
 (xb
 (xb
 (xb (xb (Y3 (aB 0) (YS "lay") (YJ 2)) (YF d "is_worded")) YD)
 fun (b:Bool)=>aD !b)
 (fun c =>
 if c=true then aD true
 else
 xb
 (xb
 (xb (xb (YV 0 1) (YI2 "tuple")) YD)
 fun (b:Bool)=>aD !b)
 fun c=>if c=true then aD true else xC1 CmpOp.Eq (xb (Y1 (YV 0 1)) (YK bN)) (YJ 0))
 [some w0] h)
 (YT2 false [some w0]))
 (YQ fun δ' p =>
 YP
 (YP
 (xb
 (xb (xb (Y1 (aM (xb (bK (YV 0 1)) fun (p:List PyData×Cw) (δ:DSt) (h:aA)=>aR (YG 0) (aD true) (xb (Y1 (aB 0)) (YF d "is_value_pair")) p.2 p.1 p.1 (aU [none] δ) h []))) (YK fX)) YD)
 (fun (b:Bool)=>aD !b) δ' p.2)
 (YT2 false δ'))
 (YQ fun δ' p =>
 YP (YP (xb (Y1 (aM (xb (bK (YV 0 1)) fun (p:List PyData×Cw) (δ:DSt) (h:aA)=>aR (YG 0) (aD true) (YV 0 0) p.2 p.1 p.1 (aU [none] δ) h []))) ((YF d "are_rising")) δ' p.2) YW) YE)))
 (aO h):=by kernel_rfl
def vO (d:Nat) (w0:W) (h:aA):aE T (d+1) "is_step" [w0] h =
 YP
 (YP
 (YP
 (xb (xb (Y1 (aB 0)) (YF d "is_call"))
 (fun (w:W) =>
 match w with
     | W.d (PyData.bool true)=>aD (W.d (PyData.bool true))
     | W.d (PyData.bool false) =>
      xb (xb (Y1 (aB 0)) (YF d "is_look")) fun (w:W) =>
 match w with
       | W.d (PyData.bool true)=>aD (W.d (PyData.bool true))
       | W.d (PyData.bool false)=>xb (Y1 (aB 0)) (YF d "is_lay")
       | x=>xno
     | x=>xno)
 [some w0] h)
 YW)
 YE)
 (aO h):=by kernel_rfl
def fN (d:Nat) (w0 w1:W) (h:aA):aE T (d+1) "is_answer" [w0,w1] h =
 YP
 (YP
 (YP
 (xb
 (xb (xb (Y1 (aB 0)) (YF d "is_step")) YD)
 (fun (b:Bool)=>aD !b) [some w0,some w1] h)
 (YT2 false [some w0,some w1]))
 (YQ fun δ' p =>
 YP
 (YP
 (xb (xb (Y3 (aB 1) (YS "refused") (YJ 1)) (YF d "is_worded"))
 (YD)
 δ' p.2)
 fun p =>
 if p.1=true then
 YP (YP (xb (Y1 (aB 0)) ((YF d "is_call")) δ' p.2) YW) YE
 else some (Fl.nx δ',p.2))
 (YQ fun δ' p =>
 YP (YP (xb (Y2 (aB 0) (aB 1)) ((YF d "is_own_answer")) δ' p.2) YW) YE)))
 (aO h):=by kernel_rfl
def aT (d:Nat) (w0 w1:W) (h:aA):aE T (d+1) "is_own_answer" [w0,w1] h =
 YP
 (YP (aN 2 (YV 0 0) [some w0,some w1,none] h) (YQ fun δ' p =>
 YP
 (YP (xC1 CmpOp.In (aB 2) (xb (xPl (Y2 (YS "read") (YS "add"))) YT) δ' p.2) fun p =>
 if p.1=true then
 YP
 (YP
 (xb (xb (Y3 (aB 1) (YS "got") (YJ 2)) (YF d "is_worded"))
 (fun (w:W) =>
 match w with
          | W.d (PyData.bool true)=>xb (Y1 (YV 1 1)) (YF d "is_whole")
          | W.d (PyData.bool false)=>aD (W.d (PyData.bool false))
          | x=>xno)
 δ' p.2)
 YW)
 YE
 else some (Fl.nx δ',p.2))
 (YQ fun δ' p =>
 YP
 (YP (xC1 CmpOp.In (aB 2) (xb (xPl (Y2 (YS "write") (YS "lay"))) YT) δ' p.2) fun p =>
 if p.1=true then
 YP (YP (xb (Y3 (aB 1) (YS "done") (YJ 1)) ((YF d "is_worded")) δ' p.2) YW) YE
 else some (Fl.nx δ',p.2))
 (YQ fun δ' p =>
 YP
 (YP (xC1 CmpOp.Eq (aB 2) (YS "swap") δ' p.2) fun p =>
 if p.1=true then
 YP
 (YP
 (xb (xb (Y3 (aB 1) (YS "yes") (YJ 1)) (YF d "is_worded"))
 (fun (w:W) =>
 match w with
              | W.d (PyData.bool true)=>aD (W.d (PyData.bool true))
              | W.d (PyData.bool false)=>xb (Y3 (aB 1) (YS "no") (YJ 1)) (YF d "is_worded")
              | x=>xno)
 δ' p.2)
 YW)
 YE
 else some (Fl.nx δ',p.2))
 (YQ fun δ' p =>
 YP
 (YP (xC1 CmpOp.Eq (aB 2) (YS "span") δ' p.2) fun p =>
 if p.1=true then
 YP
 (YP
 (xb (xb (Y3 (aB 1) (YS "all") (YJ 2)) (YF d "is_worded"))
 (fun (w:W) =>
 match w with
                | W.d (PyData.bool true) =>
                 xb (xb (Y2 (YV 1 1) (xb (YV 0 2) fun u=>xb (YV 0 1) (YO .Sub u))) (YF d "is_tuple_of")) fun (w:W) =>
 match w with
                  | W.d (PyData.bool true)=>xb (Y1 (YV 1 1)) (YF d "are_whole")
                  | W.d (PyData.bool false)=>aD (W.d (PyData.bool false))
                  | x=>xno
                | W.d (PyData.bool false)=>aD (W.d (PyData.bool false))
                | x=>xno)
 δ' p.2)
 YW)
 YE
 else some (Fl.nx δ',p.2))
 (YQ fun δ' p =>
 YP
 (YP (xC1 CmpOp.Eq (aB 2) (YS "look") δ' p.2) fun p =>
 if p.1=true then
 YP (YP (xb (Y2 (YV 0 1) (aB 1)) ((YF d "is_own_answer")) δ' p.2) YW) YE
 else some (Fl.nx δ',p.2))
 (YQ fun δ' p =>
 YP
 (YP
 (xb
 (xb
 (xb (xb (Y3 (aB 1) (YS "each") (YJ 2)) (YF d "is_worded")) YD)
 fun (b:Bool)=>aD !b)
 (fun c =>
 if c=true then aD true
 else
 xb
 (xb (xb (Y2 (YV 1 1) (xb (Y1 (YV 0 1)) (YK bN))) (YF d "is_tuple_of")) YD)
 fun (b:Bool)=>aD !b)
 δ' p.2)
 (YT2 false δ'))
 (YQ fun δ' p =>
 YP
 (YP
 (xb
 (Y1 (aM
 (xb
 (xb (YV 0 1) fun (u:W) =>
 xb (YV 1 1) fun (w:W) (x:DSt) (h:aA) =>
 match gX u,gX w with
                       | some xs,some ys=>some ((eY xs ys,none),h)
                       | x,x_1=>none)
 fun (p:List PyData×Cw) (δ:DSt) (h:aA)=>aR (bU [YG 0,YG 1]) (aD true) (xb (Y2 (aB 0) (aB 1)) (YF d "is_own_answer")) p.2 p.1 p.1 (aU [none,none] δ) h [])))
 (YK fX) δ' p.2)
 YW)
 YE))))))))
 (aO h):=by kernel_rfl
def lL (d:Nat) (w0:W) (h:aA):aE T (d+1) "is_stand" [w0] h =
 YP
 (YP
 (YP
 (xb (xb (Y2 (aB 0) (xb (Y1 (aD (W.d (PyData.tuple (List.reverse [PyData.int 0,PyData.int 0,PyData.int 0,PyData.int 0,PyData.int 0,PyData.int 0,PyData.int 0,PyData.int 0]))))) (YK bN))) (YF d "is_tuple_of"))
 (fun (w:W) =>
 match w with
     | W.d (PyData.bool true)=>xb (Y1 (aB 0)) (YF d "are_whole")
     | W.d (PyData.bool false)=>aD (W.d (PyData.bool false))
     | x=>xno)
 [some w0] h)
 YW)
 YE)
 (aO h):=by kernel_rfl
def oR (d:Nat) (w0 w1 w2:W) (h:aA):aE T (d+1) "with_value" [w0,w1,w2] h =
 YP
 (YP
 (YP
 (xb
 (xb
 (xb (aB 0) fun (x:W) =>
 xb (aD none) fun (l:Option Int) =>
 xb
 (xb (aB 1) YU)
 (YS3 x l))
 fun u=>xb (xb (xPl (Y1 (aB 2))) YT) (YO .Add u))
 (fun (u:W) =>
 xb
 (xb (aB 0) fun (x:W) =>
 xb
 (xb (xb (aB 1) (YB .Add 1)) YU)
 fun (l:Option Int)=>xb (aD none) (YS3 x l))
 (YO .Add u))
 [some w0,some w1,some w2] h)
 YW)
 YE)
 (aO h):=by kernel_rfl
def lM (d:Nat) (w0 w1:W) (h:aA):aE T (d+1) "done" [w0,w1] h =
 YP
 (YP (aN 2 (YV 1 0) [some w0,some w1,none] h) (YQ fun δ' p =>
 YP
 (YP (xC1 CmpOp.Eq (aB 2) (YS "span") δ' p.2) fun p =>
 if p.1=true then
 YP
 (YP
 (xb
 (xPl
 (Y2 (xb
 (xPl
 (Y2 (YS "all") (xb (aB 0) fun (x:W) =>
 xb
 (xb (YV 1 1) YU)
 fun (l:Option Int) =>
 xb
 (xb (YV 1 2) YU)
 (YS3 x l))))
 YT) (aB 0)))
 (YT) δ' p.2)
 YW)
 YE
 else some (Fl.nx δ',p.2))
 (YQ fun δ' p =>
 YP
 (YP (xC1 CmpOp.Eq (aB 2) (YS "deal") δ' p.2) fun p =>
 if p.1=true then
 YP (YP (xb (Y2 (aB 0) (YV 1 1)) ((YF d "deal_done")) δ' p.2) YW) YE
 else some (Fl.nx δ',p.2))
 (YQ fun δ' p =>
 YP
 (YP (xC1 CmpOp.Eq (aB 2) (YS "look") δ' p.2) fun p =>
 if p.1=true then
 YP (YP (xb (xPl (Y2 (xb (xb (Y2 (aB 0) (YV 1 1)) (YF d "done")) (YI 0)) (aB 0))) (YT) δ' p.2) YW) YE
 else some (Fl.nx δ',p.2))
 (YQ fun δ' p =>
 YP
 (YP (xC1 CmpOp.Eq (aB 2) (YS "lay") δ' p.2) fun p =>
 if p.1=true then
 YP (YP (xb (xPl (Y2 (xb (xPl (Y1 (YS "done"))) YT) (xb (Y2 (aB 0) (YV 1 1)) (YF d "laid")))) (YT) δ' p.2) YW) YE
 else some (Fl.nx δ',p.2))
 (YQ fun δ' p =>
 YP (YP (xb (Y2 (aB 0) (aB 1)) ((YF d "single_done")) δ' p.2) YW) YE))))))
 (aO h):=by kernel_rfl
def cB (d:Nat) (w0 w1:W) (h:aA):aE T (d+1) "single_done" [w0,w1] h =
 YP
 (YP (aN 2 (YV 1 0) [some w0,some w1,none,none,none] h) (YQ fun δ' p =>
 YP (aN 3 (YV 1 1) δ' p.2) (YQ fun δ' p =>
 YP (aN 4 (xb (aB 0) fun x=>xb (aB 3) (YX x)) δ' p.2) (YQ fun δ' p =>
 YP
 (YP (xC1 CmpOp.Eq (aB 2) (YS "write") δ' p.2) fun p =>
 if p.1=true then
 YP (YP (xb (xPl (Y2 (xb (xPl (Y1 (YS "done"))) YT) (xb (Y3 (aB 0) (aB 3) (YV 1 2)) (YF d "with_value")))) (YT) δ' p.2) YW) YE
 else some (Fl.nx δ',p.2))
 (YQ fun δ' p =>
 YP
 (YP (xC1 CmpOp.Eq (aB 2) (YS "add") δ' p.2) fun p =>
 if p.1=true then
 YP (YP (xb (xPl (Y2 (xb (xPl (Y2 (YS "got") (xb (aB 4) fun u=>xb (YV 1 2) (YO .Add u)))) YT) (xb (Y3 (aB 0) (aB 3) (xb (aB 4) fun u=>xb (YV 1 2) (YO .Add u))) (YF d "with_value")))) (YT) δ' p.2) YW) YE
 else some (Fl.nx δ',p.2))
 (YQ fun δ' p =>
 YP
 (YP (xb (xC1 CmpOp.Eq (aB 2) (YS "swap")) (fun c=>if c=true then xC1 CmpOp.Eq (aB 4) (YV 1 2) else aD false) δ' p.2) fun p =>
 if p.1=true then
 YP (YP (xb (xPl (Y2 (xb (xPl (Y1 (YS "yes"))) YT) (xb (Y3 (aB 0) (aB 3) (YV 1 3)) (YF d "with_value")))) (YT) δ' p.2) YW) YE
 else some (Fl.nx δ',p.2))
 (YQ fun δ' p =>
 YP
 (YP (xC1 CmpOp.Eq (aB 2) (YS "swap") δ' p.2) fun p =>
 if p.1=true then
 YP (YP (xb (xPl (Y2 (xb (xPl (Y1 (YS "no"))) YT) (aB 0))) (YT) δ' p.2) YW) YE
 else some (Fl.nx δ',p.2))
 (YQ fun δ' p =>
 YP (YP (xb (xPl (Y2 (xb (xPl (Y2 (YS "got") (aB 4))) YT) (aB 0))) (YT) δ' p.2) YW) YE))))))))
 (aO h):=by kernel_rfl
@[simp] def jG (d:Nat) (x:DSt) (x_1:aA):Option (Fl×aA) :=
 YP (aN 4 (xb (Y2 (aB 0) (aB 3)) (YF d "single_done")) x x_1) (YQ fun δ' p =>
 YP (YP (xb (aB 2) ((YA (Y1 (YV 4 0)))) δ' p.2) fun p=>some (Fl.nx δ',p.2)) (YQ fun δ' p =>
 YP (aN 0 (YV 4 1) δ' p.2) YE))
def qF (d:Nat) (w0 w1:W) (h:aA):aE T (d+1) "deal_done" [w0,w1] h =
 YP
 (YP (aN 2 (aV (xPl (aD []))) [some w0,some w1,none,none,none] h) (YQ fun δ' p =>
 YP
 (YP (bK (aB 1) δ' p.2) fun (p:(List PyData×Cw)×aA) =>
 bR (YG 3)
 (jG d)
 (Prod.snd p.1) (Prod.fst p.1) (Prod.fst p.1) δ' p.2)
 (YQ fun δ' p =>
 YP (YP (xb (xPl (Y2 (xb (xPl (Y2 (YS "each") (xb (Y1 (aB 2)) (YK bS)))) YT) (aB 0))) (YT) δ' p.2) YW) YE)))
 (aO h):=by kernel_rfl
def aT9 (d:Nat) (w0 w1:W) (h:aA):aE T (d+1) "laid" [w0,w1] h =
 YP
 (YP
 (YP (bK (aB 1) [some w0,some w1,none,none] h) fun (p:(List PyData×Cw)×aA) =>
 bR (bU [YG 2,YG 3])
 (fun (x:DSt) (x_1:aA) =>
 YP (aN 0 (xb (Y3 (aB 0) (aB 2) (aB 3)) (YF d "with_value")) x x_1) YE)
 (Prod.snd p.1) (Prod.fst p.1) (Prod.fst p.1) [some w0,some w1,none,none] p.2)
 (YQ fun δ' p =>
 YP (YP (aB 0 δ' p.2) YW) YE))
 (aO h):=by kernel_rfl
def jH (d:Nat) (w0:W) (h:aA):aE T (d+1) "is_item" [w0] h =
 YP
 (YP
 (YP
 (xb
 (xb
 (xb (xb (Y2 (aB 0) (YJ 3)) (YF d "is_tuple_of")) YD)
 fun (b:Bool)=>aD !b)
 (fun c =>
 if c=true then aD true
 else
 xb
 (xb (xb (Y1 (YV 0 0)) (YF d "is_step")) YD)
 fun (b:Bool)=>aD !b)
 [some w0] h)
 (YT2 false [some w0]))
 (YQ fun δ' p =>
 YP
 (YP
 (xb (xC1 CmpOp.IsNot (YV 0 1) (YZ))
 (fun c =>
 if c=true then
 xb
 (xb (xb (Y2 (YV 0 0) (YV 0 1)) (YF d "is_answer")) YD)
 fun (b:Bool)=>aD !b
 else aD false)
 δ' p.2)
 (YT2 false δ'))
 (YQ fun δ' p =>
 YP
 (YP
 (xb (xb (YV 0 2) (YI2 "str"))
 (fun (w:W) =>
 match w with
         | W.d (PyData.bool true)=>cN (xC1 CmpOp.In (YV 0 2) (aD (W.d (PyData.tuple (List.reverse [PyData.str (Str.ofString "out"),PyData.str (Str.ofString "may"),PyData.str (Str.ofString "must")])))))
         | W.d (PyData.bool false)=>aD (W.d (PyData.bool false))
         | x=>xno)
 δ' p.2)
 YW)
 YE)))
 (aO h):=by kernel_rfl
def eM (d:Nat) (w0:W) (h:aA):aE T (d+1) "are_items" [w0] h =
 YP
 (YP
 (YP
 (xb (xb (aB 0) (YI2 "tuple"))
 (fun (w:W) =>
 match w with
     | W.d (PyData.bool true) =>
      xb (cN (xC1 CmpOp.LtE (xb (Y1 (aB 0)) (YK bN)) (YJ 120))) fun (w:W) =>
 match w with
       | W.d (PyData.bool true)=>xb (Y1 (aM (xb (bK (aB 0)) fun (p:List PyData×Cw) (δ:DSt) (h:aA)=>aR (YG 0) (aD true) (xb (Y1 (aB 0)) (YF d "is_item")) p.2 p.1 p.1 (aU [none] δ) h []))) (YK fX)
       | W.d (PyData.bool false)=>aD (W.d (PyData.bool false))
       | x=>xno
     | W.d (PyData.bool false)=>aD (W.d (PyData.bool false))
     | x=>xno)
 [some w0] h)
 YW)
 YE)
 (aO h):=by kernel_rfl
def gC (d:Nat) (w0 w1:W) (h:aA):aE T (d+1) "are_numbers" [w0,w1] h =
 YP
 (YP (YP (xb (Y1 (aM (xb (bK (aB 0)) fun (p:List PyData×Cw) (δ:DSt) (h:aA)=>aR (YG 0) (aD true) (xb (Y3 (aB 0) (YJ 0) (xb (aB 1) (YB .Sub 1))) (YF d "is_between")) p.2 p.1 p.1 (aU [none,some 1] δ) h []))) (YK fX) [some w0,some w1] h) YW) YE)
 (aO h):=by kernel_rfl
def dT (d:Nat) (w0 w1 w2:W) (h:aA):aE T (d+1) "are_unlike" [w0,w1,w2] h =
 YP
 (YP
 (YP
 (xb (xb (Y2 (aB 0) (aB 1)) (YF d "is_tuple_of"))
 (fun (w:W) =>
 match w with
     | W.d (PyData.bool true) =>
      xb (xb (Y2 (aB 0) (aB 2)) (YF d "are_numbers")) fun (w:W) =>
 match w with
       | W.d (PyData.bool true)=>cN (xC1 CmpOp.Eq (xb (Y1 (aB 0)) fun (ws:List W) (x:DSt) (h:aA)=>xLS ws h) (aB 1))
       | W.d (PyData.bool false)=>aD (W.d (PyData.bool false))
       | x=>xno
     | W.d (PyData.bool false)=>aD (W.d (PyData.bool false))
     | x=>xno)
 [some w0,some w1,some w2] h)
 YW)
 YE)
 (aO h):=by kernel_rfl
def jQ (d:Nat) (w0 w1:W) (h:aA):aE T (d+1) "are_pairs" [w0,w1] h =
 YP
 (YP
 (YP
 (xb
 (xb
 (xb (xb (aB 0) (YI2 "tuple")) YD)
 fun (b:Bool)=>aD !b)
 (fun c=>if c=true then aD true else xC1 CmpOp.Gt (xb (Y1 (aB 0)) (YK bN)) (YJ 4000)) [some w0,some w1] h)
 (YT2 false [some w0,some w1]))
 (YQ fun δ' p =>
 YP (YP (xb (Y1 (aM (xb (bK (aB 0)) fun (p:List PyData×Cw) (δ:DSt) (h:aA)=>aR (YG 0) (aD true) (xb (Y3 (aB 0) (YJ 2) (aB 1)) (YF d "are_unlike")) p.2 p.1 p.1 (aU [none,some 1] δ) h []))) (YK fX) δ' p.2) YW) YE))
 (aO h):=by kernel_rfl
def gD (d:Nat) (w0 w1:W) (h:aA):aE T (d+1) "are_triples" [w0,w1] h =
 YP
 (YP
 (YP
 (xb
 (xb
 (xb (xb (aB 0) (YI2 "tuple")) YD)
 fun (b:Bool)=>aD !b)
 (fun c=>if c=true then aD true else xC1 CmpOp.Gt (xb (Y1 (aB 0)) (YK bN)) (YJ 4000)) [some w0,some w1] h)
 (YT2 false [some w0,some w1]))
 (YQ fun δ' p =>
 YP
 (YP
 (xb
 (xb (xb (Y1 (aM (xb (bK (aB 0)) fun (p:List PyData×Cw) (δ:DSt) (h:aA)=>aR (YG 0) (aD true) (xb (Y3 (aB 0) (YJ 3) (xb (Y1 (aB 1)) (YK bN))) (YF d "are_unlike")) p.2 p.1 p.1 (aU [none,some 1] δ) h []))) (YK fX)) YD)
 (fun (b:Bool)=>aD !b) δ' p.2)
 (YT2 false δ'))
 (YQ fun δ' p =>
 YP
 (YP
 (xb
 (Y1 (aM
 (xb (bK (aB 0)) fun (p:List PyData×Cw) (δ:DSt) (h:aA) =>
 aR (bU [YG 0,YG 1,YG 2]) (aD true)
 (xb (cN (xC1 CmpOp.Eq (xb (xb (aB 3) fun x=>xb (aB 0) (YX x)) (YI 2)) (YS "must"))) fun (w:W) =>
 match w with
             | W.d (PyData.bool true)=>cN (xC1 CmpOp.Eq (xb (xb (aB 3) fun x=>xb (aB 1) (YX x)) (YI 2)) (YS "must"))
             | W.d (PyData.bool false)=>aD (W.d (PyData.bool false))
             | x=>xno)
 p.2 p.1 p.1 (aU [none,none,none,some 1] δ) h [])))
 (YK fX) δ' p.2)
 YW)
 YE)))
 (aO h):=by kernel_rfl
def bY (d:Nat) (w0:W) (h:aA):aE T (d+1) "is_problem" [w0] h =
 YP
 (YP
 (YP
 (xb
 (xb
 (xb (xb (Y2 (aB 0) (YJ 4)) (YF d "is_tuple_of")) YD)
 fun (b:Bool)=>aD !b)
 (fun c =>
 if c=true then aD true
 else
 xb
 (xb
 (xb (xb (Y1 (YV 0 0)) (YF d "is_stand")) YD)
 fun (b:Bool)=>aD !b)
 fun c =>
 if c=true then aD true
 else
 xb
 (xb (xb (Y1 (YV 0 1)) (YF d "are_items")) YD)
 fun (b:Bool)=>aD !b)
 [some w0] h)
 (YT2 false [some w0]))
 (YQ fun δ' p =>
 YP
 (YP
 (xb (xb (Y2 (YV 0 2) (xb (Y1 (YV 0 1)) (YK bN))) (YF d "are_pairs"))
 (fun (w:W) =>
 match w with
       | W.d (PyData.bool true)=>xb (Y2 (YV 0 3) (YV 0 1)) (YF d "are_triples")
       | W.d (PyData.bool false)=>aD (W.d (PyData.bool false))
       | x=>xno)
 δ' p.2)
 YW)
 YE))
 (aO h):=by kernel_rfl
def jX (d:Nat) (w0:W) (h:aA):aE T (d+1) "check_problem" [w0] h =
 YP
 (YP
 (YP
 (xb
 (xb (xb (Y1 (aB 0)) (YF d "is_problem")) YD)
 (fun (b:Bool)=>aD !b) [some w0] h)
 fun p =>
 if p.1=true then
 YP none YE
 else some (Fl.nx [some w0],p.2))
 YE)
 (aO h):=by kernel_rfl
def iL (d:Nat) (w0 w1:W) (h:aA):aE T (d+1) "ring_fault" [w0,w1] h =
 YP
 (YP (YP (xb (Y1 (aB 0)) ((YF d "check_problem")) [some w0,some w1] h) fun p=>some (Fl.nx [some w0,some w1],p.2)) (YQ fun δ' p =>
 YP (YP (xb (Y2 (aB 0) (aB 1)) ((YF d "steps_fault")) δ' p.2) YW) YE))
 (aO h):=by kernel_rfl
@[simp] def gV (d:Nat) (x:DSt) (x_1:aA):Option (Fl×aA) :=
 YP
 (YP
 (xb
 (xb (xb (Y4 (aB 4) (YV 5 0) (YV 5 1) (YV 5 2)) (YF d "is_right")) YD)
 (fun (b:Bool)=>aD !b) x x_1)
 fun p =>
 if p.1=true then
 YP (YP (xb (xPl (Y2 (YS "step") (aB 2))) (YT) x p.2) YW) YE
 else some (Fl.nx x,p.2))
 (YQ fun δ' p =>
 YP (YP ((xno:XR W) δ' p.2) fun p=>some (Fl.nx δ',p.2)) YE)
@[simp] def bQ (d:Nat) (x:DSt) (x_1:aA):Option (Fl×aA) :=
 YP
 (YP
 (xb
 (xb (xb (Y2 (aB 3) (xb (Y1 (YV 0 1)) (YK bN))) (YF d "is_ring_step")) YD)
 (fun (b:Bool)=>aD !b) x x_1)
 fun p =>
 if p.1=true then
 YP (YP (xb (xPl (Y2 (YS "form") (aB 2))) (YT) x p.2) YW) YE
 else some (Fl.nx x,p.2))
 YE
def gE (d:Nat) (w0 w1:W) (h:aA):aE T (d+1) "steps_fault" [w0,w1] h =
 YP
 (YP
 (YP
 (xb
 (xb (xb (aB 1) fun (w:W) (x:DSt) (h:aA)=>YP (ref h w) fun (d:PyData)=>some (W.d (PyData.bool (isi d "list"||isi d "tuple")),h)) YD)
 (fun (b:Bool)=>aD !b) [some w0,some w1,none,none,none,none] h)
 fun p =>
 if p.1=true then
 YP (YP (xb (xPl (Y2 (YS "form") (YJ 0))) (YT) [some w0,some w1,none,none,none,none] p.2) YW) YE
 else some (Fl.nx [some w0,some w1,none,none,none,none],p.2))
 (YQ fun δ' p =>
 YP
 (YP (xb (aB 1) (fun (u:W) (x:DSt) (h:aA)=>lU u h) δ' p.2) fun (p:(List PyData×Cw)×aA) =>
 bR (bU [YG 2,YG 3])
 (bQ d)
 (Prod.snd p.1) (Prod.fst p.1) (Prod.fst p.1) δ' p.2)
 (YQ fun δ' p =>
 YP (aN 4 xno δ' p.2) (YQ fun δ' p =>
 YP
 (YP (xb (aB 1) (fun (u:W) (x:DSt) (h:aA)=>lU u h) δ' p.2) fun (p:(List PyData×Cw)×aA) =>
 bR (bU [YG 2,YG 5])
 (gV d)
 (Prod.snd p.1) (Prod.fst p.1) (Prod.fst p.1) δ' p.2)
 (YQ fun δ' p =>
 YP
 (YP
 (xb (xC1 CmpOp.Eq (xb (Y1 (aB 1)) (YK bN)) (YJ 0))
 (fun c =>
 if c=true then aD true
 else
 xC1 CmpOp.NotEq
 (xb
 (xb (aB 1) fun (x:W) =>
 xb
 (xb (YJ 1) YNg)
 (YX x))
 (YI 0))
 (xb
 (xb (aB 1) fun (x:W) =>
 xb
 (xb (YJ 1) YNg)
 (YX x))
 (YI 1)))
 δ' p.2)
 fun p =>
 if p.1=true then
 YP (YP (xb (xPl (Y1 (YS "open"))) (YT) δ' p.2) YW) YE
 else some (Fl.nx δ',p.2))
 (YQ fun δ' p =>
 YP (YP (YZ δ' p.2) YW) YE))))))
 (aO h):=by kernel_rfl
def lN (d:Nat) (w0 w1:W) (h:aA):aE T (d+1) "is_ring_step" [w0,w1] h =
 YP
 (YP
  (YP
   (xb (xb (Y2 (aB 0) (YJ 3)) (YF d "is_tuple_of"))
    (fun (w:W) =>
     match w with
     | W.d (PyData.bool true) =>
      xb
       (xb
        (Y2 (xb (aB 0) fun (x:W) =>
          xb (aD none) fun (l:Option Int) =>
           xb
            (xb (YJ 2) YU)
            (YS3 x l)) (aB 1))
        (YF d "are_numbers"))
       fun (w:W) =>
       match w with
       | W.d (PyData.bool true)=>xb (Y2 (YV 0 2) (aB 1)) (YF d "is_reason")
       | W.d (PyData.bool false)=>aD (W.d (PyData.bool false))
       | x=>xno
     | W.d (PyData.bool false)=>aD (W.d (PyData.bool false))
     | x=>xno)
    [some w0,some w1] h)
   YW)
  YE)
 (aO h):=by kernel_rfl
def qG (d:Nat) (w0 w1:W) (h:aA):aE T (d+1) "is_reason" [w0,w1] h =
 YP
 (YP (aN 2 (xb (Y1 (aB 0)) (YF d "word_of")) [some w0,some w1,none] h) (YQ fun δ' p =>
 YP
 (YP
 (xb (gY (fun (z:Str)=>List.lookup z [(Str.ofString "told",PyData.tuple (List.reverse [])),(Str.ofString "through",PyData.tuple (List.reverse [PyData.str (Str.ofString "item")])),(Str.ofString "only",PyData.tuple (List.reverse [PyData.str (Str.ofString "key")])),(Str.ofString "first",PyData.tuple (List.reverse [PyData.str (Str.ofString "key")])),(Str.ofString "late",PyData.tuple (List.reverse [PyData.str (Str.ofString "item"),PyData.str (Str.ofString "key")])),(Str.ofString "early",PyData.tuple (List.reverse [PyData.str (Str.ofString "item"),PyData.str (Str.ofString "key")])),(Str.ofString "apart",PyData.tuple (List.reverse [PyData.str (Str.ofString "item")]))]) (aB 2))
 (fun c =>
 if c=true then aD true
 else
 xC1 CmpOp.NotEq (xb (Y1 (aB 0)) (YK bN))
 (xb (YJ 1) fun (u:W) =>
 xb
 (xb
 (Y1 (xb (aB 2) fun (w:W) =>
 match w with
              | W.d (PyData.str z) =>
               match List.lookup z [(Str.ofString "told",PyData.tuple (List.reverse [])),(Str.ofString "through",PyData.tuple (List.reverse [PyData.str (Str.ofString "item")])),(Str.ofString "only",PyData.tuple (List.reverse [PyData.str (Str.ofString "key")])),(Str.ofString "first",PyData.tuple (List.reverse [PyData.str (Str.ofString "key")])),(Str.ofString "late",PyData.tuple (List.reverse [PyData.str (Str.ofString "item"),PyData.str (Str.ofString "key")])),(Str.ofString "early",PyData.tuple (List.reverse [PyData.str (Str.ofString "item"),PyData.str (Str.ofString "key")])),(Str.ofString "apart",PyData.tuple (List.reverse [PyData.str (Str.ofString "item")]))] with
               | some i=>aD (W.d i)
               | none=>xno
              | x=>xno))
 (YK bN))
 (YO .Add u)))
 δ' p.2)
 (YT2 false δ'))
 (YQ fun δ' p =>
 YP
 (YP
 (xb
 (Y1 (aM
 (xb
 (xb
 (xb (aB 2) fun (w:W) =>
 match w with
             | W.d (PyData.str z) =>
              match List.lookup z [(Str.ofString "told",PyData.tuple (List.reverse [])),(Str.ofString "through",PyData.tuple (List.reverse [PyData.str (Str.ofString "item")])),(Str.ofString "only",PyData.tuple (List.reverse [PyData.str (Str.ofString "key")])),(Str.ofString "first",PyData.tuple (List.reverse [PyData.str (Str.ofString "key")])),(Str.ofString "late",PyData.tuple (List.reverse [PyData.str (Str.ofString "item"),PyData.str (Str.ofString "key")])),(Str.ofString "early",PyData.tuple (List.reverse [PyData.str (Str.ofString "item"),PyData.str (Str.ofString "key")])),(Str.ofString "apart",PyData.tuple (List.reverse [PyData.str (Str.ofString "item")]))] with
              | some i=>aD (W.d i)
              | none=>xno
             | x=>xno)
 fun (u:W) =>
 xb
 (xb (aB 0) fun (x:W) =>
 xb
 (xb (YJ 1) YU)
 fun (l:Option Int)=>xb (aD none) (YS3 x l))
 fun (w:W) (x:DSt) (h:aA) =>
 match gX u,gX w with
             | some xs,some ys=>some ((eY xs ys,none),h)
             | x,x_1=>none)
 fun (p:List PyData×Cw) (δ:DSt) (h:aA)=>aR (bU [YG 0,YG 1]) (aD true) (xb (Y3 (aB 0) (aB 1) (aB 2)) (YF d "is_told")) p.2 p.1 p.1 (aU [none,none,some 1] δ) h [])))
 (YK fX) δ' p.2)
 YW)
 YE)))
 (aO h):=by kernel_rfl
def vP (d:Nat) (w0 w1 w2:W) (h:aA):aE T (d+1) "is_told" [w0,w1,w2] h =
 YP
 (YP (YP (xb (xC1 CmpOp.Eq (aB 0) (YS "key")) (fun (t:Bool)=>if t=true then xb (Y1 (aB 1)) (YF d "is_key") else xb (Y2 (xb (xPl (Y1 (aB 1))) YT) (aB 2)) (YF d "are_numbers")) [some w0,some w1,some w2] h) YW) YE)
 (aO h):=by kernel_rfl
def fO (d:Nat) (w0 w1:W) (h:aA):aE T (d+1) "_law_cell_at" [w0,w1] h =
 YP
 (YP
 (YP (xC1 CmpOp.Lt (aB 1) (xb (Y1 (aB 0)) (YK bN)) [some w0,some w1] h) fun p =>
 if p.1=true then
 YP (YP (xb (aB 0) (fun x=>xb (aB 1) (YX x)) [some w0,some w1] p.2) YW) YE
 else some (Fl.nx [some w0,some w1],p.2))
 (YQ fun δ' p =>
 YP (YP (YJ 0 δ' p.2) YW) YE))
 (aO h):=by kernel_rfl
def oS (d:Nat) (w0 w1:W) (h:aA):aE T (d+1) "_law_drawn" [w0,w1] h =
 YP
 (YP (aN 2 (xb (xb (xb (xb (aB 0) fun u=>xb (xb (YJ 7883) fun u=>xb (aB 1) (YO .Mult u)) (YO .Add u)) (YB .Add 1)) (YB .Mult 48271)) (YB .Mod 2147483647)) [some w0,some w1,none] h) (YQ fun δ' p =>
 YP (aN 2 (xb (xb (aB 2) fun u=>xb (xb (xb (aB 2) (YB .FloorDiv 1009)) (YB .Add 69621)) (YO .Mult u)) (YB .Mod 2147483647)) δ' p.2) (YQ fun δ' p =>
 YP (YP (xb (xb (aB 2) fun u=>xb (xb (xb (aB 2) (YB .FloorDiv 1013)) (YB .Add 16807)) (YO .Mult u)) ((YB .Mod 2147483647)) δ' p.2) YW) YE)))
 (aO h):=by kernel_rfl
@[simp] def eO (d:Nat) (x:DSt) (x_1:aA):Option (Fl×aA) :=
 YP
 (YP
 (xb (xC1 CmpOp.Eq (xb (aB 2) (YB .Mod 2)) (YJ 0))
 (fun c =>
 if c=true then
 xb (xC1 CmpOp.NotEq (aB 4) (YJ 0)) fun c =>
 if c=true then
 xC1 CmpOp.NotEq (aB 4)
 (xb (YJ 1) YNg)
 else aD false
 else aD false)
 x x_1)
 fun p =>
 if p.1=true then
 YP (YP (xb (aB 3) ((YA (Y1 (xb (aB 4) fun u=>xb (xb (YJ 10) (YB .Pow 40)) (YO .Mod u))))) x p.2) fun p=>some (Fl.nx x,p.2)) (YQ fun δ' p =>
 YP (aN 4 (xb (aB 4) fun u=>xb (xb (YJ 10) (YB .Pow 40)) (YO .FloorDiv u)) δ' p.2) YE)
 else
 YP (YP (xb (aB 3) ((YA (Y1 (xb (Y2 (aB 0) (aB 5)) (YF d "_law_drawn"))))) x p.2) fun p=>some (Fl.nx x,p.2)) YE)
 YE
def oT (d:Nat) (w0 w1 w2:W) (h:aA):aE T (d+1) "_law_draws" [w0,w1,w2] h =
 YP
 (YP (aN 3 (aV (xPl (aD []))) [some w0,some w1,some w2,none,none,none] h) (YQ fun δ' p =>
 YP (aN 4 (aB 0) δ' p.2) (YQ fun δ' p =>
 YP
 (YP
 (xb (aB 1)
 (YR)
 δ' p.2)
 fun (p:(List PyData×Cw)×aA) =>
 bR (YG 5)
 (eO d)
 (Prod.snd p.1) (Prod.fst p.1) (Prod.fst p.1) δ' p.2)
 (YQ fun δ' p =>
 YP (YP (aB 3 δ' p.2) YW) YE))))
 (aO h):=by kernel_rfl
def oU (d:Nat) (w0:W) (h:aA):aE T (d+1) "_law_value" [w0] h =
 YP
 (YP
 (YP (xC1 CmpOp.Eq (xb (aB 0) (YB .Mod 12)) (YJ 0) [some w0] h) fun p =>
 if p.1=true then
 YP (YP (xb (xb (xb (aB 0) (YB .FloorDiv 12)) fun u=>xb (xb (xb (YJ 2) fun u=>xb (xb (YJ 10) (YB .Pow 38)) (YO .Mult u)) (YB .Add 1)) (YO .Mod u)) (fun u=>xb (xb (YJ 10) (YB .Pow 38)) (YO .Sub u)) [some w0] p.2) YW) YE
 else some (Fl.nx [some w0],p.2))
 (YQ fun δ' p =>
 YP (YP (xb (xb (aB 0) (YB .FloorDiv 12)) ((YB .Mod 3)) δ' p.2) YW) YE))
 (aO h):=by kernel_rfl
def rZ (d:Nat) (w0:W) (h:aA):aE T (d+1) "_law_one" [w0] h =
 YP
 (YP (aN 1 (xb (xb (YV 0 0) (YB .FloorDiv 4)) fun u=>xb (xb (aM (xPl (Y3 (YJ 2) (YJ 3) (YJ 8)))) fun x=>xb (xb (xb (YV 0 0) (YB .FloorDiv 32)) (YB .Mod 3)) (YX x)) (YO .Mod u)) [some w0,none,none,none] h) (YQ fun δ' p =>
 YP (aN 2 (xb (Y1 (YV 0 1)) (YF d "_law_value")) δ' p.2) (YQ fun δ' p =>
 YP (aN 3 (xb (Y1 (YV 0 2)) (YF d "_law_value")) δ' p.2) (YQ fun δ' p =>
 YP (YP (xb (aM (xPl (Y4 (xb (xPl (Y2 (YS "read") (aB 1))) YT) (xb (xPl (Y3 (YS "write") (aB 1) (aB 2))) YT) (xb (xPl (Y3 (YS "add") (aB 1) (aB 2))) YT) (xb (xPl (Y4 (YS "swap") (aB 1) (aB 2) (aB 3))) YT)))) (fun x=>xb (xb (YV 0 0) (YB .Mod 4)) (YX x)) δ' p.2) YW) YE))))
 (aO h):=by kernel_rfl
def eP (d:Nat) (w0:W) (h:aA):aE T (d+1) "_law_step" [w0] h =
 YP
 (YP (aN 1 (xb (YV 0 3) (YB .Mod 10)) [some w0,none,none,none] h) (YQ fun δ' p =>
   YP
    (aN 2
     (xb
      (Y1 (xb (aB 0) fun (x:W) =>
        xb
         (xb (YJ 4) YU)
         fun (l:Option Int) =>
         xb
          (xb (YJ 7) YU)
          (YS3 x l)))
      (YF d "_law_one"))
     δ' p.2)
    (YQ fun δ' p =>
     YP
      (YP (xC1 CmpOp.Eq (aB 1) (YJ 1) δ' p.2) fun p =>
       if p.1=true then
        YP (aN 2 (xb (xPl (Y3 (YS "span") (xb (YV 0 4) (YB .Mod 2)) (xb (YJ 2) fun u=>xb (xb (YV 0 5) (YB .Mod 6)) (YO .Add u)))) YT) δ' p.2) YE
       else some (Fl.nx δ',p.2))
      (YQ fun δ' p =>
       YP
        (YP (xC1 CmpOp.Eq (aB 1) (YJ 2) δ' p.2) fun p =>
         if p.1=true then
          YP
           (aN 2
            (xb
             (xPl
              (Y2 (YS "deal") (xb
                  (Y1 (aM
                    (xb
                     (xb (xb (YJ 1) fun u=>xb (xb (xb (YV 0 3) (YB .FloorDiv 80)) (YB .Mod 3)) (YO .Add u)) YR)
                     fun (p:List PyData×Cw) (δ:DSt) (h:aA) =>
                     aR (YG 0) (aD true)
                      (xb
                       (Y1 (xb (aB 1) fun (x:W) =>
                         xb
                          (xb (xb (YJ 4) fun u=>xb (xb (YJ 3) fun u=>xb (aB 0) (YO .Mult u)) (YO .Add u)) YU)
                          fun (l:Option Int) =>
                          xb
                           (xb (xb (YJ 7) fun u=>xb (xb (YJ 3) fun u=>xb (aB 0) (YO .Mult u)) (YO .Add u)) YU)
                           (YS3 x l)))
                       (YF d "_law_one"))
                      p.2 p.1 p.1 (aU [none,some 0] δ) h [])))
                  (YK bS))))
             YT)
            δ' p.2)
           YE
         else some (Fl.nx δ',p.2))
        (YQ fun δ' p =>
         YP
          (YP (xC1 CmpOp.Eq (aB 1) (YJ 3) δ' p.2) fun p =>
           if p.1=true then
            YP
             (aN 3
              (aM
               (xb
                (xb (YJ 3) YR)
                fun (p:List PyData×Cw) (δ:DSt) (h:aA)=>aR (YG 0) (xb (xC1 CmpOp.Eq (xb (xb (YV 1 4) fun u=>xb (aB 0) (YO .RShift u)) (YB .BitAnd 1)) (YJ 1)) fun c=>if c=true then aD true else xC1 CmpOp.Eq (aB 0) (xb (YV 1 5) (YB .Mod 3))) (aB 0) p.2 p.1 p.1 (aU [none,some 0] δ) h []))
              δ' p.2)
             (YQ fun δ' p =>
              YP (YP (xb (xPl (Y2 (YS "lay") (xb (Y1 (aM (xb (bK (aB 3)) fun (p:List PyData×Cw) (δ:DSt) (h:aA)=>aR (YG 0) (aD true) (xb (xPl (Y2 (aB 0) (xb (Y1 (xb (YV 1 6) fun u=>xb (xb (YJ 1) fun u=>xb (aB 0) (YO .Add u)) (YO .FloorDiv u))) (YF d "_law_value")))) YT) p.2 p.1 p.1 (aU [none,some 0] δ) h []))) (YK bS)))) (YT) δ' p.2) YW) YE)
           else some (Fl.nx δ',p.2))
          (YQ fun δ' p =>
           YP
            (YP (xC1 CmpOp.Eq (xb (xb (YV 0 3) (YB .FloorDiv 10)) (YB .Mod 8)) (YJ 0) δ' p.2) fun p =>
             if p.1=true then
              YP (YP (xb (xPl (Y2 (YS "look") (aB 2))) (YT) δ' p.2) YW) YE
             else some (Fl.nx δ',p.2))
            (YQ fun δ' p =>
             YP (YP (aB 2 δ' p.2) YW) YE)))))))
 (aO h):=by kernel_rfl
def fP (d:Nat) (w0 w1:W) (h:aA):aE T (d+1) "_law_bent" [w0,w1] h =
 YP
 (YP
 (YP (xC1 CmpOp.Eq (YV 0 0) (YS "got") [some w0,some w1] h) fun p =>
 if p.1=true then
 YP (YP (xb (xPl (Y2 (YS "got") (xb (xb (YV 0 1) (YB .Add 1)) fun u=>xb (xb (xb (aB 1) (YB .Mod 2)) (YB .Mult 2)) (YO .Sub u)))) (YT) [some w0,some w1] p.2) YW) YE
 else some (Fl.nx [some w0,some w1],p.2))
 (YQ fun δ' p =>
 YP
 (YP (xC1 CmpOp.In (aB 0) (aM (xPl (Y2 (xb (xPl (Y1 (YS "yes"))) YT) (xb (xPl (Y1 (YS "no"))) YT)))) δ' p.2) fun p =>
 if p.1=true then
 YP (YP (xb (aM (xPl (Y2 (xb (xPl (Y1 (YS "yes"))) YT) (xb (xPl (Y1 (YS "no"))) YT)))) (fun x=>xb (xb (Y1 (cN (xC1 CmpOp.Eq (aB 0) (xb (xPl (Y1 (YS "yes"))) YT)))) fun (ws:List W) (x:DSt) (h:aA)=>wL ws h) (YX x)) δ' p.2) YW) YE
 else some (Fl.nx δ',p.2))
 (YQ fun δ' p =>
 YP (YP (aB 0 δ' p.2) YW) YE)))
 (aO h):=by kernel_rfl
@[simp] def bW (d:Nat) (x:DSt) (x_1:aA):Option (Fl×aA) :=
 YP (aN 6 (xb (Y3 (xb (aB 5) fun u=>xb (xb (aB 4) fun u=>xb (xb (aB 1) (YB .Mod 2)) (YO .Mult u)) (YO .Add u)) (YJ 14) (aB 1)) (YF d "_law_draws")) x x_1) (YQ fun δ' p =>
 YP (aN 7 (xb (Y1 (aB 6)) (YF d "_law_step")) δ' p.2) (YQ fun δ' p =>
 YP (YP (xb (Y2 (aB 2) (aB 7)) ((YF d "done")) δ' p.2) fun p=>YP (bU [YG 8,YG 9] p.1 δ' p.2) fun (q:DSt×aA)=>some (Fl.nx (q.1),q.2)) (YQ fun δ' p =>
 YP (aN 10 (xb (aM (xPl (Y6 (YS "must") (YS "must") (YS "must") (YS "must") (YS "may") (YS "out")))) fun x=>xb (xb (YV 6 13) (YB .Mod 6)) (YX x)) δ' p.2) (YQ fun δ' p =>
 YP
 (YP (xb (xC1 CmpOp.Eq (aB 10) (YS "must")) (fun c=>if c=true then aD true else xC1 CmpOp.Eq (xb (xb (YV 6 13) (YB .FloorDiv 6)) (YB .Mod 2)) (YJ 0)) δ' p.2) fun p =>
 if p.1=true then
 YP (aN 2 (aB 9) δ' p.2) YE
 else some (Fl.nx δ',p.2))
 (YQ fun δ' p =>
 YP
 (YP (xC1 CmpOp.Eq (xb (xb (YV 6 13) (YB .FloorDiv 12)) (YB .Mod 10)) (YJ 0) δ' p.2) fun p =>
 if p.1=true then
 YP (aN 8 (xb (Y2 (aB 8) (xb (YV 6 13) (YB .FloorDiv 120))) (YF d "_law_bent")) δ' p.2) YE
 else some (Fl.nx δ',p.2))
 (YQ fun δ' p =>
 YP
 (YP (xC1 CmpOp.Eq (xb (xb (YV 6 13) (YB .FloorDiv 120)) (YB .Mod 6)) (YJ 0) δ' p.2) fun p =>
 if p.1=true then
 YP (aN 8 (YZ) δ' p.2) YE
 else some (Fl.nx δ',p.2))
 (YQ fun δ' p =>
 YP (YP (xb (aB 3) ((YA (Y1 (xb (xPl (Y3 (aB 7) (aB 8) (aB 10))) YT)))) δ' p.2) fun p=>some (Fl.nx δ',p.2)) YE)))))))
def oV (d:Nat) (w0 w1 w2:W) (h:aA):aE T (d+1) "_law_items" [w0,w1,w2] h =
 YP
 (YP (aN 3 (aV (xPl (aD []))) [some w0,some w1,some w2,none,none,none,none,none,none,none,none] h) (YQ fun δ' p =>
 YP
 (YP (xb (aB 0) (fun (u:W) (x:DSt) (h:aA)=>lU u h) δ' p.2) fun (p:(List PyData×Cw)×aA) =>
 bR (bU [YG 4,YG 5])
 (bW d)
 (Prod.snd p.1) (Prod.fst p.1) (Prod.fst p.1) δ' p.2)
 (YQ fun δ' p =>
 YP (YP (xb (Y1 (aB 3)) (YK bS) δ' p.2) YW) YE)))
 (aO h):=by kernel_rfl
@[simp] def bI (d:Nat) (x:DSt) (x_1:aA):Option (Fl×aA) :=
 YP
 (aN 15
 (aM
 (xb
 (xb (YJ 2) YR)
 fun (p:List PyData×Cw) (δ:DSt) (h:aA)=>aR (YG 0) (xC1 CmpOp.NotEq (aB 2) (aM (xPl (aD [])))) (xb (aB 2) fun x=>xb (xb (xb (Y2 (aB 3) (xb (xb (YJ 3) fun u=>xb (aB 1) (YO .Mult u)) fun u=>xb (aB 0) (YO .Add u))) (YF d "_law_drawn")) fun u=>xb (xb (Y2 (YJ 1) (xb (Y1 (aB 2)) (YK bN))) fun (ws:List W) (x:DSt) (h:aA)=>xMx ws h) (YO .Mod u)) (YX x)) p.2 p.1 p.1 (aU [none,some 14,some 11,some 13] δ) h []))
 x x_1)
 (YQ fun δ' p =>
 YP (aN 16 (xb (xb (Y2 (aB 13) (xb (xb (YJ 3) fun u=>xb (aB 14) (YO .Mult u)) (YB .Add 2))) (YF d "_law_drawn")) fun u=>xb (xb (Y2 (YJ 1) (xb (Y1 (aB 4)) (YK bN))) fun (ws:List W) (x:DSt) (h:aA)=>xMx ws h) (YO .Mod u)) δ' p.2) (YQ fun δ' p =>
 YP
 (YP (xC1 CmpOp.Eq (xb (Y1 (xb (aB 15) fun u=>xb (aM (xPl (Y1 (aB 16)))) (YO .Add u))) fun (ws:List W) (x:DSt) (h:aA)=>xLS ws h) (YJ 3) δ' p.2) fun p =>
 if p.1=true then
 YP (YP (xb (aB 12) ((YA (Y1 (xb (xPl (Y3 (YV 15 0) (YV 15 1) (aB 16))) YT)))) δ' p.2) fun p=>some (Fl.nx δ',p.2)) YE
 else some (Fl.nx δ',p.2))
 YE))
@[simp] def bJ (d:Nat) (x:DSt) (x_1:aA):Option (Fl×aA) :=
 YP
 (YP (bK (aB 5) x x_1) fun (p:(List PyData×Cw)×aA) =>
 bR (YG 9)
 (fun (x:DSt) (x_2:aA) =>
 YP (aN 10 (xb (Y2 (aB 7) (xb (xb (YJ 20) fun u=>xb (aB 8) (YO .Mult u)) fun u=>xb (aB 9) (YO .Add u))) (YF d "_law_drawn")) x x_2) (YQ fun δ' p =>
 YP
 (YP (xb (xb (xC1 CmpOp.Lt (aB 8) (aB 9)) fun c=>if c=true then xC1 CmpOp.Eq (xb (aB 10) (YB .Mod 4)) (YJ 0) else aD false) (fun c=>if c=true then aD true else xb (xC1 CmpOp.Gt (aB 8) (aB 9)) fun c=>if c=true then xC1 CmpOp.Eq (xb (aB 10) (YB .Mod 60)) (YJ 1) else aD false) δ' p.2) fun p =>
 if p.1=true then
 YP (YP (xb (aB 6) ((YA (Y1 (xb (xPl (Y2 (aB 8) (aB 9))) YT)))) δ' p.2) fun p=>some (Fl.nx δ',p.2)) YE
 else some (Fl.nx δ',p.2))
 YE))
 (Prod.snd p.1) (Prod.fst p.1) (Prod.fst p.1) x p.2)
 YE
def lO (d:Nat) (w0 w1:W) (h:aA):aE T (d+1) "_law_problem" [w0,w1] h =
 YP
 (YP (aN 2 (xb (Y2 (aB 0) (YJ 0)) (YF d "_law_cell_at")) [some w0,some w1,none,none,none,none,none,none,none,none,none,none,none,none,none,none,none] h) (YQ fun δ' p =>
 YP
 (aN 3
 (xb
 (Y1 (aM
 (xb
 (xb (YJ 8) YR)
 fun (p:List PyData×Cw) (δ:DSt) (h:aA)=>aR (YG 0) (aD true) (xb (Y1 (xb (xb (YJ 12) fun u=>xb (xb (xb (aB 1) (YB .FloorDiv 2)) fun u=>xb (xb (YJ 1) fun u=>xb (xb (YJ 3) fun u=>xb (aB 0) (YO .Mult u)) (YO .Add u)) (YO .FloorDiv u)) (YO .Mult u)) (YB .Add 1))) (YF d "_law_value")) p.2 p.1 p.1 (aU [none,some 2] δ) h [])))
 (YK bS))
 δ' p.2)
 (YQ fun δ' p =>
 YP
 (aN 4
 (xb
 (Y3 (xb (aB 0) fun (x:W) =>
 xb
 (xb (YJ 3) YU)
 fun (l:Option Int) =>
 xb
 (xb (xb (YJ 3) fun u=>xb (aB 1) (YO .Add u)) YU)
 (YS3 x l)) (aB 2) (aB 3))
 (YF d "_law_items"))
 δ' p.2)
 (YQ fun δ' p =>
 YP
 (aN 5
 (aM
 (xb (Y1 (xb (Y1 (aB 4)) (YK bN))) fun (ws:List W) (x:DSt) (h:aA) =>
 match ws with
           | [W.d (PyData.int j)]=>if -2^62<=j/\j < 2^62/\j<=16000000 then some (rng 0 (Int.toNat j),h) else none
           | x=>none))
 δ' p.2)
 (YQ fun δ' p =>
 YP (aN 6 (aV (xPl (aD []))) δ' p.2) (YQ fun δ' p =>
 YP (aN 7 (xb (Y2 (aB 0) (YJ 1)) (YF d "_law_cell_at")) δ' p.2) (YQ fun δ' p =>
 YP
 (YP (bK (aB 5) δ' p.2) fun (p:(List PyData×Cw)×aA) =>
 bR (YG 8)
 (bJ d)
 (Prod.snd p.1) (Prod.fst p.1) (Prod.fst p.1) δ' p.2)
 (YQ fun δ' p =>
 YP (aN 11 (aM (xb (bK (aB 5)) fun (p:List PyData×Cw) (δ:DSt) (h:aA)=>aR (YG 0) (xC1 CmpOp.Eq (xb (xb (aB 1) fun x=>xb (aB 0) (YX x)) (YI 2)) (YS "must")) (aB 0) p.2 p.1 p.1 (aU [none,some 4] δ) h [])) δ' p.2) (YQ fun δ' p =>
 YP (aN 12 (aV (xPl (aD []))) δ' p.2) (YQ fun δ' p =>
 YP (aN 13 (xb (Y2 (aB 0) (YJ 2)) (YF d "_law_cell_at")) δ' p.2) (YQ fun δ' p =>
 YP
 (YP
 (xb (xb (aB 13) (YB .Mod 4))
 (YR)
 δ' p.2)
 fun (p:(List PyData×Cw)×aA) =>
 bR (YG 14)
 (bI d)
 (Prod.snd p.1) (Prod.fst p.1) (Prod.fst p.1) δ' p.2)
 (YQ fun δ' p =>
 YP (YP (xb (xPl (Y4 (aB 3) (aB 4) (xb (Y1 (aB 6)) (YK bS)) (xb (Y1 (aB 12)) (YK bS)))) (YT) δ' p.2) YW) YE))))))))))))
 (aO h):=by kernel_rfl
def qH (d:Nat) (w0 w1:W) (h:aA):aE T (d+1) "_law_good" [w0,w1] h =
 YP
 (YP (aN 2 (xb (aB 0) fun u=>xb (aB 1) (YO .Mod u)) [some w0,some w1,none,none,none,none,none] h) (YQ fun δ' p =>
 YP (aN 3 (xb (xb (aB 0) (YB .FloorDiv 16)) fun u=>xb (aB 1) (YO .Mod u)) δ' p.2) (YQ fun δ' p =>
 YP (aN 4 (xb (xb (aB 0) (YB .FloorDiv 256)) fun u=>xb (aB 1) (YO .Mod u)) δ' p.2) (YQ fun δ' p =>
 YP (aN 5 (xb (xb (aB 0) (YB .FloorDiv 4096)) (YB .Mod 8)) δ' p.2) (YQ fun δ' p =>
 YP (aN 6 (aM (xPl (Y6 (xb (xPl (Y1 (YS "told"))) YT) (xb (xPl (Y2 (YS "through") (aB 4))) YT) (xb (xPl (Y2 (YS "only") (aB 5))) YT) (xb (xPl (Y2 (YS "first") (aB 5))) YT) (xb (xPl (Y3 (YS "late") (aB 5) (aB 4))) YT) (xb (xPl (Y3 (YS "early") (aB 5) (aB 4))) YT)))) δ' p.2) (YQ fun δ' p =>
 YP (YP (xb (xPl (Y3 (aB 2) (aB 3) (xb (xb (aB 6) fun u=>xb (aM (xPl (Y1 (xb (xPl (Y2 (YS "apart") (aB 4))) YT)))) (YO .Add u)) fun x=>xb (xb (xb (aB 0) (YB .FloorDiv 32768)) (YB .Mod 7)) (YX x)))) (YT) δ' p.2) YW) YE))))))
 (aO h):=by kernel_rfl
def qI (d:Nat) (w0 w1:W) (h:aA):aE T (d+1) "_law_none" [w0,w1] h =
 YP
 (YP (aN 2 (xb (Y2 (xb (aB 0) (YB .FloorDiv 39)) (aB 1)) (YF d "_law_good")) [some w0,some w1,none,none,none,none,none,none] h) (YQ fun δ' p =>
 YP (YP (aB 2 δ' p.2) fun p=>YP (bU [YG 3,YG 4,YG 5] p.1 δ' p.2) fun (q:DSt×aA)=>some (Fl.nx (q.1),q.2)) (YQ fun δ' p =>
 YP
 (aN 6
 (aV
 (xPl
 (xb (YZ) fun (w:W) =>
 xb
 (xb (YJ 7) fun (w:W) =>
 xb
 (xb (YS "told") fun (w:W) =>
 xb
 (Y7 (xb (xPl (aD [])) YT) (aM
 (xb (Y1 (aB 2)) fun (ws:List W) (x:DSt) (h:aA) =>
 match ws with
                    | [w] =>
                     match ref h w with
                     | some (PyData.list xs)=>some (xs,h)
                     | some (PyData.tuple xs)=>some (xs,h)
                     | x=>none
                    | x=>none)) (xb (xPl (Y2 (aB 3) (aB 4))) YT) (xb (aB 2) fun u=>xb (xb (xPl (Y1 (YJ 0))) YT) (YO .Add u)) (xb (xPl (Y3 (aB 1) (aB 4) (aB 5))) YT) (xb (xPl (Y3 (aB 3) (aB 1) (aB 5))) YT) (xb
 (xPl
 (Y3 (xb (YJ 1) YNg) (aB 4) (aB 5)))
 YT))
 (YC w))
 (YC w))
 (YC w))))
 δ' p.2)
 (YQ fun δ' p =>
 YP
 (aN 6
 (aV
 (xb (aB 6) fun (u:W) =>
 xb
 (aM
 (xPl
 (Y6 (xb
 (xPl
 (Y3 (aB 3) (xb (YJ 1) YNg) (aB 5)))
 YT) (xb (xPl (Y3 (aD (W.d (PyData.bool true))) (aB 4) (aB 5))) YT) (xb (xPl (Y3 (aB 3) (YZ) (aB 5))) YT) (xb (xPl (Y3 (aB 3) (aB 4) (YZ))) YT) (xb (xPl (Y3 (aB 3) (aB 4) (xb (xPl (aD [])) YT))) YT) (xb (xPl (Y3 (aB 3) (aB 4) (YS "told"))) YT))))
 fun (w:W) (x:DSt) (h:aA) =>
 match ref h u,ref h w with
            | some (PyData.list xs),some (PyData.list ys)=>if List.length xs+List.length ys<=sizeLine then some (xs++ys,h) else none
            | x,x_1=>none))
 δ' p.2)
 (YQ fun δ' p =>
 YP (YP (xb (aB 6) ((YA (Y1 (xb (xPl (Y3 (aB 3) (aB 4) (aM (xPl (Y1 (YS "told")))))) YT)))) δ' p.2) fun p=>some (Fl.nx δ',p.2)) (YQ fun δ' p =>
 YP
 (aN 6
 (aV
 (xb (aB 6) fun (u:W) =>
 xb (aM (xPl (Y4 (xb (xPl (Y3 (aB 3) (aB 4) (xb (xPl (Y2 (YS "told") (YJ 0))) YT))) YT) (xb (xPl (Y3 (aB 3) (aB 4) (xb (xPl (Y1 (YS "through"))) YT))) YT) (xb (xPl (Y3 (aB 3) (aB 4) (xb (xPl (Y2 (YS "through") (aB 1))) YT))) YT) (xb (xPl (Y3 (aB 3) (aB 4) (xb (xPl (Y2 (YS "only") (YJ 8))) YT))) YT)))) fun (w:W) (x:DSt) (h:aA) =>
 match ref h u,ref h w with
                | some (PyData.list xs),some (PyData.list ys)=>if List.length xs+List.length ys<=sizeLine then some (xs++ys,h) else none
                | x,x_1=>none))
 δ' p.2)
 (YQ fun δ' p =>
 YP
 (aN 6
 (aV
 (xb (aB 6) fun (u:W) =>
 xb
 (aM
 (xPl
 (Y4 (xb
 (xPl
 (Y3 (aB 3) (aB 4) (xb
 (xPl
 (Y2 (YS "only") (xb (YJ 1) YNg)))
 YT)))
 YT) (xb (xPl (Y3 (aB 3) (aB 4) (xb (xPl (Y1 (YS "first"))) YT))) YT) (xb (xPl (Y3 (aB 3) (aB 4) (xb (xPl (Y3 (YS "first") (YJ 0) (YJ 0))) YT))) YT) (xb (xPl (Y3 (aB 3) (aB 4) (xb (xPl (Y2 (YS "late") (YJ 0))) YT))) YT))))
 fun (w:W) (x:DSt) (h:aA) =>
 match ref h u,ref h w with
                  | some (PyData.list xs),some (PyData.list ys)=>if List.length xs+List.length ys<=sizeLine then some (xs++ys,h) else none
                  | x,x_1=>none))
 δ' p.2)
 (YQ fun δ' p =>
 YP
 (aN 6
 (aV
 (xb (aB 6) fun (u:W) =>
 xb
 (aM
 (xPl
 (Y3 (xb (xPl (Y3 (aB 3) (aB 4) (xb (xPl (Y3 (YS "late") (YJ 0) (aB 1))) YT))) YT) (xb (xPl (Y3 (aB 3) (aB 4) (xb (xPl (Y3 (YS "late") (YJ 8) (YJ 0))) YT))) YT) (xb
 (xPl
 (Y3 (aB 3) (aB 4) (xb
 (xPl
 (Y3 (YS "early") (YJ 0) (xb (YJ 1) YNg)))
 YT)))
 YT))))
 fun (w:W) (x:DSt) (h:aA) =>
 match ref h u,ref h w with
                    | some (PyData.list xs),some (PyData.list ys)=>if List.length xs+List.length ys<=sizeLine then some (xs++ys,h) else none
                    | x,x_1=>none))
 δ' p.2)
 (YQ fun δ' p =>
 YP (YP (xb (aB 6) ((YA (Y1 (xb (xPl (Y3 (aB 3) (aB 4) (xb (xPl (Y4 (YS "early") (YJ 0) (YJ 0) (YJ 0))) YT))) YT)))) δ' p.2) fun p=>some (Fl.nx δ',p.2)) (YQ fun δ' p =>
 YP
 (aN 6
 (aV
 (xb (aB 6) fun (u:W) =>
 xb (aM (xPl (Y3 (xb (xPl (Y3 (aB 3) (aB 4) (xb (xPl (Y1 (YS "apart"))) YT))) YT) (xb (xPl (Y3 (aB 3) (aB 4) (xb (xPl (Y2 (YS "apart") (YZ))) YT))) YT) (xb (xPl (Y3 (aB 3) (aB 4) (xb (xPl (Y1 (YS "Told"))) YT))) YT)))) fun (w:W) (x:DSt) (h:aA) =>
 match ref h u,ref h w with
                        | some (PyData.list xs),some (PyData.list ys)=>if List.length xs+List.length ys<=sizeLine then some (xs++ys,h) else none
                        | x,x_1=>none))
 δ' p.2)
 (YQ fun δ' p =>
 YP (aN 7 (aM (xPl (Y6 (xb (xPl (Y2 (YS "through") (aD (W.d (PyData.bool true))))) YT) (xb (xPl (Y2 (YS "apart") (aD (W.d (PyData.bool false))))) YT) (xb (xPl (Y2 (YS "only") (aD (W.d (PyData.bool true))))) YT) (xb (xPl (Y2 (YS "first") (aD (W.d (PyData.bool false))))) YT) (xb (xPl (Y3 (YS "late") (aD (W.d (PyData.bool true))) (YJ 0))) YT) (xb (xPl (Y3 (YS "late") (YJ 0) (aD (W.d (PyData.bool true))))) YT)))) δ' p.2) (YQ fun δ' p =>
 YP (YP (xb (xb (aB 6) fun u=>xb (aM (xb (bK (xb (aB 7) fun u=>xb (aM (xPl (Y1 (xb (xPl (Y3 (YS "early") (YJ 0) (aD (W.d (PyData.bool false))))) YT)))) (YO .Add u))) fun (p:List PyData×Cw) (δ:DSt) (h:aA)=>aR (YG 0) (aD true) (xb (xPl (Y3 (aB 1) (aB 2) (aB 0))) YT) p.2 p.1 p.1 (aU [none,some 3,some 4] δ) h [])) (YO .Add u)) (fun x=>xb (xb (aB 0) (YB .Mod 39)) (YX x)) δ' p.2) YW) YE))))))))))))
 (aO h):=by kernel_rfl
end K30

namespace K30
open PySem PySem.Spec PyProof.Rows L2 DL CI SJ
abbrev Ow {α β:Type} (_:α->Option β):=Option α
noncomputable def bd {α β:Type} (f:α->Option β) (x:Ow f):Option β:=Option.bind x f
@[simp ↓ high] theorem bdi {α β:Type} (x:Option α) (f:α->Option β):x.bind f=bd f x:=rfl
@[simp high] theorem bds {α β:Type} (a:α) (f:α->Option β):bd f (some a)=f a:=id rfl
@[simp ↓ high] theorem bdy {α β:Type} (x:Option α) (f:α->Option β):YP x f=bd f x:=rfl
@[simp ↓ high] theorem ynx (k:DSt->Fl×aA->Option (Fl×aA)) (δ:DSt) (h:aA):YQ k (.nx δ,h)=k δ (.nx δ,h):=id rfl
@[simp ↓ high] theorem yrt (k:DSt->Fl×aA->Option (Fl×aA)) (w:W) (h:aA):YQ k (.rt w,h)=some (.rt w,h):=id rfl
@[simp ↓ high] theorem yE (f:Fl) (h:aA):YE (f,h)=some (f,h):=by cases f<;>rfl
@[simp ↓ high] theorem xba {α β:Type} (x:XR α) (f:α->XR β) (δ:DSt) (h:aA):xb x f δ h=bd (fun p=>f p.1 δ p.2) (x δ h):=rfl
@[simp ↓ high] theorem xsa (i:Nat) (x:XR W) (δ:DSt) (h:aA):aN i x δ h=bd (fun p=>some (.nx (δ.set i (some p.1)),p.2)) (x δ h):=rfl
variable (d:Nat) (h:aA)
def aJ9 (cs:List One):PyData:=.tuple [.str "deal",.tuple (cs.map One.dat)]
end K30

namespace K30
open PySem PySem.Spec PyProof.Rows L2 DL CI SJ
variable (d:Nat) (x:PyData) (h:aA)
@[simp] theorem fB:aE T (d+1) "is_whole" [.d x] h=some (.bool (dZ x),h):=by
 cases x<;>simp [rY,isi,dG,dZ]
@[simp] theorem oW (lo hi:Int):aE T (d+2) "is_between" [.d x,.d (.int lo),.d (.int hi)] h=some (.bool (aS x lo hi),h):=by
 cases x<;>simp [oP,fB,aS,dZ];split<;>simp_all;omega
@[simp] theorem gF (n:Int):aE T (d+1) "is_tuple_of" [.d x,.d (.int n)] h=some (.bool (bG x n),h):=by
 cases x<;>simp [lZ,isi,dG,bG]
@[simp] theorem cT (xs:List PyData):aE T (d+2) "are_whole" [.d (.tuple xs)] h=some (.bool (xs.all dZ),h):=by
 simp [qC];rw [bM (fun x=>.bool (dZ x)) 0 (fun _ _ _=>rfl)]
 ·simp [bools_map]
 ·intro y _ u;simp [fB]
@[simp] theorem lP:aE T (d+3) "is_key" [.d x] h=some (.bool (eB x),h):=by
 simp [zP,oW,eB]
def tp (a:PyData):(∃ ps,a=.tuple ps)\/((∀ n,bG a n=false)/\isi a "tuple"=false/\cZ a=.none/\bE a=false/\dD a=false/\(∀ s,dB (.tuple [.str s,a])=false/\iK (.tuple [.str s,a])=false)/\∀ s,(∀ lo hi,aY (.span lo hi) (.tuple [.str s,a])=false)/\∀ cs,aY (.deal cs) (.tuple [.str s,a])=false):=by
 cases a<;>first | exact .inl ⟨_,rfl⟩ | exact .inr ⟨fun _=>rfl,rfl,rfl,rfl,rfl,fun _=>⟨rfl,rfl⟩,fun _=>⟨fun _ _=>rfl,fun _=>rfl⟩⟩
@[simp] theorem nB:aE T (d+1) "word_of" [.d x] h=some (cZ x,h):=by
 rcases tp x with ⟨xs,rfl⟩ | hn
 ·cases xs with
  | nil=>simp [fU,isi,dG,cZ]
  | cons y r =>
   cases hs:isi y "str"
   ·have:cZ (.tuple (y::r))=.none:=by cases y<;>first | rfl | cases hs
    simp [fU,show ∀ xs,isi (.tuple xs) "tuple"=true from fun _=>rfl,hs,this]
   ·obtain ⟨s,rfl⟩:∃ s,y=.str s:=by cases y<;>first | exact ⟨_,rfl⟩ | cases hs
    simp [fU,isi,dG,cZ]
 ·simp [fU,hn]
end K30

namespace K30
open PySem PySem.Spec PyProof.Rows L2 DL CI SJ
variable (d:Nat) (x:PyData) (h:aA)
@[simp] theorem fQ (s:Str) (n:Int):aE T (d+2) "is_worded" [.d x,.d (.str s),.d (.int n)] h=some (.bool (aK x s n),h):=by
 simp [qD,nB];cases x<;>simp [cZ,aK];rename_i xs;cases xs with
 | nil=>simp [cZ,aK]
 | cons y r=>cases y<;>simp [cZ,aK];rename_i t;cases e:(t==s)<;>simp
def lk (s:Str):List.lookup s [(Str.ofString "read",PyData.int 0),(Str.ofString "write",.int 1),(Str.ofString "add",.int 1),(Str.ofString "swap",.int 2)]=(nb s).map .int:=by
 unfold nb;simp only [List.lookup]
 repeat' split
 all_goals simp_all
def bV0 (a b:PyData) (r:List PyData):cut (a::b::r) (some 2) none=r:=by
 have e1:HT.sIx (a::b::r).length 0 (some 2)=2:=by simp [HT.sIx]
 have e2:HT.sIx (a::b::r).length (a::b::r).length none=r.length+2:=by simp [HT.sIx]
 rw [cut,e1,e2];simp
def bG3 (a:PyData) (r:List PyData):cut (a::r) (some 1) none=r:=by
 have e1:HT.sIx (a::r).length 0 (some 1)=1:=by simp [HT.sIx]
 have e2:HT.sIx (a::r).length (a::r).length none=r.length+1:=by simp [HT.sIx]
 rw [cut,e1,e2];simp
@[simp] theorem jR:aE T (d+4) "is_single" [.d x] h=some (.bool (bE x),h):=by
 simp [qE,nB,lP,cT,lk];rcases tp x with ⟨xs,rfl⟩ | hn
 rotate_left
 ·simp [hn]
 cases xs with
 | nil=>simp [cZ,bE]
 | cons y r =>
  cases y<;>simp [cZ,bE];rename_i t;cases e:nb t with
  | none=>simp
  | some n =>
   have hn:0<=n:=by
    unfold nb at e
    repeat' split at e
    all_goals simp at e
    all_goals omega
   by_cases hl:(r.length:Int)+1=2+n
   ·cases r with
    | nil=>simp at hl;omega
    | cons k vs =>
     cases ek:eB k<;>simp_all [lP,bV0,cT,lk]
   ·simp [hl,e,lk]
def fD {x:PyData} {s:Str} (e:aK x s 2=true):∃ a,x=.tuple [.str s,a]:=by
 unfold aK at e;split at e
 ·rename_i t r;simp at e;obtain ⟨rfl,e⟩:=e
  match r,e with
  | [a],_=>exact ⟨a,rfl⟩
  | [],e=>simp at e
  | _::_::_,e=>simp at e;omega
 ·cases e
def aG3 {x:PyData} {s:Str} (e:aK x s 3=true):∃ a b,x=.tuple [.str s,a,b]:=by
 unfold aK at e;split at e
 ·rename_i t r;simp at e;obtain ⟨rfl,e⟩:=e
  match r,e with
  | [a,b],_=>exact ⟨a,b,rfl⟩
  | [],e=>simp at e
  | [_],e=>simp at e
  | _::_::_::_,e=>simp at e;omega
 ·cases e
def aG4 {x:PyData} (e:aK x "span" 3=false):dA x=false:=by
 unfold dA;split
 ·simp [aK] at e;simp [e]
 ·rfl
def aG5 {x:PyData} (e:aK x "deal" 2=false):dB x=false:=by
 unfold dB;split
 ·simp [aK] at e;simp [e]
 ·rfl
def aG6 {x:PyData} (e:aK x "look" 2=false):gU x=false:=by
 unfold gU;split
 ·simp [aK] at e;simp [e]
 ·rfl
def aU0 {x:PyData} (e:aK x "lay" 2=false):iK x=false:=by
 unfold iK;split
 ·simp [aK] at e;simp [e]
 ·rfl
@[simp] theorem vQ:aE T (d+3) "is_span" [.d x] h=some (.bool (dA x),h):=by
 simp [vK,fQ,cT];cases e:aK x (Str.ofString "span") 3
 ·simp [aG4 e]
 ·obtain ⟨a,b,rfl⟩:=aG3 e;simp [bG3,cT];have wn:∀ {x},dZ x=true->∃ i,x=.int i:=fun {x} h=>by cases x<;>first | exact ⟨_,rfl⟩ | cases h
  cases ha:dZ a
  ·have:dA (.tuple [.str (Str.ofString "span"),a,b])=false:=by cases a<;>first | rfl | cases ha
   simp [this]
  obtain ⟨i,rfl⟩:=wn ha;cases hb:dZ b
  ·have:dA (.tuple [.str (Str.ofString "span"),.int i,b])=false:=by cases b<;>first | rfl | cases hb
   simp [dZ,this]
  obtain ⟨j,rfl⟩:=wn hb;simp [dZ,dA]
  by_cases h1:0<=i<;>by_cases h2:i < j<;>simp [h1,h2]
@[simp] theorem vR:aE T (d+5) "is_deal" [.d x] h=some (.bool (dB x),h):=by
 simp [vL,fQ];cases e:aK x (Str.ofString "deal") 2
 ·simp [aG5 e]
 ·obtain ⟨a,rfl⟩:=fD e;rcases tp a with ⟨ps,rfl⟩ | hn
  rotate_left
  ·simp [hn]
  simp [isi,dG,dB]
  by_cases h1:(1:Int)<=ps.length
  ·by_cases h2:(ps.length:Int)<=4
   ·simp [h1,h2];rw [bM (fun x=>.bool (bE x)) 0 (fun _ _ _=>rfl)]
    ·have h3:1<=ps.length:=by omega
     have h4:ps.length<=4:=by omega
     simp [bools_map,h3,h4]
    ·intro y _ u;simp [jR]
   ·have h4:¬ ps.length<=4:=by omega
    simp [h1,h2,h4]
  ·have h4:¬ 1<=ps.length:=by omega
   simp [h1,h4]
@[simp] theorem vS:aE T (d+6) "is_call" [.d x] h=some (.bool (bZ x),h):=by
 simp [vM,jR,vQ,vR,bZ];cases e1:bE x<;>cases e2:dA x<;>cases e3:dB x<;>simp [e1,e2,e3]
@[simp] theorem aX7:aE T (d+7) "is_look" [.d x] h=some (.bool (gU x),h):=by
 simp [vN,fQ];cases e:aK x (Str.ofString "look") 2
 ·simp [aG6 e]
 ·obtain ⟨a,rfl⟩:=fD e;simp [vS,gU]
@[simp] theorem wC:aE T (d+4) "is_value_pair" [.d x] h=some (.bool (dD x),h):=by
 simp [jW,gF];rcases tp x with ⟨xs,rfl⟩ | hn
 rotate_left
 ·simp [hn]
 simp [bG]
 match xs with
 | []=>simp [dD]
 | [a]=>simp [dD]
 | [a,b] =>
  simp [lP,fB,dD];cases eB a<;>simp [fB]
 | a::b::c::r =>
  have:¬ ((r.length:Int)+1+1+1=2):=by omega
  simp [dD,this]
def fV {n:Int} (h0:-5<=n) (h1:n<=100000):fY 0 n=true:=by
 unfold fY;simp;omega
def iM {ns:List Int} {i:Nat} (hi:i < ns.length):atI (ns.map PyData.int) (i:Int)=some (.int (ns.getD i 0)):=by
 unfold atI;rw [ix_nat (by simpa using hi)];simp [List.getD,hi]
def vT (n:Nat):rng 0 n=(List.range n).map fun (i:Nat)=>PyData.int (i:Int):=by
 unfold rng;simp
def aU1 {w:W} {ns:List Int} (hl:ns.length<=1000) (l1:∀ h,bN [w] h=some (.d (.int ns.length),h)) (ix:∀ (i:Int) h,xIx w (.d (.int i)) h=(atI (ns.map .int) i).map fun v=>(.d v,h)):aE T (d+1) "are_rising" [w] h=some (.bool (aF4 ns),h):=by
 simp [oQ,l1];rw [if_pos (fV (by omega) (by omega))];simp only [bds];rw [bM (fun x=>.bool (decide (ns.getD (cK x).toNat 0 < ns.getD ((cK x).toNat+1) 0))) 0 (fun _ _ _=>rfl)]
 ·simp only [List.nil_append,bds,yE,all_map];rw [vT,List.all_map,aF2];rfl
 ·intro y hy u;rw [vT] at hy;obtain ⟨k,hk,rfl⟩:=List.mem_map.mp hy;have hk:=List.mem_range.mp hk;have e2:((k:Int)+1)=((k+1:Nat):Int):=rfl;simp [ix,iM (show k < ns.length by omega),cK];rw [e2,iM (by omega)];simp
noncomputable def cU:PyData->Bool
 | .tuple [_,.tuple ps]=>decide (ps.length<=1000)
 | _=>true
def zR (hs:cU x=true):aE T (d+5) "is_lay" [.d x] h=some (.bool (iK x),h):=by
 simp [zQ];cases e:aK x (Str.ofString "lay") 2
 ·simp [aU0 e]
 ·obtain ⟨a,rfl⟩:=fD e;rcases tp a with ⟨ps,rfl⟩ | hn
  rotate_left
  ·simp [hn]
  simp [isi,dG,iK]
  replace hs:ps.length<=1000:=of_decide_eq_true hs
  by_cases hp:ps=[]
  ·subst hp;simp
  ·have hn:¬ ((ps.length:Int)=0):=by
    have:ps.length≠0:=fun z=>hp (List.length_eq_zero_iff.mp z);omega
   simp [hp];rw [bM (fun x=>.bool (dD x)) 0 (fun _ _ _=>rfl)]
   ·simp only [List.nil_append,bds,yE,all_map];generalize ea:ps.all dD=b;cases b
    ·simp
    ·simp;rw [bM (fun x=>.int (cK (lJ x))) 0 (fun _ _ _=>rfl)]
     ·have e3:(ps.map fun x=>PyData.int (cK (lJ x)))=(ps.map fun p=>cK (lJ p)).map PyData.int:=by simp
      simp only [List.nil_append,bds,e3];rw [aU1 _ _ (ns:=ps.map fun p=>cK (lJ p)) (by simpa using hs) (fun _=>by simp) fun _ _=>rfl];simp [hp]
     ·intro y hy u;have:=List.all_eq_true.mp ea y hy;unfold dD at this;split at this
      ·rename_i k v;simp [eB,aS] at this;cases k<;>simp at this;simp [lJ,cK]
      ·cases this
   ·intro y _ u;simp
@[simp] theorem cQ (hs:cU x=true):aE T (d+8) "is_step" [.d x] h=some (.bool (eT x),h):=by
 simp [vO,eT];cases e1:bZ x<;>cases e2:gU x<;>simp [e2,zR _ _ _ hs]
end K30

namespace K30
open PySem PySem.Spec PyProof.Rows L2 DL CI SJ
variable (d:Nat) (t:PyData) (h:aA)
def zS {t:PyData} (e:aK t "got" 2=false):cL (.read 0) t=false:=by
 unfold cL;split
 ·split
  ·rename_i s v;cases es:(s==Str.ofString "got")
   ·simp
   ·simp at es;subst es;simp [aK] at e
  ·rfl
 all_goals rename_i e';cases e'
def nC (o:One):aE T (d+3) "is_own_answer" [.d o.dat,.d t] h=some (.bool (cL o t),h):=by
 cases o
 ·simp [aT,One.dat,PyData.eqv,cL,szl];cases e:aK t (Str.ofString "got") 2
  ·simp;exact zS e
  ·obtain ⟨v,rfl⟩:=fD e;simp
 ·simp [aT,One.dat,PyData.eqv,cL,szl]
 ·simp [aT,One.dat,PyData.eqv,cL,szl];cases e:aK t (Str.ofString "got") 2
  ·simp;exact zS e
  ·obtain ⟨v,rfl⟩:=fD e;simp
 ·simp [aT,One.dat,PyData.eqv,cL,szl];cases e:aK t (Str.ofString "yes") 1<;>simp
end K30

namespace K30
open PySem PySem.Spec PyProof.Rows L2 DL CI SJ
variable (d:Nat) (t:PyData) (h:aA)
def aU2 {t:PyData} {lo hi:Nat} (e:aK t "all" 2=false):aY (.span lo hi) t=false:=by
 unfold aY;split
 ·rename_i e';cases e'
 ·split
  ·rename_i s xs;cases es:(s==Str.ofString "all")
   ·simp
   ·simp at es;subst es;simp [aK] at e
  ·rfl
 ·rename_i e';cases e'
def aG7 {t:PyData} {cs:List One} (e:aK t "each" 2=false):aY (.deal cs) t=false:=by
 unfold aY;split
 ·rename_i e';cases e'
 ·rename_i e';cases e'
 ·split
  ·rename_i s xs;cases es:(s==Str.ofString "each")
   ·simp
   ·simp at es;subst es;simp [aK] at e
  ·rfl
def zps (cs:List One) (xs:List PyData):List (PyData×PyData):=(cs.zip xs).map fun p=>(.tuple [p.1.dat,p.2],.bool (cL p.1 p.2))
theorem aK0:∀ (cs:List One) (xs:List PyData),eY (cs.map One.dat) xs=(zps cs xs).map (·.1)
 | [],_=>by simp [eY,zps]
 | _::_,[]=>by simp [eY,zps]
 | c::cs,x::xs=>by
  have:=aK0 cs xs;unfold eY zps at this ⊢;simp at this ⊢;exact this
def bG4:∀ (cs:List One) (xs:List PyData),(zps cs xs).map (·.2)=((cs.zip xs).map fun p=>cL p.1 p.2).map PyData.bool:=fun cs xs=>by simp [zps]
theorem tT:∀ (cs:List One) (xs:List PyData),((cs.zip xs).map fun p=>cL p.1 p.2).all id=eK cs xs
 | [],_=>by simp [eK]
 | _::_,[]=>by simp [eK]
 | c::cs,x::xs=>by
  have:=tT cs xs;simp [eK] at this ⊢;rw [this]
theorem tU:∀ bs:List Bool,dE (bs.map PyData.bool)=some bs
 | []=>rfl
 | b::r=>by simp [dE,tU r]
def sA (lo hi:Nat):aE T (d+4) "is_own_answer" [.d (Call.span lo hi).dat,.d t] h=some (.bool (aY (.span lo hi) t),h):=by
 simp [aT,Call.dat,PyData.eqv,szl];cases e:aK t (Str.ofString "all") 2
 ·simp;exact aU2 e
 ·obtain ⟨v,rfl⟩:=fD e;rcases tp v with ⟨xs,rfl⟩ | hn
  rotate_left
  ·simp [hn]
  simp [bG,aY]
  by_cases hl:(xs.length:Int)=(hi:Int) - lo<;>simp [hl]
def sB (cs:List One):aE T (d+4) "is_own_answer" [.d (Call.deal cs).dat,.d t] h=some (.bool (aY (.deal cs) t),h):=by
 simp [aT,Call.dat,PyData.eqv,szl];cases e:aK t (Str.ofString "each") 2
 ·simp;exact aG7 e
 ·obtain ⟨v,rfl⟩:=fD e;rcases tp v with ⟨xs,rfl⟩ | hn
  rotate_left
  ·simp [hn]
  simp [bG,aY]
  by_cases hl:(xs.length:Int)=cs.length
  ·have hl':xs.length=cs.length:=by omega
   simp [hl,hl'];rw [aK0,cP (fun δ=>∃ a b,δ=[a,b]) _ _ _ ⟨_,_,rfl⟩]
   ·have hz:=tT cs xs;rw [bG4];generalize ((cs.zip xs).map fun p=>cL p.1 p.2)=L at hz ⊢;simp [tU,hz]
   ·intro p hp δ ⟨a,b,e⟩;subst e;obtain ⟨⟨o,x⟩,_,rfl⟩:=List.mem_map.mp hp;refine ⟨[some (.d o.dat),some (.d x)],by simp [bU,iV],⟨_,_,rfl⟩,?_⟩;simp [nC]
  ·have hl':¬ xs.length=cs.length:=by omega
   simp [hl,hl']
def lQ (c:SJ.Call):aE T (d+4) "is_own_answer" [.d c.dat,.d t] h=some (.bool (aY c t),h):=by
 cases c with
 | one o=>exact nC (d+1) t h o
 | span lo hi=>exact sA d t h lo hi
 | deal cs=>exact sB d t h cs
end K30

namespace K30
open PySem PySem.Spec PyProof.Rows L2 DL CI SJ
variable (d:Nat) (t:PyData) (h:aA)
def lR {c:SJ.Call} (hc:c.ok):cU c.dat=true:=by
 cases c with
 | one o=>cases o<;>simp [Call.dat,One.dat,cU]
 | span lo hi=>simp [Call.dat,cU]
 | deal cs =>
  have:=hc.1;simp [Call.dat,cU];omega
def sE {c:SJ.Call} (hc:c.ok):aE T (d+9) "is_answer" [.d c.dat,.d t] h=some (.bool (aK t "refused" 1||aY c t),h):=by
 simp [fN,cQ (d) c.dat h (lR hc),(eX hc).2.1,(eX hc).1];cases e:aK t (Str.ofString "refused") 1
 ·simp [lQ (d+4)]
 ·simp [(eX hc).1]
def sG {ps:List (Nat×Int)} (hn:ps≠[]) (hl:ps.length<=1000) (hk:∀ p∈ps,p.1 < 8) (hr:(ps.map (·.1)).Pairwise (· < ·)):aE T (d+8) "is_step" [.d (.tuple [.str "lay",.tuple (ps.map prP)])] h=some (.bool true,h):=by
 rw [cQ _ _ _ (by simpa [cU] using hl)];obtain ⟨q1,q2,q3⟩:=jF hk;have e:=tS hr;rw [List.map_map] at e;have e1:iK (.tuple [.str "lay",.tuple (ps.map prP)])=true:=by
  unfold iK;simp only [q1,q3,List.isEmpty_map];have:ps.isEmpty=false:=by simpa using hn
  rw [this]
  simpa [Function.comp_def] using e
 simp [eT,e1]
end K30

namespace K30
open PySem PySem.Spec PyProof.Rows L2 DL CI SJ
variable (d:Nat) (h:aA)
noncomputable def wv (st:List Int) (k:Nat) (v:Int):List Int:=st.take k++v::st.drop (k+1)
def jI {st:List Int} {k:Nat} (hk:k < st.length) (v:Int):(wv st k v).length=st.length:=by
 unfold wv;simp;omega
def sd (st:List Int):One->An1×List Int
 | .read k=>(.got (st.getD k 0),st)
 | .write k v=>(.dn,wv st k v)
 | .add k v=>(.got (st.getD k 0+v),wv st k (st.getD k 0+v))
 | .swap k x y=>if st.getD k 0=x then (.yes,wv st k y) else (.no,st)
def dr (st:List Int):List One->List An1×List Int
 | []=>([],st)
 | o::r=>((sd st o).1::(dr (sd st o).2 r).1,(dr (sd st o).2 r).2)
def sH {st:List Int} {o:One} (hk:o.key < st.length):(sd st o).2.length=st.length:=by
 cases o<;>simp only [One.key] at hk<;>simp only [sd]
 ·exact jI hk _
 ·exact jI hk _
 ·split
  ·exact jI hk _
  ·rfl
def tV (st:List Int) (o:One):An1.fits o (sd st o).1:=by
 cases o<;>simp only [sd]<;>first | trivial | (split<;>trivial)
def oX (xs:List PyData) {m:Nat} (hm:m<=xs.length):cut xs none (some (m:Int))=xs.take m:=by
 have e1:HT.sIx xs.length 0 none=0:=by simp [HT.sIx]
 have e2:HT.sIx xs.length xs.length (some (m:Int))=m:=by
  unfold HT.sIx;simp only [];rw [if_neg (by omega)];omega
 rw [cut,e1,e2];simp
def aU3 (xs:List PyData) {m:Nat} (hm:m<=xs.length):cut xs (some (m:Int)) none=xs.drop m:=by
 have e1:HT.sIx xs.length 0 (some (m:Int))=m:=by
  unfold HT.sIx;simp only [];rw [if_neg (by omega)];omega
 have e2:HT.sIx xs.length xs.length none=xs.length:=by simp [HT.sIx]
 rw [cut,e1,e2];rw [List.take_of_length_le];simp
def tW {st:List Int} {k:Nat} (hk:k < st.length):atI (st.map PyData.int) (k:Int)=some (.int (st.getD k 0)):=dK (by simp [hk])
def zT (st:List Int) (k:Nat) (v:Int) (hk:k < 8) (hl:st.length=8):aE T (d+1) "with_value" [.d (.tuple (st.map .int)),.d (.int k),.d (.int v)] h=some (.tuple ((wv st k v).map .int),h):=by
 have c1:=oX (st.map PyData.int) (m:=k) (by simp;omega);have c2:=aU3 (st.map PyData.int) (m:=k+1) (by simp;omega);have c2':cut (st.map PyData.int) (some ((k:Int)+1)) none=(st.map PyData.int).drop (k+1):=c2;have l1:min k st.length<=16777215:=by omega
 have l2:min k st.length+1+(st.length - (k+1))<=16777216:=by omega
 have l3:min k 8+1+(8 - (k+1))<=16777216:=by omega
 have l4:min k 8<=16777215:=by omega
 have l5:min k 8+1+(7 - k)<=16777216:=by omega
 simp [oR,c1,c2',szl,wv,l1,hl,l3,l4,l5]
def qJ (st:List Int) (o:One) (hk:o.key < 8) (hl:st.length=8):aE T (d+2) "single_done" [.d (.tuple (st.map .int)),.d o.dat] h=some (.tuple [(sd st o).1.dat,.tuple ((sd st o).2.map .int)],h):=by
 cases o with
 | read k =>
  have:=tW (st:=st) (k:=k) (by simp [One.key] at hk;omega);simp [cB,One.dat,An1.dat,this,szl,sd]
 | write k v =>
  simp only [One.key] at hk;have:=tW (st:=st) (k:=k) (by omega);simp [cB,One.dat,An1.dat,this,szl,zT,hk,hl,sd]
 | add k v =>
  simp only [One.key] at hk;have:=tW (st:=st) (k:=k) (by omega);generalize e:st.getD k 0=w at this;simp only [sd,e];simp [cB,One.dat,An1.dat,this,szl,zT,hk,hl]
 | swap k x y =>
  simp only [One.key] at hk;have:=tW (st:=st) (k:=k) (by omega);generalize e:st.getD k 0=v at this;simp only [sd,e]
  by_cases e:v=x
  ·subst e;simp [cB,One.dat,An1.dat,this,szl,zT,hk,hl]
  ·simp [cB,One.dat,An1.dat,this,szl,zT,hk,hl,e]
theorem tX:∀ (cs:List One) (st:List Int) (o:One),dr st (cs++[o])=((dr st cs).1++[(sd (dr st cs).2 o).1],(sd (dr st cs).2 o).2)
 | [],st,o=>rfl
 | c::r,st,o=>by simp [dr,tX r]
theorem sI:∀ (cs:List One) (st:List Int),(∀ o∈cs,o.key < st.length)->(dr st cs).2.length=st.length
 | [],st,_=>rfl
 | o::r,st,hk=>by
  have h1:=hk o List.mem_cons_self;have:=sI r (sd st o).2 fun o' ho=>by rw [sH h1];exact hk o' (List.mem_cons_of_mem _ ho)
  rw [sH h1] at this;exact this
theorem aK1:∀ (cs:List One) (st:List Int),(dr st cs).1.length=cs.length
 | [],st=>rfl
 | o::r,st=>by simp [dr,aK1 r]
theorem zU:∀ (cs:List One) (st:List Int),Fit2 cs (dr st cs).1
 | [],st=>.nil
 | o::r,st=>.cons (tV st o) (zU r _)
def qK (cs:List One) (hk:∀ o∈cs,o.key < 8) (hc:cs.length<=100) (st:List Int) (hl:st.length=8):aE T (d+3) "deal_done" [.d (.tuple (st.map .int)),.d (.tuple (cs.map One.dat))] h=some (.tuple [.tuple [.str "each",.tuple ((dr st cs).1.map An1.dat)],.tuple ((dr st cs).2.map .int)],h):=by
 rw [show d+3=(d+2)+1 from rfl,qF];simp [szl];generalize hr:bR _ _ _ _ _ _ _=r;have kk:∃ δ' h',r=some (.nx δ',h')/\∃ (x1 x3 x4:Option W),δ'=[some (.d (.tuple ((dr st cs).2.map .int))),x1,some (.c h.length),x3,x4]/\h'=h++[.l ((dr st cs).1.map An1.dat)]:=by
  rw [<- hr];clear hr;refine dX (fun m δ' h'=>∃ (x1 x3 x4:Option W),δ'=[some (.d (.tuple ((dr st (cs.take m)).2.map .int))),x1,some (.c h.length),x3,x4]/\h'=h++[.l ((dr st (cs.take m)).1.map An1.dat)]) ⟨_,_,_,rfl,rfl⟩ (fun δ h'=>?_) ?_
  ·rw [List.length_map,List.take_length];exact id
  ·rintro m hm δ h' ⟨x1,x3,x4,rfl,rfl⟩;have hm':m < cs.length:=by simpa using hm
   have l2:(dr st (cs.take m)).2.length=8:=by rw [sI _ _ fun o ho=>by rw [hl];exact hk o (List.mem_of_mem_take ho)];exact hl
   have hs':=fun h=>qJ d h (dr st (cs.take m)).2 cs[m] (hk _ (List.getElem_mem _)) l2;have ll:(dr st (cs.take m)).1.length < 16777216:=by rw [aK1,List.length_take];omega
   have e:cs.take (m+1)=cs.take m++[cs[m]]:=by rw [List.take_add_one];simp [hm']
   rw [List.getElem_map,e,tX];generalize dr st (cs.take m)=q at *;obtain ⟨as,st'⟩:=q;have gl:=CI.get_last h (.l (as.map An1.dat));have mp:=CI.mpre_last h (as.map An1.dat);dsimp only at *;generalize sd st' cs[m]=p at hs';refine ⟨_,_,rfl,[some (.d (.tuple (p.2.map .int))),x1,some (.c h.length),some (.d cs[m].dat),some (.d (.tuple [p.1.dat,.tuple (p.2.map .int)]))],h++[.l ((as++[p.1]).map An1.dat)],?_,_,_,_,rfl,rfl⟩;simp [hs',gl,mp,ll,szl]
 obtain ⟨δ',h',rfl,x1,x3,x4,rfl,rfl⟩:=kk;have tl:bS [.c h.length] (h++[.l ((dr st cs).1.map An1.dat)])=some (.d (.tuple ((dr st cs).1.map An1.dat)),h++[.l ((dr st cs).1.map An1.dat)]):=by
  simp [bS,ref]
 simp [tl,szl]
def ly (st:List Int) (ps:List (Nat×Int)):List Int:=ps.foldl (fun s p=>wv s p.1 p.2) st
theorem zV:∀ (ps:List (Nat×Int)) (st:List Int),(∀ p∈ps,p.1 < st.length)->(ly st ps).length=st.length
 | [],st,_=>rfl
 | p::r,st,hk=>by
  have h1:=hk p List.mem_cons_self;have:=zV r (wv st p.1 p.2) fun q hq=>by rw [jI h1];exact hk q (List.mem_cons_of_mem _ hq)
  rw [jI h1] at this;exact this
def aU4 (ps:List (Nat×Int)) (hk:∀ p∈ps,p.1 < 8) (st:List Int) (hl:st.length=8):aE T (d+2) "laid" [.d (.tuple (st.map .int)),.d (.tuple (ps.map fun p=>.tuple [.int p.1,.int p.2]))] h=some (.tuple ((ly st ps).map .int),h):=by
 rw [show d+2=(d+1)+1 from rfl,aT9];simp;generalize hr:bR _ _ _ _ _ _ _=r;have kk:∃ δ' h',r=some (.nx δ',h')/\∃ x1 x2 x3,δ'=[some (.d (.tuple ((ly st ps).map .int))),x1,x2,x3]/\h'=h:=by
  rw [<- hr];clear hr;refine rX (fun p:Nat×Int=>.tuple [.int p.1,.int p.2]) (fun s p=>wv s p.1 p.2) (fun s δ' h'=>s.length=8/\∃ x1 x2 x3,δ'=[some (.d (.tuple (s.map .int))),x1,x2,x3]/\h'=h) st ps ⟨hl,_,_,_,rfl,rfl⟩ (fun _ _ z=>z.2) ?_;rintro p hp s δ h' ⟨hs,x1,x2,x3,rfl,rfl⟩;have hk':=hk p hp;have e:=fun h=>zT d h s p.1 p.2 hk' hs;refine ⟨[some (.d (.tuple (s.map .int))),x1,some (.d (.int p.1)),some (.d (.int p.2))],h',by simp [iV],[some (.d (.tuple ((wv s p.1 p.2).map .int))),x1,some (.d (.int p.1)),some (.d (.int p.2))],h',?_,by rw [jI (by omega)];exact hs,_,_,_,rfl,rfl⟩;simp [e]
 obtain ⟨δ',h',rfl,x1,x2,x3,rfl,rfl⟩:=kk;simp
def zW (o:One) (st:List Int) (hk:o.key < 8) (hl:st.length=8):aE T (d+3) "done" [.d (.tuple (st.map .int)),.d o.dat] h=some (.tuple [(sd st o).1.dat,.tuple ((sd st o).2.map .int)],h):=by
 have e:=fun h=>qJ d h st o hk hl;rw [show d+3=(d+2)+1 from rfl,lM];generalize sd st o=p at e;cases o<;>simp [One.dat] at e ⊢<;>simp [e]
def vU (cs:List One) (hk:∀ o∈cs,o.key < 8) (hc:cs.length<=100) (st:List Int) (hl:st.length=8):aE T (d+4) "done" [.d (.tuple (st.map .int)),.d (aJ9 cs)] h=some (.tuple [.tuple [.str "each",.tuple ((dr st cs).1.map An1.dat)],.tuple ((dr st cs).2.map .int)],h):=by
 have e:=fun h=>qK d h cs hk hc st hl;rw [show d+4=(d+3)+1 from rfl,lM];simp [aJ9,e]
def zX (ps:List (Nat×Int)) (hk:∀ p∈ps,p.1 < 8) (st:List Int) (hl:st.length=8):aE T (d+3) "done" [.d (.tuple (st.map .int)),.d (.tuple [.str "lay",.tuple (ps.map fun p=>.tuple [.int p.1,.int p.2])])] h=some (.tuple [.tuple [.str "done"],.tuple ((ly st ps).map .int)],h):=by
 have e:=fun h=>aU4 d h ps hk st hl;rw [show d+3=(d+2)+1 from rfl,lM];simp [e,szl]
def vV {s A S:PyData} {st:List Int} (e:∀ h,aE T (d+4) "done" [.d (.tuple (st.map .int)),.d s] h=some (.tuple [A,S],h)):aE T (d+5) "done" [.d (.tuple (st.map .int)),.d (.tuple [.str "look",s])] h=some (.tuple [A,.tuple (st.map .int)],h):=by
 rw [show d+5=(d+4)+1 from rfl,lM];simp [e,szl]
def aU5 (xs:List PyData) {i j:Nat} (hi:i<=j) (hj:j<=xs.length):cut xs (some (i:Int)) (some (j:Int))=(xs.drop i).take (j - i):=by
 have e1:HT.sIx xs.length 0 (some (i:Int))=i:=by
  unfold HT.sIx;simp only [];rw [if_neg (by omega)];omega
 have e2:HT.sIx xs.length xs.length (some (j:Int))=j:=by
  unfold HT.sIx;simp only [];rw [if_neg (by omega)];omega
 rw [cut,e1,e2]
def vW (lo hi:Nat) (h1:lo<=hi) (h2:hi<=8) (st:List Int) (hl:st.length=8):aE T (d+1) "done" [.d (.tuple (st.map .int)),.d (.tuple [.str "span",.int lo,.int hi])] h=some (.tuple [.tuple [.str "all",.tuple (((st.drop lo).take (hi - lo)).map .int)],.tuple (st.map .int)],h):=by
 have c:=aU5 (st.map PyData.int) (i:=lo) (j:=hi) h1 (by simp;omega);rw [<- List.map_drop,<- List.map_take] at c;simp [lM,c,szl]
end K30

namespace K30
open PySem PySem.Spec PyProof.Rows L2 DL CI SJ
def Sok:Stp->Prop
 | .call c=>c.ok
 | .look c=>c.ok
 | .lay ps=>ps≠[]/\ps.length<=9/\(∀ p∈ps,p.1 < 8)/\(ps.map (·.1)).Pairwise (· < ·)
end K30

namespace K30
open PySem PySem.Spec PyProof.Rows L2 DL CI SJ
theorem qL {n:Nat}:∀ (l:List Nat) (a:Nat),l.Pairwise (· < ·)->(∀ x∈l,a<=x/\x < n)->a<=n->l.length+a<=n
 | [],a,_,_,h=>by simpa using h
 | x::r,a,hp,hb,h=>by
  have hp':=List.pairwise_cons.mp hp;have hx:=hb x List.mem_cons_self;have:=qL r (x+1) hp'.2 (fun y hy=>⟨hp'.1 y hy,(hb y (List.mem_cons_of_mem _ hy)).2⟩) hx.2;rw [List.length_cons];omega
def tY {ps:List (Nat×Int)} (h:Sok (.lay ps)):ps.length<=8:=by
 have:=qL (n:=8) (ps.map (·.1)) 0 h.2.2.2 (fun x hx=>by
  obtain ⟨p,hp,rfl⟩:=List.mem_map.mp hx;exact ⟨Nat.zero_le _,h.2.2.1 p hp⟩) (by decide)
 simpa using this
variable (d:Nat) (h:aA)
def dnC (st:List Int):SJ.Call->SJ.Ans×List Int
 | .one o=>(.one (sd st o).1,(sd st o).2)
 | .span lo hi=>(.all ((st.drop lo).take (hi - lo)),st)
 | .deal cs=>(.each (dr st cs).1,(dr st cs).2)
def aG8 {c:SJ.Call} (hc:c.ok) {st:List Int} (hl:st.length=8):(dnC st c).2.length=8:=by
 cases c with
 | one o=>rw [<- hl];exact sH (by rw [hl];exact hc)
 | span lo hi=>exact hl
 | deal cs=>rw [<- hl];exact sI cs st fun o ho=>by rw [hl];exact hc.2.2 o ho
def iN {c:SJ.Call} (hc:c.ok) {st:List Int} (hl:st.length=8):Ans.fits c (dnC st c).1:=by
 cases c with
 | one o=>exact tV st o
 | span lo hi =>
  have h1:=hc.1;have h2:=hc.2;show ((st.drop lo).take (hi - lo)).length=hi - lo;simp;omega
 | deal cs=>exact zU cs st
def nD {c:SJ.Call} (hc:c.ok) (st:List Int) (hl:st.length=8):aE T (d+4) "done" [.d (.tuple (st.map .int)),.d c.dat] h=some (.tuple [(dnC st c).1.dat,.tuple ((dnC st c).2.map .int)],h):=by
 cases c with
 | one o=>exact zW (d+1) h o st hc hl
 | span lo hi=>exact vW (d+3) h lo hi (Nat.le_of_lt hc.1) hc.2 st hl
 | deal cs=>exact vU d h cs hc.2.2 (by have:=hc.1;omega) st hl
def dnS (st:List Int):Stp->PyData×List Int
 | .call c=>((dnC st c).1.dat,(dnC st c).2)
 | .look c=>((dnC st c).1.dat,st)
 | .lay ps=>(.tuple [.str "done"],ly st ps)
def aG9 {p:Stp} (hp:Sok p) {st:List Int} (hl:st.length=8):(dnS st p).2.length=8:=by
 cases p with
 | call c=>exact aG8 hp hl
 | look c=>exact hl
 | lay ps=>rw [<- hl];exact zV ps st fun p hp'=>by rw [hl];exact hp.2.2.1 p hp'
def aU6 {p:Stp} (hp:Sok p) {st:List Int} (hl:st.length=8):aE T (d+5) "done" [.d (.tuple (st.map .int)),.d p.dat] h=some (.tuple [(dnS st p).1,.tuple ((dnS st p).2.map .int)],h):=by
 cases p with
 | call c=>exact nD (d+1) h hp st hl
 | look c=>exact vV d h fun h=>nD d h hp st hl
 | lay ps=>exact zX (d+2) h ps hp.2.2.1 st hl
def jY:Stp->PyData->Bool
 | .call c,t=>aK t "refused" 1||aY c t
 | .look c,t=>!aK t "refused" 1&&aY c t
 | .lay _,t=>!aK t "refused" 1&&aK t "done" 1
def aU7 (a:SJ.Ans):aK a.dat "refused" 1=false:=by
 cases a with
 | one a=>cases a<;>simp [Ans.dat,An1.dat,aK]
 | all ns=>simp [Ans.dat,aK]
 | each as=>simp [Ans.dat,aK]
def iO {c:SJ.Call} (hc:c.ok) {a:SJ.Ans} (hf:Ans.fits c a):jY (.call c) a.dat=true/\jY (.look c) a.dat=true:=by
 simp [jY,vJ hf hc,aU7]
end K30

namespace K30
open PySem PySem.Spec PyProof.Rows L2 DL CI SJ
variable (d:Nat) (h:aA) (t:PyData)
def zY (c:SJ.Call):aE T (d+5) "is_own_answer" [.d (.tuple [.str "look",c.dat]),.d t] h=some (.bool (aY c t),h):=by
 rw [show d+5=(d+4)+1 from rfl,aT];simp [PyData.eqv,szl,lQ]
def aH0 (ps:PyData):aE T (d+5) "is_own_answer" [.d (.tuple [.str "lay",ps]),.d t] h=some (.bool (aK t "done" 1),h):=by
 simp [aT,PyData.eqv,szl]
def zZ {c:SJ.Call} (hc:c.ok):aE T (d+9) "is_answer" [.d (.tuple [.str "look",c.dat]),.d t] h=some (.bool (!aK t "refused" 1&&aY c t),h):=by
 have hs:cU (.tuple [.str "look",c.dat])=true:=by
  cases c with
  | one o=>cases o<;>simp [Call.dat,One.dat,cU]
  | span lo hi=>simp [Call.dat,cU]
  | deal cs=>simp [Call.dat,cU]
 simp [fN,cQ (d) _ h hs,(fT hc).2.1,(fT hc).1];cases e:aK t (Str.ofString "refused") 1
 ·simp [zY (d+3)]
 ·simp [(fT hc).1]
def aH1 {ps:List (Nat×Int)} (hp:Sok (.lay ps)):aE T (d+9) "is_answer" [.d (.tuple [.str "lay",.tuple (ps.map prP)]),.d t] h=some (.bool (!aK t "refused" 1&&aK t "done" 1),h):=by
 have hl:=tY hp;have hs:cU (.tuple [.str "lay",.tuple (ps.map prP)])=true:=by simp [cU];omega
 have hg:=zO hp.1 hp.2.2.2 hp.2.2.1 hl;simp [fN,cQ (d) _ h hs,hg];cases e:aK t (Str.ofString "refused") 1
 ·simp [aH0 (d+3)]
 ·simp [hg]
def aA0 {p:Stp} (hp:Sok p):aE T (d+9) "is_answer" [.d p.dat,.d t] h=some (.bool (jY p t),h):=by
 cases p with
 | call c=>exact sE d t h hp
 | look c=>exact zZ d h t hp
 | lay ps=>exact aH1 d h t hp
def aA1 {p:Stp} (hp:Sok p):aE T (d+8) "is_step" [.d p.dat] h=some (.bool true,h):=by
 cases p with
 | call c =>
  rw [show (Stp.call c).dat=c.dat from rfl,cQ _ _ _ (lR hp),(eX hp).2.1]
 | look c =>
  have hs:cU (.tuple [.str "look",c.dat])=true:=by
   cases c with
   | one o=>cases o<;>simp [Call.dat,One.dat,cU]
   | span lo hi=>simp [Call.dat,cU]
   | deal cs=>simp [Call.dat,cU]
  rw [show (Stp.look c).dat=.tuple [.str "look",c.dat] from rfl,cQ _ _ _ hs,(fT hp).2.1]
 | lay ps=>exact sG d h hp.1 (by have:=tY hp;omega) hp.2.2.1 hp.2.2.2
end K30

namespace K30
open PySem PySem.Spec PyProof.Rows L2 DL CI SJ
structure It where
 p:Stp
 t:PyData
 w:String
def It.dat (x:It):PyData:=.tuple [x.p.dat,x.t,.str (Str.ofString x.w)]
noncomputable def bV1:PyData:=.tuple [.str "refused"]
def tOk (t:PyData):Prop:=t=.none\/t=bV1\/∃ a:SJ.Ans,t=a.dat
structure It.ok (x:It):Prop where
 s:Sok x.p
 a:x.t=.none\/jY x.p x.t=true
 t:tOk x.t
 w:x.w="must"\/x.w="may"\/x.w="out"
variable (d:Nat) (h:aA)
theorem t_cases {t:PyData} (ht:tOk t):t=.none\/∃ xs,t=.tuple xs:=by
 rcases ht with rfl | rfl | ⟨a,rfl⟩
 ·exact .inl rfl
 ·exact .inr ⟨_,rfl⟩
 ·right;cases a with
  | one a=>cases a<;>exact ⟨_,rfl⟩
  | all ns=>exact ⟨_,rfl⟩
  | each as=>exact ⟨_,rfl⟩
def qM {w:String} (hw:w="must"\/w="may"\/w="out"):xIn (.d (.str (Str.ofString w))) (.d (.tuple [.str (Str.ofString "must"),.str (Str.ofString "may"),.str (Str.ofString "out")])) h=some true:=by
 rcases hw with rfl | rfl | rfl<;>simp [xIn,ref,PyData.eqv]
theorem fW {α:Type} (f:α->PyData):∀ xs:List α,dE (xs.map ((fun _=>PyData.bool true) ∘ f))=some (xs.map fun _=>true)
 | []=>rfl
 | x::r=>by
  show dE (.bool true::r.map ((fun _=>PyData.bool true) ∘ f))=_;rw [dE,fW f r];rfl
def nE {x:It} (hx:x.ok):aE T (d+10) "is_item" [.d x.dat] h=some (.bool true,h):=by
 obtain ⟨p,t,w⟩:=x;obtain ⟨hs,ha,ht,hw⟩:=hx;dsimp only at hs ha ht hw;have e1:=aA1 (d+1) h hs;have e2:=aA0 d h t hs;rcases t_cases ht with rfl | ⟨xs,rfl⟩
 ·simp [jH,It.dat,bG,e1,isi,dG,qM h hw]
 ·have ha':jY p (.tuple xs)=true:=by
   rcases ha with ha | ha
   ·cases ha
   ·exact ha
  rw [ha'] at e2;simp [jH,It.dat,bG,e1,e2,isi,dG,qM h hw]
def jS {xs:List It} (hx:∀ x∈xs,x.ok) (hl:xs.length<=120):aE T (d+11) "are_items" [.d (.tuple (xs.map It.dat))] h=some (.bool true,h):=by
 have hl':(xs.length:Int)<=120:=by omega
 simp [eM,isi,dG,hl',aM];rw [bM (fun x=>.bool true) 0 (fun _ _ _=>rfl)]
 ·simp [fW]
 ·intro y hy u;obtain ⟨x,hx',rfl⟩:=List.mem_map.mp hy;simp [nE d h (hx x hx')]
def vX {ns:List Int} {n:Int} (hb:∀ x∈ns,0<=x/\x < n):aE T (d+3) "are_numbers" [.d (.tuple (ns.map .int)),.d (.int n)] h=some (.bool true,h):=by
 simp [gC,aM];rw [bM (fun x=>.bool true) 0 (fun _ _ _=>rfl)]
 ·simp [fW]
 ·intro y hy u;obtain ⟨x,hx',rfl⟩:=List.mem_map.mp hy;have:=hb x hx';simp [aS,dZ];omega
theorem nF:∀ ns:List Int,cS (ns.map .int)=some ns
 | []=>rfl
 | a::r=>by simp [cS,nF r]
def qN {ns:List Int} (h:ns.Nodup):ST.dd ns=ns:=by
 unfold ST.dd
 suffices H:∀ (l ac:List Int),(ac++l).Nodup->l.foldl step_dedup ac=ac++l by simpa using H ns [] (by simpa using h)
 intro l;induction l with
 | nil=>simp
 | cons a r ih =>
  intro ac hn;rw [List.foldl_cons];have hna:a∉ac:=fun hm=>by
   have:=(List.nodup_append.mp hn).2.2 a hm a List.mem_cons_self;exact this rfl
  have e:step_dedup ac a=ac++[a]:=by
   unfold step_dedup;simp [hna]
  rw [e,ih (ac++[a]) (by simpa using hn)];simp
def lsT (xs:List PyData) (h:aA):xLS [.d (.tuple xs)] h=(match cS xs with | some ns=>if ns.length<=62 then some (.d (.int (ST.dd ns).length),h) else none | none=>none):=rfl
def iP {ns:List Int} {n:Int} (hb:∀ x∈ns,0<=x/\x < n) (hd:ns.Nodup) (hl:ns.length<=62):aE T (d+4) "are_unlike" [.d (.tuple (ns.map .int)),.d (.int ns.length),.d (.int n)] h=some (.bool true,h):=by
 have e:=vX d h hb;simp [dT,bG,e,lsT,nF,qN hd,hl]
end K30

namespace K30
open PySem PySem.Spec PyProof.Rows L2 DL CI SJ
variable (d:Nat) (h:aA)
noncomputable def p2 (p:Nat×Nat):PyData:=.tuple [.int p.1,.int p.2]
noncomputable def p3 (p:Nat×Nat×Nat):PyData:=.tuple [.int p.1,.int p.2.1,.int p.2.2]
structure Pb where
 st:List Int
 its:List It
 ps:List (Nat×Nat)
 ts:List (Nat×Nat×Nat)
def Pb.dat (b:Pb):PyData:=.tuple [.tuple (b.st.map .int),.tuple (b.its.map It.dat),.tuple (b.ps.map p2),.tuple (b.ts.map p3)]
def must (its:List It) (x:Nat):Prop:=∃ y,its[x]?=some y/\y.w="must"
structure Pb.ok (b:Pb):Prop where
 st:b.st.length=8
 il:b.its.length<=120
 its:∀ x∈b.its,x.ok
 pl:b.ps.length<=100
 ps:∀ p∈b.ps,p.1 < b.its.length/\p.2 < b.its.length/\p.1≠p.2
 tl:b.ts.length<=100
 ts:∀ p∈b.ts,p.1 < b.its.length/\p.2.1 < b.its.length/\p.2.2 < b.its.length/\p.1≠p.2.1/\p.1≠p.2.2/\p.2.1≠p.2.2/\must b.its p.1/\must b.its p.2.1
def jT {ps:List (Nat×Nat)} {n:Nat} (hl:ps.length<=100) (hp:∀ p∈ps,p.1 < n/\p.2 < n/\p.1≠p.2):aE T (d+5) "are_pairs" [.d (.tuple (ps.map p2)),.d (.int n)] h=some (.bool true,h):=by
 have hl':¬ (4000:Int) < ps.length:=by omega
 simp [jQ,isi,dG,hl',aM];rw [bM (fun x=>.bool true) 0 (fun _ _ _=>rfl)]
 ·simp [fW]
 ·intro y hy u;obtain ⟨p,hm,rfl⟩:=List.mem_map.mp hy;obtain ⟨h1,h2,h3⟩:=hp p hm;have e:=iP d h (ns:=[(p.1:Int),(p.2:Int)]) (n:=n) (by simp;omega) (by simp;omega) (by simp);have e':aE T (d+4) "are_unlike" [.d (p2 p),.d (.int 2),.d (.int n)] h=some (.bool true,h):=e;simp [e']
def aA2 {its:List It} {x:Nat} {y:It} (e:its[x]?=some y):atI (its.map It.dat) (x:Int)=some y.dat:=by
 have hx:x < its.length:=(List.getElem?_eq_some_iff.mp e).1;exact dK (by simp [e])
def mB {its:List It} {ts:List (Nat×Nat×Nat)} (hl:ts.length<=100) (hp:∀ p∈ts,p.1 < its.length/\p.2.1 < its.length/\p.2.2 < its.length/\p.1≠p.2.1/\p.1≠p.2.2/\p.2.1≠p.2.2/\must its p.1/\must its p.2.1):aE T (d+5) "are_triples" [.d (.tuple (ts.map p3)),.d (.tuple (its.map It.dat))] h=some (.bool true,h):=by
 have hl':¬ (4000:Int) < ts.length:=by omega
 simp [gD,isi,dG,hl',aM];rw [bM (fun x=>.bool true) 0 (fun _ _ _=>rfl)]
 ·simp [fW];rw [mX (fun _=>.bool true) (fun δ=>∃ a b c,δ=[a,b,c,some (.d (.tuple (its.map It.dat)))])]
  ·simp [fW]
  ·exact ⟨_,_,_,rfl⟩
  ·rintro y hy δ ⟨a,b,c,rfl⟩;obtain ⟨p,hm,rfl⟩:=List.mem_map.mp hy;obtain ⟨h1,h2,h3,h4,h5,h6,⟨x1,e1,w1⟩,⟨x2,e2,w2⟩⟩:=hp p hm;refine ⟨[some (.d (.int p.1)),some (.d (.int p.2.1)),some (.d (.int p.2.2)),_],by simp [p3],⟨_,_,_,rfl⟩,?_⟩;simp [aA2 e1,aA2 e2,It.dat,w1,w2,PyData.eqv]
 ·intro y hy u;obtain ⟨p,hm,rfl⟩:=List.mem_map.mp hy;obtain ⟨h1,h2,h3,h4,h5,h6,_⟩:=hp p hm;have e:=iP d h (ns:=[(p.1:Int),(p.2.1:Int),(p.2.2:Int)]) (n:=its.length) (by simp;omega) (by simp;omega) (by simp);have e':aE T (d+4) "are_unlike" [.d (p3 p),.d (.int 3),.d (.int its.length)] h=some (.bool true,h):=e;simp [e']
def lS {st:List Int} (hl:st.length=8):aE T (d+3) "is_stand" [.d (.tuple (st.map .int))] h=some (.bool true,h):=by
 have:=cT d h (st.map .int);simp [lL,bG,hl];simp [dZ]
def oY {b:Pb} (hb:b.ok):aE T (d+12) "is_problem" [.d b.dat] h=some (.bool true,h):=by
 have e1:=lS (d+8) h hb.st;have e2:=jS d h hb.its (by have:=hb.il;omega);have e3:=jT (d+6) h hb.pl hb.ps;have e4:=mB (d+6) h hb.tl hb.ts;simp [bY,Pb.dat,bG,e1,e2,e3,e4]
def tZ {b:Pb} (hb:b.ok):aE T (d+13) "check_problem" [.d b.dat] h=some (.none,h):=by
 simp [jX,oY d h hb]
end K30

namespace K30
open PySem PySem.Spec PyProof.Rows L2 DL CI SJ
variable (d:Nat) (h:aA)
def aA3 (a:An1) (n:Nat):aI (n+1) a.dat=true:=by cases a<;>simp [An1.dat]
theorem kE:∀ (ns:List Int) (n:Nat),plainsB n (ns.map .int)=true
 | [],n=>by simp
 | a::r,n=>by simp [kE r]
theorem oZ:∀ (as:List An1) (n:Nat),plainsB (n+1) (as.map An1.dat)=true
 | [],n=>by simp
 | a::r,n=>by simp [aA3,oZ r]
def aU8 (a:SJ.Ans):aI 64 a.dat=true:=by
 cases a with
 | one a=>exact aA3 a 63
 | all ns=>simp [Ans.dat,kE]
 | each as=>simp [Ans.dat,oZ]
def bV2 (st:List Int) (p:Stp):tOk (dnS st p).1/\(dnS st p).1≠.none:=by
 have na:∀ a:SJ.Ans,a.dat≠.none:=fun a=>by
  cases a with
  | one a=>cases a<;>simp [Ans.dat,An1.dat]
  | all ns=>simp [Ans.dat]
  | each as=>simp [Ans.dat]
 cases p with
 | call c=>exact ⟨.inr (.inr ⟨_,rfl⟩),na _⟩
 | look c=>exact ⟨.inr (.inr ⟨_,rfl⟩),na _⟩
 | lay ps=>exact ⟨.inr (.inr ⟨.one .dn,rfl⟩),by simp [dnS]⟩
end K30

namespace K30
open PySem PySem.Spec PyProof.Rows L2 DL CI SJ
def lT (d:Nat) (S:List Int) (k:Nat):∃ c:Int,∀ h,aE T (d+1) "_law_cell_at" [.d (.list (S.map .int)),.d (.int k)] h=some (.int c,h):=by
 by_cases c:k < S.length
 ·refine ⟨S.getD k 0,fun h=>?_⟩;have e:=iM c;simp [fO,c,e]
 ·refine ⟨0,fun h=>?_⟩;simp [fO,c]
theorem mD (h:aA) (c c':Cell):(h++[c]).set h.length c'=h++[c']:=by simp
def aH2 (h L:aA) (xs:List PyData):aO h (.rt (.c h.length),h++.l xs::L)=some (.list xs,h):=by
 unfold aO;rw [if_pos (gT (.l xs::L) rfl (dM h))];simp
noncomputable def dwF (a k:Int):Int :=
 let x:=(a+7883*k+1)*48271%2147483647
 let y:=x*(x / 1009+69621)%2147483647
 y*(y / 1013+16807)%2147483647
def pA (d:Nat) (h:aA) (a k:Int):aE T (d+1) "_law_drawn" [.d (.int a),.d (.int k)] h=some (.int (dwF a k),h):=by
 have e1:aP 1009=true:=by decide
 have e2:aP 1013=true:=by decide
 have e3:aP 2147483647=true:=by decide
 have h0:=eJ (i:=7883) (by decide) (by decide) k;have h1:=oO (j:=48271) (by decide) (by decide) (a+7883*k+1);obtain ⟨x,hx⟩:∃ x,x=(a+7883*k+1)*48271%2147483647:=⟨_,rfl⟩;have h2:cM x (x / 1009+69621)=true:=eJ (by omega) (by omega) _;obtain ⟨y,hy⟩:∃ y,y=x*(x / 1009+69621)%2147483647:=⟨_,rfl⟩;have h3:cM y (y / 1013+16807)=true:=eJ (by rw [hy];have:=Int.emod_nonneg (x*(x / 1009+69621)) (b:=2147483647) (by decide);omega) (by rw [hy];have:=Int.emod_lt_of_pos (x*(x / 1009+69621)) (b:=2147483647) (by decide);omega) _;have e:dwF a k=y*(y / 1013+16807)%2147483647:=by rw [hy,hx];rfl
 simp [oS,e1,e2,e3,h0,h1,<- hx,h2,<- hy,h3,e]
noncomputable def dS (c n w f:W) (r k:Option W):DSt:=[some c,some n,some w,some f,r,k]
def uA (d:Nat) (h:aA) (c:Int) (n:Nat) (w:Int) (hn:n<=100):∃ D:List Int,D.length=n/\aE T (d+2) "_law_draws" [.d (.int c),.d (.int n),.d (.int w)] h=some (.list (D.map .int),h):=by
 have e2:aP 2=true:=by decide
 have e0:pF 10 40=true:=by decide
 have e1:aP 10000000000000000000000000000000000000000=true:=by decide +kernel
 have er:fY 0 n=true:=fV (by omega) (by omega);have go:∃ δ' h',bR (YG 5) (eO (d+1)) none (rng 0 n) (rng 0 n) (dS (.d (.int c)) (.d (.int n)) (.d (.int w)) (.c h.length) (some (.d (.int c))) none) (h++[.l []])=some (.nx δ',h') /\
   ∃ D:List Int,D.length=n/\h'=h++[.l (D.map .int)]/\∃ r k,δ'=dS (.d (.int c)) (.d (.int n)) (.d (.int w)) (.c h.length) r k:=by
  refine dX (fun m δ H=>∃ D:List Int,D.length=m/\H=h++[.l (D.map .int)]/\∃ (r:Int) (k:Option W),δ=dS (.d (.int c)) (.d (.int n)) (.d (.int w)) (.c h.length) (some (.d (.int r))) k) ⟨[],rfl,rfl,c,none,rfl⟩ (fun δ H=>?_) fun m hm δ H=>?_
  ·rintro ⟨D,l,rfl,r,k,rfl⟩;exact ⟨D,by simpa [rng] using l,rfl,_,_,rfl⟩
  ·rintro ⟨D,l,rfl,r,k,rfl⟩;rw [CI.rng_get];have hs:D.length < sizeLine:=by
    have:m < n:=by simpa [rng] using hm
    simp only [szl];omega
   refine ⟨_,_,rfl,?_⟩
   by_cases hc:w%2=0/\r≠0/\r≠-1
   ·obtain ⟨c1,c2,c3⟩:=hc;refine ⟨_,_,?_,D++[r%10^40],by simp [l],rfl,r / 10^40,some (.d (.int (0+m))),rfl⟩;simp [dS,c1,c2,c3,e0,e1,e2,mpre_last,mD,fZ,hs]
   ·refine ⟨_,_,?_,D++[dwF c (0+m)],by simp [l],rfl,r,some (.d (.int (0+m))),rfl⟩;have cd:=pA d (h++[.l (D.map .int)]) c m
    by_cases c1:w%2=0
    ·by_cases c2:r=0
     ·simp [dS,c1,c2,e2,mpre_last,mD,fZ,hs,cd]
     ·have c3:r=-1:=by
       by_cases z:r=-1
       ·exact z
       ·exact (hc ⟨c1,c2,z⟩).elim
      simp [dS,c1,c2,c3,e2,mpre_last,mD,fZ,hs,cd]
    ·simp [dS,c1,e2,mpre_last,mD,fZ,hs,cd]
 obtain ⟨δ',h',e,D,l,rfl,r,k,rfl⟩:=go;refine ⟨D,l,?_⟩;unfold dS at e;simp only [bG2] at e;simp [oT,er,e,dS,aH2 h []]
end K30

namespace K30
open PySem PySem.Spec PyProof.Rows L2 DL CI SJ
noncomputable def vF (x:Int):Int:=if x%12=0 then x / 12%200000000000000000000000000000000000001 - 100000000000000000000000000000000000000 else x / 12%3
def pB (d:Nat) (h:aA) (x:Int):aE T (d+1) "_law_value" [.d (.int x)] h=some (.int (vF x),h):=by
 have e1:aP 12=true:=by decide
 have e2:aP 3=true:=by decide
 have e3:pF 10 38=true:=by decide
 have e4:cM 2 100000000000000000000000000000000000000=true:=by decide +kernel
 have e5:aP 200000000000000000000000000000000000001=true:=by decide +kernel
 by_cases c:x%12=0<;>simp [oU,e1,e2,e3,e4,e5,c,vF]
noncomputable def kyF (a:Int):Nat:=(a / 4%(if a / 32%3=0 then 2 else if a / 32%3=1 then 3 else 8)).toNat
def qO (a b c:Int):One:=if a%4=0 then .read (kyF a) else if a%4=1 then .write (kyF a) (vF b) else if a%4=2 then .add (kyF a) (vF b) else .swap (kyF a) (vF b) (vF c)
def aA4 (a:Int):kyF a < 8:=by
 unfold kyF;split
 ·omega
 split<;>omega
def sJ (a b c:Int):(qO a b c).ok:=by
 unfold qO;split
 ·exact aA4 a
 split
 ·exact aA4 a
 split<;>exact aA4 a
def c_one (d:Nat) (h:aA) (a b c:Int):aE T (d+2) "_law_one" [.d (.list [.int a,.int b,.int c])] h=some ((qO a b c).dat,h):=by
 have e1:aP 4=true:=by decide
 have e2:aP 3=true:=by decide
 have e3:aP 32=true:=by decide
 have e4:aP 2=true:=by decide
 have e5:aP 8=true:=by decide
 have v:=fun x=>pB d h x;have k:∃ m,atI [PyData.int 2,.int 3,.int 8] (a / 32%3)=some (.int m)/\0 < m/\a / 4%m=kyF a:=by
  have:a / 32%3=0\/a / 32%3=1\/a / 32%3=2:=by omega
  unfold kyF;rcases this with z | z | z<;>rw [z]
  ·exact ⟨2,by simp,by decide,by rw [if_pos rfl];omega⟩
  ·exact ⟨3,by simp,by decide,by rw [if_neg (by decide),if_pos rfl];omega⟩
  ·exact ⟨8,by simp,by decide,by rw [if_neg (by decide),if_neg (by decide)];omega⟩
 obtain ⟨m,k1,k2,k3⟩:=k;have:a%4=0\/a%4=1\/a%4=2\/a%4=3:=by omega
 rcases this with z | z | z | z<;>simp [rZ,e1,e2,e3,aM,k1,k2,k3,v,z,qO,One.dat,szl]
end K30

namespace K30
open PySem PySem.Spec PyProof.Rows L2 DL CI SJ
noncomputable def lkF (b:Bool) (c:SJ.Call):Stp:=if b=true then .look c else .call c
def aA5 {b:Bool} {c:SJ.Call} (hc:c.ok):Sok (lkF b c):=by
 unfold lkF;split<;>exact hc
def sK (b:Bool) (c:SJ.Call):(lkF b c).dat=if b=true then .tuple [.str (Str.ofString "look"),c.dat] else c.dat:=by
 unfold lkF;cases b<;>rfl
def aU9 (d:Nat) (h:aA) (D:List Int) (hl:D.length=14):∃ p:Stp,Sok p/\aE T (d+3) "_law_step" [.d (.list (D.map .int))] h=some (p.dat,h):=by
 have e10:aP 10=true:=by decide
 have e8:aP 8=true:=by decide
 have e80:aP 80=true:=by decide
 have e3:aP 3=true:=by decide
 have e2:aP 2=true:=by decide
 have e6:aP 6=true:=by decide
 match D,hl with
 | [a0,a1,a2,a3,a4,a5,a6,a7,a8,a9,a10,a11,a12,a13],_ =>
 have s0:cut [PyData.int a0,.int a1,.int a2,.int a3,.int a4,.int a5,.int a6,.int a7,.int a8,.int a9,.int a10,.int a11,.int a12,.int a13] (some 4) (some 7)=[.int a4,.int a5,.int a6]:=by rfl
 have s1:cut [PyData.int a0,.int a1,.int a2,.int a3,.int a4,.int a5,.int a6,.int a7,.int a8,.int a9,.int a10,.int a11,.int a12,.int a13] (some 7) (some 10)=[.int a7,.int a8,.int a9]:=by rfl
 have s2:cut [PyData.int a0,.int a1,.int a2,.int a3,.int a4,.int a5,.int a6,.int a7,.int a8,.int a9,.int a10,.int a11,.int a12,.int a13] (some 10) (some 13)=[.int a10,.int a11,.int a12]:=by rfl
 have at6:atI [PyData.int a0,.int a1,.int a2,.int a3,.int a4,.int a5,.int a6,.int a7,.int a8,.int a9,.int a10,.int a11,.int a12,.int a13] 6=some (.int a6):=dK (j:=6) (by simp);have co:=fun a b c=>c_one (d+0) h a b c;have cv:=fun a=>pB (d+1) h a;obtain ⟨b,hb⟩:∃ b:Bool,b=decide (a3 / 10%8=0):=⟨_,rfl⟩
 by_cases z1:a3%10=1
 ·refine ⟨lkF b (.span (a4%2).toNat (2+a5%6).toNat),aA5 ⟨by omega,by omega⟩,?_⟩;have n1:((a4%2).toNat:Int)=a4%2:=by omega
  have n2:((2+a5%6).toNat:Int)=2+a5%6:=by omega
  by_cases c:a3 / 10%8=0<;>simp [eP,z1,s0,co,e10,e8,e2,e6,hb,c,sK,Call.dat,n1,n2,szl]
 by_cases z3:a3%10=3
 ·obtain ⟨q,hq⟩:∃ q:Nat->Bool,q=fun (k:Nat)=>decide (Builtin.bitAnd (a4 / 2^k) 1=1)||decide ((k:Int)=a5%3):=⟨_,rfl⟩
  refine ⟨.lay (((List.range 3).filter q).map fun k=>(k,vF (a6 / (1+k)))),?_,?_⟩
  ·refine ⟨?_,?_,fun p hp=>?_,?_⟩
   ·intro z;have:(a5%3).toNat∈(List.range 3).filter q:=by
     rw [List.mem_filter];refine ⟨by simp;omega,?_⟩;rw [hq];simp;exact .inr (by omega)
    rw [List.map_eq_nil_iff.mp z] at this;cases this
   ·rw [List.length_map];exact Nat.le_trans (List.length_filter_le _ _) (by simp)
   ·obtain ⟨k,hk,rfl⟩:=List.mem_map.mp hp;have:=List.mem_range.mp ((List.mem_filter.mp hk).1);show k < 8;omega
   ·rw [List.map_map];have:((List.range 3).filter q).map ((fun p:Nat×Int=>p.1) ∘ fun k:Nat=>(k,vF (a6 / (1+k))))=(List.range 3).filter q:=by simp [Function.comp_def]
    rw [this];exact List.Pairwise.filter _ List.pairwise_lt_range
  ·have er:fY 0 3=true:=by decide
   have ks:∀ k:Nat,k∈(List.range 3).filter q->k < 3:=fun k hk=>List.mem_range.mp (List.mem_filter.mp hk).1;simp [eP,z3,s0,co,e10,er,aM];rw [iJ (fun x=>q (cK x).toNat) (fun x=>x) (fun δ=>∃ u,δ=[u,some (.d (.list [PyData.int a0,.int a1,.int a2,.int a3,.int a4,.int a5,.int a6,.int a7,.int a8,.int a9,.int a10,.int a11,.int a12,.int a13]))]) (rng 0 3) _ [] ⟨_,rfl⟩ ?_]
   ·have e:(rng 0 3).filter (fun x=>q (cK x).toNat)=((List.range 3).filter q).map fun (k:Nat)=>PyData.int k:=by
     rw [vT,List.filter_map];rfl
    simp [e];rw [lI (fun x=>.tuple [x,.int (vF (a6 / (1+cK x)))]) (fun δ=>∃ u,δ=[u,some (.d (.list [PyData.int a0,.int a1,.int a2,.int a3,.int a4,.int a5,.int a6,.int a7,.int a8,.int a9,.int a10,.int a11,.int a12,.int a13]))]) _ _ ⟨_,rfl⟩ ?_]
    ·simp [szl,Stp.dat,cK,Function.comp_def]
    ·rintro x hx δ ⟨u,rfl⟩;obtain ⟨k,hk,rfl⟩:=List.mem_map.mp hx;have hk:=ks k hk;have dv:aP (1+(k:Int))=true:=tQ (by omega) (by omega);refine ⟨_,rfl,⟨_,rfl⟩,?_⟩;simp [at6,cv,dv,cK,szl]
   ·rintro x hx δ ⟨u,rfl⟩;obtain ⟨k,hk,rfl⟩:=kD hx;refine ⟨_,rfl,⟨_,rfl⟩,?_,fun _=>rfl⟩;have sh:∀ H,cW .RShift (.d (.int a4)) (.d (.int (k:Int))) H=some (.d (.int (a4 / 2^k)),H):=fun H=>(if_pos (Int.natCast_nonneg k):(if (0:Int)<=(k:Int) then some (W.d (.int (a4 / 2^(k:Int).toNat)),H) else none)=_);have ba:∀ x H,cW .BitAnd (.d (.int x)) (.d (.int 1)) H=some (.d (.int (Builtin.bitAnd x 1)),H):=fun _ _=>rfl
    by_cases c1:Builtin.bitAnd (a4 / 2^k) 1=1<;>simp [hq,cK,e3,c1,sh,ba]
 by_cases z2:a3%10=2
 ·obtain ⟨m,hm,em⟩:∃ m:Nat,m < 3/\a3 / 80%3=m:=⟨(a3 / 80%3).toNat,by omega,by omega⟩;obtain ⟨g,hg⟩:∃ g:Nat->One,g=fun k=>if k=0 then qO a4 a5 a6 else if k=1 then qO a7 a8 a9 else qO a10 a11 a12:=⟨_,rfl⟩
  refine ⟨lkF b (.deal ((List.range (m+1)).map g)),aA5 ⟨by simp;omega,by simp,fun c hc=>?_⟩,?_⟩
  ·obtain ⟨k,_,rfl⟩:=List.mem_map.mp hc;rw [hg];dsimp only;split
   ·exact sJ _ _ _
   split<;>exact sJ _ _ _
  ·have er:fY 0 (1+(m:Int))=true:=fV (by omega) (by omega);have et:(1+(m:Int)).toNat=m+1:=by omega
   simp [eP,z2,s0,co,e10,e80,e3,em,er,et,aM];rw [lI (fun x=>(g (cK x).toNat).dat) (fun δ=>∃ u,δ=[u,some (.d (.list [PyData.int a0,.int a1,.int a2,.int a3,.int a4,.int a5,.int a6,.int a7,.int a8,.int a9,.int a10,.int a11,.int a12,.int a13]))]) _ _ ⟨_,rfl⟩ ?_]
   ·have e:(rng 0 (m+1)).map (fun x=>(g (cK x).toNat).dat)=((List.range (m+1)).map g).map One.dat:=by
     rw [vT,List.map_map,List.map_map];rfl
    by_cases c:a3 / 10%8=0<;>simp [e,e8,e10,hb,c,sK,Call.dat,szl]
   ·rintro x hx δ ⟨u,rfl⟩;obtain ⟨k,hk,rfl⟩:=kD hx;refine ⟨_,rfl,⟨_,rfl⟩,?_⟩;have m3:∀ j,cM 3 j=true:=fun j=>eJ (by decide) (by decide) j;have:k=0\/k=1\/k=2:=by omega
    rcases this with rfl | rfl | rfl<;>simp [hg,cK,m3,s0,s1,s2,co]
 ·refine ⟨lkF b (.one (qO a4 a5 a6)),aA5 (sJ _ _ _),?_⟩
  by_cases c:a3 / 10%8=0<;>simp [eP,z1,z2,z3,s0,co,e10,e8,hb,c,sK,Call.dat,szl]
end K30

namespace K30
open PySem PySem.Spec PyProof.Rows L2 DL CI SJ
section
variable {x:Option (Fl×aA)} {k:DSt->Fl×aA->Option (Fl×aA)} (δ:DSt) (h:aA) (e:x=some (.nx δ,h))
include e
def sy {R:Option (Fl×aA)} (kk:k δ (.nx δ,h)=R):YP x (YQ k)=R:=by
 rw [e];exact kk
def sys {P:DSt->aA->Prop} (kk:∃ δ2 h2,k δ (.nx δ,h)=some (.nx δ2,h2)/\P δ2 h2):∃ δ2 h2,YP x (YQ k)=some (.nx δ2,h2)/\P δ2 h2:=by
 rw [e];exact kk
end
theorem sq {α β:Type} {x:Option α} {f:α->Option β} {R:Option β} (a:α) (e:x=some a) (k:f a=R):x.bind f=R:=by
 rw [e];exact k
theorem aA6 {α:Type} {x:Option α} {f:α->Option (Fl×aA)} {P:DSt->aA->Prop} (a:α) (e:x=some a) (k:∃ δ2 h2,f a=some (.nx δ2,h2)/\P δ2 h2):∃ δ2 h2,x.bind f=some (.nx δ2,h2)/\P δ2 h2:=by
 rw [e];exact k
def sqE {x:Option (Fl×aA)} {f:DSt->Fl×aA->Option (Fl×aA)} {R:Option (Fl×aA)} (J:DSt->aA->Prop) (e:∃ δ' h',x=some (.nx δ',h')/\J δ' h') (k:∀ δ' h',J δ' h'->f δ' (.nx δ',h')=R):YP x (YQ f)=R:=by
 obtain ⟨δ',h',e,j⟩:=e;rw [e];exact k δ' h' j
def bn1 (r:Int):An1->An1
 | .got v=>.got (v+1 - r%2*2)
 | .yes=>.no
 | .no=>.yes
 | .dn=>.dn
def bnA (r:Int):SJ.Ans->SJ.Ans
 | .one a=>.one (bn1 r a)
 | a=>a
def aA7 {r:Int} {o:One} {a:An1} (hf:An1.fits o a):An1.fits o (bn1 r a):=by
 cases o<;>cases a<;>simp [An1.fits] at hf<;>simp [An1.fits,bn1]
def uB {r:Int} {c:SJ.Call} {a:SJ.Ans} (hf:Ans.fits c a):Ans.fits c (bnA r a):=by
 cases a with
 | one a=>cases c<;>first | exact aA7 hf | exact hf
 | all ns=>exact hf
 | each as=>exact hf
def sL (d:Nat) (h:aA) (a:SJ.Ans) (r:Int):aE T (d+1) "_law_bent" [.d a.dat,.d (.int r)] h=some ((bnA r a).dat,h):=by
 have e2:aP 2=true:=by decide
 have m2:∀ j,cM j 2=true:=fun j=>oO (by decide) (by decide) j;have pl:=aU8 a;cases a with
 | one a=>cases a<;>simp [fP,Ans.dat,An1.dat,bnA,bn1,e2,m2,szl,aM,xIn,xEq,ref,PyData.eqv,PyData.eqvAll,wL,asW]
 | all ns =>
  have p:=kE ns 62;simp [fP,Ans.dat,bnA,szl,aM,xIn,ref,PyData.eqv,PyData.eqvAll,p]
 | each as =>
  have p:=oZ as 61;simp [fP,Ans.dat,bnA,szl,aM,xIn,ref,PyData.eqv,PyData.eqvAll,p]
end K30

namespace K30
open PySem PySem.Spec PyProof.Rows L2 DL CI SJ
def aH3 {p:Stp} (hp:Sok p) {st:List Int} (hl:st.length=8):jY p (dnS st p).1=true:=by
 cases p with
 | call c=>exact (iO hp (iN hp hl)).1
 | look c=>exact (iO hp (iN hp hl)).2
 | lay ps=>simp [jY,dnS,aK]
def bnS (st:List Int) (r:Int):Stp->PyData
 | .call c=>(bnA r (dnC st c).1).dat
 | .look c=>(bnA r (dnC st c).1).dat
 | .lay _=>.tuple [.str "done"]
def aV0 {p:Stp} (hp:Sok p) {st:List Int} (hl:st.length=8) (r:Int):jY p (bnS st r p)=true/\tOk (bnS st r p):=by
 cases p with
 | call c=>exact ⟨(iO hp (uB (iN hp hl))).1,.inr (.inr ⟨_,rfl⟩)⟩
 | look c=>exact ⟨(iO hp (uB (iN hp hl))).2,.inr (.inr ⟨_,rfl⟩)⟩
 | lay ps=>exact ⟨by simp [jY,bnS,aK],.inr (.inr ⟨.one .dn,rfl⟩)⟩
def aH4 (d:Nat) (h:aA) (p:Stp) (st:List Int) (r:Int):aE T (d+1) "_law_bent" [.d (dnS st p).1,.d (.int r)] h=some (bnS st r p,h):=by
 cases p with
 | call c=>exact sL d h _ r
 | look c=>exact sL d h _ r
 | lay ps=>exact sL d h (.one .dn) r
noncomputable def wdF (e:Int):String:=if e%6 < 4 then "must" else if e%6=4 then "may" else "out"
def bG5 (e:Int):wdF e="must"\/wdF e="may"\/wdF e="out":=by
 unfold wdF;split
 ·exact .inl rfl
 split
 ·exact .inr (.inl rfl)
 ·exact .inr (.inr rfl)
def bG6 (e:Int):atI [PyData.str (Str.ofString "must"),.str (Str.ofString "must"),.str (Str.ofString "must"),.str (Str.ofString "must"),.str (Str.ofString "may"),.str (Str.ofString "out")] (e%6)=some (.str (Str.ofString (wdF e))):=by
 have:e%6=0\/e%6=1\/e%6=2\/e%6=3\/e%6=4\/e%6=5:=by omega
 unfold wdF;rcases this with z | z | z | z | z | z<;>rw [z]<;>simp
noncomputable def dI (cs:PyData) (w:Int) (st:List Int) (j:Nat) (x4 x5 x6 x7 x8 x9 x10:Option W):DSt:=[some (.d cs),some (.d (.int w)),some (.d (.tuple (st.map .int))),some (.c j),x4,x5,x6,x7,x8,x9,x10]
def PI (h:aA) (cs:PyData) (w:Int) (xs:List PyData) (δ:DSt) (H:aA):Prop:=∃ y:It,y.ok/\H=h++[.l (xs++[y.dat])]/\∃ st:List Int,st.length=8/\∃ x4 x5 x6 x7 x8 x9 x10,δ=dI cs w st h.length x4 x5 x6 x7 x8 x9 x10
def aV1 (d:Nat) (h:aA) (cs:PyData) (w:Int) {st:List Int} (hl:st.length=8) (k:Nat) (c:Int) {xs:List PyData} (hx:xs.length < sizeLine) (x6 x7 x8 x9 x10:Option W) :
  ∃ δ2 h2,bW (d+5) (dI cs w st h.length (some (.d (.int k))) (some (.d (.int c))) x6 x7 x8 x9 x10) (h++[.l xs])=some (.nx δ2,h2)/\PI h cs w xs δ2 h2:=by
 simp only [szl] at hx;have e2:aP 2=true:=by decide
 have e6:aP 6=true:=by decide
 have e10:aP 10=true:=by decide
 have e12:aP 12=true:=by decide
 have e120:aP 120=true:=by decide
 have mk:cM k (w%2)=true:=oO (by omega) (by omega) k;obtain ⟨D,hD,g1⟩:=uA (d+3) (h++[.l xs]) (c+k*(w%2)) 14 w (by decide);have g1:aE T (d+5) (Str.ofString "_law_draws") [.d (.int (c+k*(w%2))),.d (.int 14),.d (.int w)] (h++[.l xs])=some (.list (D.map .int),h++[.l xs]):=g1;obtain ⟨p,hp,g2⟩:=aU9 (d+2) (h++[.l xs]) D hD;have g3:=aU6 d (h++[.l xs]) hp hl;obtain ⟨e,he⟩:∃ e,e=D.getD 13 0:=⟨_,rfl⟩;have a13:atI (D.map PyData.int) 13=some (.int e):=by rw [he];exact iM (i:=13) (by omega)
 obtain ⟨xk,hk⟩:∃ xk,xk=some (W.d (.int (k:Int))):=⟨_,rfl⟩;obtain ⟨xc,hc⟩:∃ xc,xc=some (W.d (.int c)):=⟨_,rfl⟩;obtain ⟨xd,hd⟩:∃ xd,xd=PyData.list (D.map .int):=⟨_,rfl⟩;rw [<- hd] at g1 g2;have q13:∀ H,xIx (.d xd) (.d (.int 13)) H=some (.d (.int e),H):=fun H=>by rw [hd];simp [a13]
 unfold bW;refine sys (dI cs w st h.length xk xc (some (.d xd)) x7 x8 x9 x10) (h++[.l xs]) (by simp [dI,e2,mk,g1,hk,hc]) ?_;refine sys (dI cs w st h.length xk xc (some (.d xd)) (some (.d p.dat)) x8 x9 x10) (h++[.l xs]) (by simp [dI,g2]) ?_;refine sys (dI cs w st h.length xk xc (some (.d xd)) (some (.d p.dat)) (some (.d (dnS st p).1)) (some (.d (.tuple ((dnS st p).2.map .int)))) x10) (h++[.l xs]) (by simp [dI,g3,bU,wT]) ?_;refine sys (dI cs w st h.length xk xc (some (.d xd)) (some (.d p.dat)) (some (.d (dnS st p).1)) (some (.d (.tuple ((dnS st p).2.map .int)))) (some (.d (.str (Str.ofString (wdF e)))))) (h++[.l xs]) (by simp [dI,aM,q13,e6,bG6,szl]) ?_;obtain ⟨st',hs',es'⟩:∃ st':List Int,st'.length=8/\st'=if wdF e="must"\/e / 6%2=0 then (dnS st p).2 else st:=⟨_,by split;exact aG9 hp hl;exact hl,rfl⟩
 refine sys (dI cs w st' h.length xk xc (some (.d xd)) (some (.d p.dat)) (some (.d (dnS st p).1)) (some (.d (.tuple ((dnS st p).2.map .int)))) (some (.d (.str (Str.ofString (wdF e)))))) (h++[.l xs]) (by
  by_cases c1:wdF e="must"
  ·simp [dI,es',c1]
  ·by_cases c2:e / 6%2=0<;>simp [dI,es',c1,c2,q13,e6,e2]) ?_
 obtain ⟨a,ha,ea⟩:∃ a,(jY p a=true/\tOk a)/\a=if e / 12%10=0 then bnS st (e / 120) p else (dnS st p).1:=⟨_,by split;exact aV0 hp hl _;exact ⟨aH3 hp hl,(bV2 st p).1⟩,rfl⟩
 refine sys (dI cs w st' h.length xk xc (some (.d xd)) (some (.d p.dat)) (some (.d a)) (some (.d (.tuple ((dnS st p).2.map .int)))) (some (.d (.str (Str.ofString (wdF e)))))) (h++[.l xs]) (by
  have g4:=aH4 (d+4) (h++[.l xs]) p st (e / 120)
  by_cases c2:e / 12%10=0<;>simp [dI,ea,c2,q13,e12,e10,e120,g4]) ?_
 obtain ⟨t,ht,et⟩:∃ t,((t=.none\/jY p t=true)/\tOk t)/\t=if e / 120%6=0 then .none else a:=⟨_,by split;exact ⟨.inl rfl,.inl rfl⟩;exact ⟨.inr ha.1,ha.2⟩,rfl⟩
 refine sys (dI cs w st' h.length xk xc (some (.d xd)) (some (.d p.dat)) (some (.d t)) (some (.d (.tuple ((dnS st p).2.map .int)))) (some (.d (.str (Str.ofString (wdF e)))))) (h++[.l xs]) (by
  by_cases c2:e / 120%6=0<;>simp [dI,et,c2,q13,e6,e120]) ?_
 refine ⟨dI cs w st' h.length xk xc (some (.d xd)) (some (.d p.dat)) (some (.d t)) (some (.d (.tuple ((dnS st p).2.map .int)))) (some (.d (.str (Str.ofString (wdF e))))),h++[.l (xs++[.tuple [p.dat,t,.str (Str.ofString (wdF e))]])],by simp [dI,mpre_last,mD,fZ,hx,szl],⟨p,t,wdF e⟩,⟨hp,ht.1,ht.2,bG5 e⟩,rfl,st',hs',_,_,_,_,_,_,_,rfl⟩
theorem kF:∀ (xs:List PyData) (k:Nat),enumF k xs=(List.range xs.length).map fun i=>.tuple [.int (k+i:Nat),xs.getD i .none]
 | [],k=>rfl
 | x::r,k=>by
  rw [enumF,kF r (k+1),List.length_cons,List.range_succ_eq_map,List.map_cons,List.map_map]
  congr 1
  refine List.map_congr_left fun i _=>?_;simp;omega
def aH5 (d:Nat) (h:aA) (C:List Int) (w:Int) {st:List Int} (hl:st.length=8) (hC:C.length<=100):∃ its:List It,its.length=C.length/\(∀ y∈its,y.ok)/\aE T (d+6) "_law_items" [.d (.list (C.map .int)),.d (.int w),.d (.tuple (st.map .int))] h=some (.tuple (its.map It.dat),h):=by
 obtain ⟨cs,ecs⟩:∃ cs,cs=PyData.list (C.map .int):=⟨_,rfl⟩;have go:∃ δ' h',bR (bU [YG 4,YG 5]) (bW (d+5)) none (bB (C.map PyData.int)) (bB (C.map PyData.int)) (dI cs w st h.length none none none none none none none) (h++[.l []])=some (.nx δ',h') /\
   ∃ its:List It,its.length=C.length/\(∀ y∈its,y.ok)/\h'=h++[.l (its.map It.dat)]/\∃ st:List Int,st.length=8/\∃ x4 x5 x6 x7 x8 x9 x10,δ'=dI cs w st h.length x4 x5 x6 x7 x8 x9 x10:=by
  refine dX (fun m δ H=>∃ its:List It,its.length=m/\(∀ y∈its,y.ok)/\H=h++[.l (its.map It.dat)]/\∃ st:List Int,st.length=8/\∃ x4 x5 x6 x7 x8 x9 x10,δ=dI cs w st h.length x4 x5 x6 x7 x8 x9 x10) ⟨[],rfl,(fun _ z=>nomatch z),rfl,st,hl,_,_,_,_,_,_,_,rfl⟩ (fun δ H=>?_) fun m hm δ H=>?_
  ·rintro ⟨its,l,r⟩;exact ⟨its,by rw [l];unfold bB;rw [kF];simp,r⟩
  ·rintro ⟨its,l,ok,rfl,st',hl',x4,x5,x6,x7,x8,x9,x10,rfl⟩;have hm':m < C.length:=by unfold bB at hm;rw [kF] at hm;simpa using hm
   have e:(bB (C.map PyData.int))[m]=.tuple [.int (m:Nat),.int (C.getD m 0)]:=by
    unfold bB;simp only [kF];simp [List.getD,hm']
   rw [e];refine ⟨_,_,rfl,?_⟩;obtain ⟨δ2,h2,e2,y,hy,rfl,st2,hs2,y4,y5,y6,y7,y8,y9,y10,rfl⟩:=aV1 d h cs w hl' m (C.getD m 0) (xs:=its.map It.dat) (by simp only [szl,List.length_map];omega) x6 x7 x8 x9 x10;refine ⟨_,_,e2,its++[y],by simp [l],fun z hz=>?_,by simp,st2,hs2,_,_,_,_,_,_,_,rfl⟩;rcases List.mem_append.mp hz with hz | hz
   ·exact ok z hz
   ·rw [List.mem_singleton.mp hz];exact hy
 obtain ⟨δ',h',e,its,l,ok,rfl,st',hs,x4,x5,x6,x7,x8,x9,x10,rfl⟩:=go;refine ⟨its,l,ok,?_⟩;rw [show d+6=(d+5)+1 from rfl,oV,<- ecs];refine sq (.rt (.d (.tuple (its.map It.dat))),h++[.l (its.map It.dat)]) ?_ (by simp);refine sy (dI cs w st h.length none none none none none none none) (h++[.l []]) (by simp [aV,dI]) ?_;refine sqE (fun δ H=>δ=dI cs w st' h.length x4 x5 x6 x7 x8 x9 x10/\H=h++[.l (its.map It.dat)]) ?_ ?_
 ·refine aA6 ((bB (C.map PyData.int),none),h++[.l []]) (by simp [dI,ecs]) ?_;exact ⟨_,_,e,rfl,rfl⟩
 ·rintro _ _ ⟨rfl,rfl⟩;simp [dI,bS,ref,szl,l]
end K30

namespace K30
open PySem PySem.Spec PyProof.Rows L2 DL CI SJ
noncomputable def nI (k:Nat):PyData:=.int k
def aV2 (n:Nat):rng 0 n=(List.range n).map nI:=vT n
def bG7 {l:List Nat} {x:Nat} (h:x < l.length):atI (l.map nI) (x:Int)=some (.int (l.getD x 0)):=by
 refine dK ?_;simp [List.getD,h,nI]
noncomputable def aA8 (its:List It) (k:Nat):Bool:=decide ((its[k]?.map It.w)=some "must")
def mus (its:List It):List Nat:=(List.range its.length).filter (aA8 its)
def uC {its:List It} {x:Nat} (h:x∈mus its):x < its.length/\must its x:=by
 obtain ⟨h1,h2⟩:=List.mem_filter.mp h;refine ⟨List.mem_range.mp h1,?_⟩;obtain ⟨y,e,hy⟩:=Option.map_eq_some_iff.mp (of_decide_eq_true h2);exact ⟨y,e,hy⟩
theorem aA9 {l:List Nat} {x:Nat} (h:x < l.length):l.getD x 0∈l:=by
 rw [List.getD_eq_getElem?_getD,List.getElem?_eq_getElem h];exact List.getElem_mem h
def stV (w:Int):List Int:=(List.range 8).map fun (k:Nat)=>vF (12*(w / 2 / (1+3*(k:Int)))+1)
def Pok (n:Nat) (ps:List (Nat×Nat)):Prop:=∀ p∈ps,p.1 < n/\p.2 < n/\p.1≠p.2
def aH6 (its:List It) (ts:List (Nat×Nat×Nat)):Prop:=∀ p∈ts,p.1 < its.length/\p.2.1 < its.length/\p.2.2 < its.length/\p.1≠p.2.1/\p.1≠p.2.2/\p.2.1≠p.2.2/\must its p.1/\must its p.2.1
def dP (a:W) (w:Int) (st:List Int) (its:List It) (j:Nat) (c:Int) (x8 x9 x10 x11 x12 x13 x14 x15 x16:Option W):DSt:=[some a,some (.d (.int 9)),some (.d (.int w)),some (.d (.tuple (st.map .int))),some (.d (.tuple (its.map It.dat))),some (.d (.list ((List.range its.length).map nI))),some (.c j),some (.d (.int c)),x8,x9,x10,x11,x12,x13,x14,x15,x16]
@[simp] def bG8 (d:Nat) (x:DSt) (x_2:aA):Option (Fl×aA) :=
 YP (aN 10 (xb (Y2 (aB 7) (xb (xb (YJ 20) fun u=>xb (aB 8) (YO .Mult u)) fun u=>xb (aB 9) (YO .Add u))) (YF d "_law_drawn")) x x_2) (YQ fun δ' p =>
 YP
 (YP (xb (xb (xC1 CmpOp.Lt (aB 8) (aB 9)) fun c=>if c=true then xC1 CmpOp.Eq (xb (aB 10) (YB .Mod 4)) (YJ 0) else aD false) (fun c=>if c=true then aD true else xb (xC1 CmpOp.Gt (aB 8) (aB 9)) fun c=>if c=true then xC1 CmpOp.Eq (xb (aB 10) (YB .Mod 60)) (YJ 1) else aD false) δ' p.2) fun p =>
 if p.1=true then
 YP (YP (xb (aB 6) ((YA (Y1 (xb (xPl (Y2 (aB 8) (aB 9))) YT)))) δ' p.2) fun p=>some (Fl.nx δ',p.2)) YE
 else some (Fl.nx δ',p.2))
 YE)
def bG9 {α:Type} {x:Option α} {f:α->Option (Fl×aA)} {P:DSt->aA->Prop} (a:α) (e:x=some a) (k:∃ δ2 h2,f a=some (.nx δ2,h2)/\P δ2 h2):∃ δ2 h2,YP (YP x f) YE=some (.nx δ2,h2)/\P δ2 h2:=by
 obtain ⟨δ2,h2,e2,p⟩:=k;rw [e];exact ⟨δ2,h2,by show (f a).bind YE=_;rw [e2];simp,p⟩
section
variable (d:Nat) (h:aA) (a:W) (w:Int) (st:List Int) (its:List It) (c:Int)
def aV3 {x:Nat} (hx:x < its.length) (hn:its.length<=9) {ps:List (Nat×Nat)} (hp:Pok its.length ps) (hl:ps.length<=its.length*x) (x9 x10:Option W) :
  ∃ δ2 h2,bJ (d+1) (dP a w st its h.length c (some (.d (nI x))) x9 x10 none none none none none none) (h++[.l (ps.map p2)])=some (.nx δ2,h2) /\
   ∃ ps:List (Nat×Nat),Pok its.length ps/\ps.length<=its.length*(x+1)/\h2=h++[.l (ps.map p2)]/\∃ x8 x9 x10,δ2=dP a w st its h.length c x8 x9 x10 none none none none none none:=by
 have e4:aP 4=true:=by decide
 have e60:aP 60=true:=by decide
 have m20:∀ j,cM 20 j=true:=fun j=>eJ (by decide) (by decide) j;unfold bJ;refine bG9 ((((List.range its.length).map nI),none),h++[.l (ps.map p2)]) (by simp [dP,bK]) ?_
 ·show ∃ δ2 h2,bR (YG 9) (bG8 (d+1)) none ((List.range its.length).map nI) ((List.range its.length).map nI) (dP a w st its h.length c (some (.d (nI x))) x9 x10 none none none none none none) (h++[.l (ps.map p2)])=some (.nx δ2,h2)/\_;refine dX (fun m δ H=>∃ ps:List (Nat×Nat),Pok its.length ps/\ps.length<=its.length*x+m/\H=h++[.l (ps.map p2)]/\∃ x9 x10,δ=dP a w st its h.length c (some (.d (nI x))) x9 x10 none none none none none none) ⟨ps,hp,by omega,rfl,_,_,rfl⟩ (fun δ H=>?_) fun m hm δ H=>?_
  ·rintro ⟨ps,h1,h2,h3,x9,x10,h4⟩;exact ⟨ps,h1,by rw [Nat.mul_add];simpa using h2,h3,_,_,_,h4⟩
  ·rintro ⟨ps,hp,hl,rfl,x9,x10,rfl⟩;have hm:m < its.length:=by simpa using hm
   have em:((List.range its.length).map nI)[m]'(by simpa using hm)=nI m:=by simp
   rw [em];have hs:ps.length < 16777216:=by
    have:its.length*x<=9*9:=Nat.mul_le_mul hn (by omega);omega
   have g:=pA d (h++[.l (ps.map p2)]) c (20*x+m);refine ⟨_,_,rfl,?_⟩;refine sys (dP a w st its h.length c (some (.d (nI x))) (some (.d (nI m))) (some (.d (.int (dwF c (20*x+m))))) none none none none none none) (h++[.l (ps.map p2)]) (by simp [dP,nI,m20,g]) ?_;generalize dwF c (20*x+m)=r
   by_cases hc:(x < m/\r%4=0)\/(m < x/\r%60=1)
   ·refine ⟨_,_,?_,ps++[(x,m)],fun p hp'=>?_,by simp;omega,rfl,some (.d (nI m)),some (.d (.int r)),rfl⟩
    ·rcases hc with ⟨c1,c2⟩ | ⟨c1,c2⟩
     ·have c1':(x:Int) < m:=by omega
      simp [dP,nI,e4,e60,c1',c2,mpre_last,mD,fZ,hs,szl,p2]
     ·have c1':(m:Int) < x:=by omega
      have c3:¬ (x:Int) < m:=by omega
      simp [dP,nI,e4,e60,c1',c2,c3,mpre_last,mD,fZ,hs,szl,p2]
    ·rcases List.mem_append.mp hp' with q | q
     ·exact hp p q
     ·rw [List.mem_singleton.mp q];exact ⟨hx,hm,by dsimp only;omega⟩
   ·refine ⟨_,_,?_,ps,hp,by omega,rfl,some (.d (nI m)),some (.d (.int r)),rfl⟩
    by_cases c1:(x:Int) < m
    ·have c2:¬ r%4=0:=fun z=>hc (.inl ⟨by omega,z⟩);have c3:¬ (m:Int) < x:=by omega
     simp [dP,nI,e4,e60,c1,c2,c3]
    ·by_cases c3:(m:Int) < x
     ·have c2:¬ r%60=1:=fun z=>hc (.inr ⟨by omega,z⟩);simp [dP,nI,e4,e60,c1,c2,c3]
     ·simp [dP,nI,e4,e60,c1,c3]
end
end K30

namespace K30
open PySem PySem.Spec PyProof.Rows L2 DL CI SJ
def bH0 (l:List Nat) (h:aA):xEq (.d (.list (l.map nI))) (.d (.list [])) h=some (decide (l=[])):=by
 have pl:∀ (l:List Nat) (m:Nat),plainsB m (l.map nI)=true:=fun l m=>by
  have:=kE (l.map Int.ofNat) m;rw [List.map_map] at this;exact this
 have p:=pl l 63;cases l with
 | nil=>simp [xEq,ref,PyData.eqv,PyData.eqvAll]
 | cons a r=>simp [xEq,ref,PyData.eqv,PyData.eqvAll,pl,nI]
def dd3 {a b c:Int} (h:¬ (a≠b/\a≠c/\b≠c)):((ST.dd [a,b,c]).length:Int)≠3:=by
 unfold ST.dd;simp only [List.foldl,step_dedup]
 by_cases h1:a=b
 ·subst h1
  by_cases h2:a=c
  ·subst h2;simp
  ·simp [Ne.symm h2];split<;>simp
 ·by_cases h2:a=c
  ·subst h2;simp [Ne.symm h1];split<;>simp
  ·have h3:b=c:=by
    by_cases z:b=c
    ·exact z
    ·exact (h ⟨h1,h2,z⟩).elim
   subst h3;simp [h1,Ne.symm h1]
def lsL (xs:List PyData) (h:aA):xLS [.d (.list xs)] h=(match cS xs with | some ns=>if ns.length<=62 then some (.d (.int (ST.dd ns).length),h) else none | none=>none):=rfl
def bH1 (n:Int) (H:aA):xMx [.d (.int 1),.d (.int n)] H=some (.d (.int (max 1 n)),H):=rfl
section
variable (d:Nat) (H0:aA) (a:W) (w:Int) (st:List Int) (its:List It) (j:Nat) (c:Int)
def aV4 {k:Nat} (o:Int) {ts:List (Nat×Nat×Nat)} (ht:aH6 its ts) (hl:ts.length<=10) (x8 x9 x10 x15 x16:Option W) :
  ∃ δ2 h2,bI (d+1) (dP a w st its j c x8 x9 x10 (some (.d (.list ((mus its).map nI)))) (some (.c H0.length)) (some (.d (.int o))) (some (.d (nI k))) x15 x16) (H0++[.l (ts.map p3)])=some (.nx δ2,h2) /\
   ∃ ts':List (Nat×Nat×Nat),aH6 its ts'/\ts'.length<=ts.length+1/\h2=H0++[.l (ts'.map p3)]/\∃ x15 x16,δ2=dP a w st its j c x8 x9 x10 (some (.d (.list ((mus its).map nI)))) (some (.c H0.length)) (some (.d (.int o))) (some (.d (nI k))) x15 x16:=by
 have m3:∀ j,cM 3 j=true:=fun j=>eJ (by decide) (by decide) j;have er:fY 0 2=true:=by decide
 obtain ⟨L,hL,eL⟩:∃ L:Int,0 < L/\L=max 1 (((mus its).length:Nat):Int):=⟨_,by omega,rfl⟩;obtain ⟨N,hN,eN⟩:∃ N:Int,0 < N/\N=max 1 ((its.length:Nat):Int):=⟨_,by omega,rfl⟩;obtain ⟨H,hH⟩:∃ H,H=H0++[.l (ts.map p3)]:=⟨_,rfl⟩;have dr:=fun i=>pA d H o i;obtain ⟨f,hf⟩:∃ f:Nat->Nat,f=fun (i:Nat)=>(mus its).getD (dwF o (3*k+i)%L).toNat 0:=⟨_,rfl⟩;obtain ⟨t,ht3⟩:∃ t:Nat,(t:Int)=dwF o (3*k+2)%N:=⟨(dwF o (3*k+2)%N).toNat,by have:=Int.emod_nonneg (dwF o (3*k+2)) (b:=N) (by omega);omega⟩;obtain ⟨so,hso⟩:∃ so:List Nat,so=if mus its=[] then [] else [f 0,f 1]:=⟨_,rfl⟩
 rw [<- hH];unfold bI;refine sys (dP a w st its j c x8 x9 x10 (some (.d (.list ((mus its).map nI)))) (some (.c H0.length)) (some (.d (.int o))) (some (.d (nI k))) (some (.d (.list (so.map nI)))) x16) H ?_ ?_
 ·simp [dP,aM,er];rw [iJ (fun _=>decide (mus its≠[])) (fun x=>nI (f (cK x).toNat)) (fun δ=>∃ u,δ=[u,some (.d (nI k)),some (.d (.list ((mus its).map nI))),some (.d (.int o))]) (rng 0 2) _ [] ⟨_,rfl⟩ ?_]
  ·by_cases z:mus its=[]
   ·simp [hso,z,szl]
   ·have e2:rng 0 2=[.int 0,.int 1]:=rfl;simp [hso,z,e2,cK,szl]
  ·rintro x hx δ ⟨u,rfl⟩;obtain ⟨i,hi,rfl⟩:=kD hx;refine ⟨_,rfl,⟨_,rfl⟩,by simp [bH0],fun hz=>?_⟩;have hz:mus its≠[]:=of_decide_eq_true hz;have l0:0 < (mus its).length:=List.length_pos_iff.mpr hz;have b1:=Int.emod_nonneg (dwF o (3*k+i)) (b:=L) (by omega);have b2:=Int.emod_lt_of_pos (dwF o (3*k+i)) hL;have e1:atI ((mus its).map nI) (dwF o (3*k+i)%L)=some (nI (f i)):=by
    have:=bG7 (l:=mus its) (x:=(dwF o (3*k+i)%L).toNat) (by omega);rw [Int.toNat_of_nonneg b1] at this;rw [this,hf];rfl
   simp [nI,m3,dr,bH1,<- eL,hL,cK];exact e1
 refine sys (dP a w st its j c x8 x9 x10 (some (.d (.list ((mus its).map nI)))) (some (.c H0.length)) (some (.d (.int o))) (some (.d (nI k))) (some (.d (.list (so.map nI)))) (some (.d (nI t)))) H (by simp [dP,nI,m3,dr,bH1,<- eN,hN,ht3]) ?_
 by_cases hz:mus its=[]
 ·refine ⟨_,_,?_,ts,ht,by omega,hH,some (.d (.list (so.map nI))),some (.d (nI t)),rfl⟩;rw [if_pos hz] at hso;subst hso;simp [dP,aM,nI,szl,lsL,ST.dd,step_dedup]
 rw [if_neg hz] at hso;have mem:∀ i,f i∈mus its:=fun i=>by
  have l0:0 < (mus its).length:=List.length_pos_iff.mpr hz;have b1:=Int.emod_nonneg (dwF o (3*k+i)) (b:=L) (by omega);have b2:=Int.emod_lt_of_pos (dwF o (3*k+i)) hL;rw [hf];exact aA9 (by omega)
 have s3:ST.dd [(f 0:Int),f 1,t]=ST.dd [(f 0:Int),f 1,t]:=rfl
 by_cases hd:(f 0:Int)≠f 1/\(f 0:Int)≠t/\(f 1:Int)≠t
 ·obtain ⟨d1,d2,d3⟩:=hd;have e3:((ST.dd [(f 0:Int),f 1,t]).length:Int)=3:=by rw [qN (by simp;omega)];rfl
  have hs:ts.length < 16777216:=by omega
  refine ⟨_,_,?_,ts++[(f 0,f 1,t)],fun p hp=>?_,by simp,rfl,some (.d (.list (so.map nI))),some (.d (nI t)),rfl⟩
  ·subst hso;rw [hH];simp [dP,aM,nI,szl,lsL,e3,mpre_last,mD,fZ,hs,p3]
  ·rcases List.mem_append.mp hp with q | q
   ·exact ht p q
   ·rw [List.mem_singleton.mp q];have p0:=uC (mem 0);have p1:=uC (mem 1);have b2:=Int.emod_lt_of_pos (dwF o (3*k+2)) hN;have hn:its.length≠0:=by have:=p0.1;omega
    exact ⟨p0.1,p1.1,by dsimp only;omega,by dsimp only;omega,by dsimp only;omega,by dsimp only;omega,p0.2,p1.2⟩
 ·refine ⟨_,_,?_,ts,ht,by omega,hH,some (.d (.list (so.map nI))),some (.d (nI t)),rfl⟩;have e3:=dd3 hd;subst hso;simp [dP,aM,nI,szl,lsL,e3]
end
end K30

namespace K30
open PySem PySem.Spec PyProof.Rows L2 DL CI SJ
def aH7 (S:List Int):∃ C:List Int,C.length<=9/\cut (S.map PyData.int) (some 3) (some 12)=C.map .int:=by
 refine ⟨(S.drop (min 3 S.length)).take (min 12 S.length - min 3 S.length),?_,?_⟩
 ·rw [List.length_take];omega
 ·have e1:HT.sIx (S.map PyData.int).length 0 (some 3)=min 3 S.length:=by rw [List.length_map];exact HT.sIx_nat _ _ 3
  have e2:HT.sIx (S.map PyData.int).length (S.map PyData.int).length (some 12)=min 12 S.length:=by rw [List.length_map];exact HT.sIx_nat _ _ 12
  rw [cut,e1,e2,<- List.map_drop,<- List.map_take]
def syP {Q:Option (Fl×aA)->Prop} {x:Option (Fl×aA)} {k:DSt->Fl×aA->Option (Fl×aA)} (δ:DSt) (h:aA) (e:x=some (.nx δ,h)) (kk:Q (k δ (.nx δ,h))):Q (YP x (YQ k)):=by
 rw [e];exact kk
def syE {Q:Option (Fl×aA)->Prop} {x:Option (Fl×aA)} {k:DSt->Fl×aA->Option (Fl×aA)} (J:DSt->aA->Prop) (e:∃ δ h,x=some (.nx δ,h)/\J δ h) (kk:∀ δ h,J δ h->Q (k δ (.nx δ,h))):Q (YP x (YQ k)):=by
 obtain ⟨δ,h,e,j⟩:=e;rw [e];exact kk δ h j
def aB0 (its:List It) (g:XG) (tt:XR Bool) (te:XR W) (all:List PyData) (H:aA) (I:DSt->Prop) (δ:DSt) (i:I δ)
  (hx:∀ k,∀ hk:k < its.length,∀ δ,I δ->∃ δ',g (.d (nI k)) δ H=some (δ',H)/\I δ'/\tt δ' H=some (decide (its[k].w="must"),H)/\te δ' H=some (.d (nI k),H)):aR g tt te none all ((List.range its.length).map nI) δ H []=some ((mus its).map nI,H):=by
 rw [iJ (fun x=>aA8 its (cK x).toNat) (fun x=>x) I _ _ [] i fun x hx' δ j=>?_]
 ·simp only [List.nil_append,List.map_id',List.filter_map];rfl
 ·obtain ⟨k,hk,rfl⟩:=List.mem_map.mp hx';have hk:=List.mem_range.mp hk;obtain ⟨δ',h1,h2,h3,h4⟩:=hx k hk δ j;refine ⟨δ',h1,h2,?_,fun _=>h4⟩;rw [h3]
  congr 2
  show _=aA8 its ((k:Int)).toNat;simp [aA8,hk]
def RB (h:aA) (x:Option (Fl×aA)):Prop:=∃ b:Pb,b.ok/\b.its.length<=9/\x.bind (aO h)=some (b.dat,h)
def vY (d:Nat) (h:aA) (S:List Int):∃ b:Pb,b.ok/\b.its.length<=9/\aE T (d+7) "_law_problem" [.d (.list (S.map .int)),.d (.int 9)] h=some (b.dat,h):=by
 obtain ⟨w,g0⟩:=lT (d+5) S 0;obtain ⟨c,g1⟩:=lT (d+5) S 1;obtain ⟨o,g2⟩:=lT (d+5) S 2;have g0:∀ h,aE T (d+6) (Str.ofString "_law_cell_at") [.d (.list (S.map .int)),.d (.int 0)] h=some (.int w,h):=g0;have g1:∀ h,aE T (d+6) (Str.ofString "_law_cell_at") [.d (.list (S.map .int)),.d (.int 1)] h=some (.int c,h):=g1;have g2:∀ h,aE T (d+6) (Str.ofString "_law_cell_at") [.d (.list (S.map .int)),.d (.int 2)] h=some (.int o,h):=g2;obtain ⟨C,hC,eC⟩:=aH7 S;have hst:(stV w).length=8:=by simp [stV]
 obtain ⟨its,hl,ok,g3⟩:=aH5 d h C w hst (by omega);have hn:its.length<=9:=by omega
 have e2:aP 2=true:=by decide
 have e4:aP 4=true:=by decide
 have er8:fY 0 8=true:=by decide
 have m12:∀ j,cM 12 j=true:=fun j=>eJ (by decide) (by decide) j;have m3:∀ j,cM 3 j=true:=fun j=>eJ (by decide) (by decide) j;obtain ⟨sd,esd⟩:∃ sd,sd=PyData.list (S.map .int):=⟨_,rfl⟩;have q1:∀ H,xSl (.d sd) (some 3) (some 12) H=some (.d (.list (C.map .int)),H):=fun H=>by rw [esd,<- eC];rfl
 rw [<- esd] at g0 g1 g2;rw [<- esd,show d+7=(d+6)+1 from rfl,lO];show RB h _;refine syP [some (.d sd),some (.d (.int 9)),some (.d (.int w)),none,none,none,none,none,none,none,none,none,none,none,none,none,none] h (by simp [g0]) ?_;refine syP [some (.d sd),some (.d (.int 9)),some (.d (.int w)),some (.d (.tuple ((stV w).map .int))),none,none,none,none,none,none,none,none,none,none,none,none,none] h ?_ ?_
 ·simp [er8,aM];rw [lI (fun x=>.int (vF (12*(w / 2 / (1+3*cK x))+1))) (fun δ=>∃ u,δ=[u,some (.d (.int w))]) (rng 0 8) _ ⟨_,rfl⟩ ?_]
  ·have e:(rng 0 8).map (fun x=>PyData.int (vF (12*(w / 2 / (1+3*cK x))+1)))=(stV w).map .int:=by
    rw [vT,List.map_map,stV,List.map_map];rfl
   simp [e,stV,szl]
  ·rintro x hx δ ⟨u,rfl⟩;obtain ⟨k,hk,rfl⟩:=kD hx;have dv:aP (1+3*(0+(k:Int)))=true:=tQ (by omega) (by omega);have cv:=pB (d+5) h;refine ⟨_,rfl,⟨_,rfl⟩,?_⟩;simp at dv;simp [e2,m3,m12,dv,cv,cK]
 refine syP [some (.d sd),some (.d (.int 9)),some (.d (.int w)),some (.d (.tuple ((stV w).map .int))),some (.d (.tuple (its.map It.dat))),none,none,none,none,none,none,none,none,none,none,none,none] h (by simp [q1,g3]) ?_;refine syP [some (.d sd),some (.d (.int 9)),some (.d (.int w)),some (.d (.tuple ((stV w).map .int))),some (.d (.tuple (its.map It.dat))),some (.d (.list ((List.range its.length).map nI))),none,none,none,none,none,none,none,none,none,none,none] h ?_ ?_
 ·have b1:(-4611686018427387904:Int)<=its.length:=by omega
  have b2:(its.length:Int) < 4611686018427387904:=by omega
  have b3:(its.length:Int)<=16000000:=by omega
  simp [aM,b1,b2,b3,aV2,szl];try omega
 refine syP [some (.d sd),some (.d (.int 9)),some (.d (.int w)),some (.d (.tuple ((stV w).map .int))),some (.d (.tuple (its.map It.dat))),some (.d (.list ((List.range its.length).map nI))),some (.c h.length),none,none,none,none,none,none,none,none,none,none] (h++[.l []]) (by simp [aV]) ?_;refine syP (dP (.d sd) w (stV w) its h.length c none none none none none none none none none) (h++[.l []]) (by simp [dP,g1]) ?_;refine syE (fun δ H=>∃ ps:List (Nat×Nat),Pok its.length ps/\ps.length<=81/\H=h++[.l (ps.map p2)]/\∃ x8 x9 x10,δ=dP (.d sd) w (stV w) its h.length c x8 x9 x10 none none none none none none) ?_ ?_
 ·refine aA6 (((List.range its.length).map nI,none),h++[.l []]) (by simp [dP,bK]) ?_;show ∃ δ2 h2,bR (YG 8) (bJ (d+6)) none ((List.range its.length).map nI) ((List.range its.length).map nI) _ _=some (.nx δ2,h2)/\_;refine dX (fun m δ H=>∃ ps:List (Nat×Nat),Pok its.length ps/\ps.length<=its.length*m/\H=h++[.l (ps.map p2)]/\∃ x8 x9 x10,δ=dP (.d sd) w (stV w) its h.length c x8 x9 x10 none none none none none none) ⟨[],(fun _ z=>nomatch z),by simp,rfl,_,_,_,rfl⟩ (fun δ H=>?_) fun m hm δ H=>?_
  ·rintro ⟨ps,h1,h2,h3⟩;refine ⟨ps,h1,?_,h3⟩;have h2:ps.length<=its.length*its.length:=by simpa using h2
   have:its.length*its.length<=9*9:=Nat.mul_le_mul hn hn;omega
  ·rintro ⟨ps,h1,h2,rfl,x8,x9,x10,rfl⟩;have hm:m < its.length:=by simpa using hm
   have em:((List.range its.length).map nI)[m]'(by simpa using hm)=nI m:=by simp
   rw [em];exact ⟨_,_,rfl,aV3 (d+5) h (.d sd) w (stV w) its c hm hn h1 h2 x9 x10⟩
 rintro _ _ ⟨ps,hps,hpl,rfl,x8,x9,x10,rfl⟩;obtain ⟨H,hH⟩:∃ H,H=h++[.l (ps.map p2)]:=⟨_,rfl⟩;rw [<- hH];refine syP (dP (.d sd) w (stV w) its h.length c x8 x9 x10 (some (.d (.list ((mus its).map nI)))) none none none none none) H ?_ ?_
 ·simp [dP,aM,bK];rw [aB0 its _ _ _ _ _ (fun δ=>∃ u,δ=[u,some (.d (.tuple (its.map It.dat)))]) _ ⟨_,rfl⟩ ?_]
  ·have:(mus its).length<=its.length:=by
    have:=List.length_filter_le (aA8 its) (List.range its.length)
    rwa [List.length_range] at this
   simp [szl];try omega
  ·rintro k hk δ ⟨u,rfl⟩;refine ⟨_,rfl,⟨_,rfl⟩,?_,rfl⟩;have e:=aA2 (List.getElem?_eq_getElem hk);simp [nI,e,It.dat];try rfl
 refine syP (dP (.d sd) w (stV w) its h.length c x8 x9 x10 (some (.d (.list ((mus its).map nI)))) (some (.c H.length)) none none none none) (H++[.l []]) (by simp [dP,aV]) ?_;refine syP (dP (.d sd) w (stV w) its h.length c x8 x9 x10 (some (.d (.list ((mus its).map nI)))) (some (.c H.length)) (some (.d (.int o))) none none none) (H++[.l []]) (by simp [dP,g2]) ?_;obtain ⟨n,hn4,en⟩:∃ n:Nat,n<=3/\o%4=n:=⟨(o%4).toNat,by omega,by omega⟩;refine syE (fun δ H'=>∃ ts:List (Nat×Nat×Nat),aH6 its ts/\ts.length<=3/\H'=H++[.l (ts.map p3)]/\∃ x14 x15 x16,δ=dP (.d sd) w (stV w) its h.length c x8 x9 x10 (some (.d (.list ((mus its).map nI)))) (some (.c H.length)) (some (.d (.int o))) x14 x15 x16) ?_ ?_
 ·have er:fY 0 n=true:=fV (by omega) (by omega);refine aA6 ((rng 0 n,none),H++[.l []]) (by simp [dP,e4,en,er]) ?_;show ∃ δ2 h2,bR (YG 14) (bI (d+6)) none (rng 0 n) (rng 0 n) _ _=some (.nx δ2,h2)/\_;refine dX (fun m δ H'=>∃ ts:List (Nat×Nat×Nat),aH6 its ts/\ts.length<=m/\H'=H++[.l (ts.map p3)]/\∃ x14 x15 x16,δ=dP (.d sd) w (stV w) its h.length c x8 x9 x10 (some (.d (.list ((mus its).map nI)))) (some (.c H.length)) (some (.d (.int o))) x14 x15 x16) ⟨[],(fun _ z=>nomatch z),by simp,rfl,_,_,_,rfl⟩ (fun δ H=>?_) fun m hm δ H=>?_
  ·rintro ⟨ts,h1,h2,h3⟩;rw [CI.rng_len] at h2;exact ⟨ts,h1,by omega,h3⟩
  ·rintro ⟨ts,h1,h2,rfl,x14,x15,x16,rfl⟩;have hm:m < n:=by simpa [rng] using hm
   have em:(rng 0 n)[m]'(by simpa [rng] using hm)=nI m:=by simp [rng,nI]
   rw [em];refine ⟨_,_,rfl,?_⟩;obtain ⟨δ2,h2',e,ts',t1,t2,t3,y15,y16,t4⟩:=aV4 (d+5) _ (.d sd) w (stV w) its h.length c (k:=m) o h1 (by omega) x8 x9 x10 x15 x16;exact ⟨δ2,h2',e,ts',t1,by omega,t3,_,_,_,t4⟩
 rintro _ _ ⟨ts,hts,htl,rfl,x14,x15,x16,rfl⟩;refine ⟨⟨stV w,its,ps,ts⟩,⟨hst,by dsimp only;omega,ok,by dsimp only;omega,hps,by dsimp only;omega,hts⟩,hn,?_⟩;subst hH;simp [dP,bS,ref,szl,Pb.dat]
end K30

namespace K30
open PySem PySem.Spec PyProof.Rows L2 DL CI SJ
def aB1 (d:Nat) (h:aA) (xs:List PyData) (n:Int):aE T (d+3) "are_numbers" [.d (.tuple xs),.d (.int n)] h=some (.bool (xs.all fun z=>aS z 0 (n - 1)),h):=by
 simp [gC,aM];rw [bM (fun z=>.bool (aS z 0 (n - 1))) 0 (fun _ _ _=>rfl) _ _ _ (fun z _ u=>by simp)];simp [CI.bools_map]
def kdD (b:Bool):PyData:=.str (if b=true then Str.ofString "key" else Str.ofString "item")
noncomputable def rk (s:Str):Option (List Bool):=if s=Str.ofString "told" then some [] else if s=Str.ofString "through" then some [false] else if s=Str.ofString "only" then some [true] else if s=Str.ofString "first" then some [true] else if s=Str.ofString "late" then some [true,false] else if s=Str.ofString "early" then some [true,false] else if s=Str.ofString "apart" then some [false] else none
def bH2 (s:Str):List.lookup s [(Str.ofString "told",PyData.tuple (List.reverse [])),(Str.ofString "through",PyData.tuple (List.reverse [PyData.str (Str.ofString "item")])),(Str.ofString "only",PyData.tuple (List.reverse [PyData.str (Str.ofString "key")])),(Str.ofString "first",PyData.tuple (List.reverse [PyData.str (Str.ofString "key")])),(Str.ofString "late",PyData.tuple (List.reverse [PyData.str (Str.ofString "item"),PyData.str (Str.ofString "key")])),(Str.ofString "early",PyData.tuple (List.reverse [PyData.str (Str.ofString "item"),PyData.str (Str.ofString "key")])),(Str.ofString "apart",PyData.tuple (List.reverse [PyData.str (Str.ofString "item")]))]=(rk s).map fun ks=>.tuple (ks.map kdD):=by
 unfold rk;simp only [List.lookup]
 repeat' split
 all_goals simp_all [kdD]
def tdB (n:Int) (b:Bool) (x:PyData):Bool:=if b=true then eB x else aS x 0 (n - 1)
def vZ (d:Nat) (h:aA) (b:Bool) (x:PyData) (n:Int):aE T (d+4) "is_told" [.d (kdD b),.d x,.d (.int n)] h=some (.bool (tdB n b x),h):=by
 have e:=aB1 d h [x] n;cases b<;>simp [vP,kdD,tdB,e,szl]
def rsB (n:Int):PyData->Bool
 | .tuple (.str s::r)=>(match rk s with
  | some ks=>decide (r.length=ks.length)&&(ks.zip r).all fun p=>tdB n p.1 p.2
  | none=>false)
 | _=>false
theorem zpB (n:Int):∀ (ks:List Bool) (r:List PyData),eY (ks.map kdD) r=((ks.zip r).map fun p=>((PyData.tuple [kdD p.1,p.2],PyData.bool (tdB n p.1 p.2)):PyData×PyData)).map (·.1)
 | [],r=>by simp [eY]
 | k::ks,[]=>by simp [eY]
 | k::ks,x::r=>by
  have:=zpB n ks r;unfold eY at this;simp [eY,this]
def aV5 {s:Str} {ks:List Bool} (e:rk s=some ks):ks.length<=2:=by
 unfold rk at e
 repeat' split at e
 all_goals first | (cases e;simp;done) | (cases e;done)
theorem aB2 {α:Type} (p:α->Bool):∀ xs:List α,dE (xs.map fun z=>PyData.bool (p z))=some (xs.map p)
 | []=>rfl
 | x::r=>by
  rw [List.map_cons,dE,aB2 p r];rfl
def qP (d:Nat) (h:aA) (x:PyData) (n:Int):aE T (d+5) "is_reason" [.d x,.d (.int n)] h=some (.bool (rsB n x),h):=by
 rw [show d+5=(d+4)+1 from rfl,qG];simp only [bH2];rcases tp x with ⟨xs,rfl⟩ | hn
 rotate_left
 ·have:rsB n x=false:=by
   have h1:=hn.1;cases x<;>first | rfl | (rename_i xs;have:=h1 xs.length;simp [bG] at this)
  simp [hn,this]
 cases xs with
 | nil=>simp [cZ,rsB]
 | cons y r =>
  cases y<;>simp [cZ,rsB];rename_i s;cases e:rk s with
  | none=>simp
  | some ks =>
   by_cases hl:r.length=ks.length
   ·have hc:(ks.length:Int)+1=1+ks.length:=by omega
    simp [hl,hc,aM,e,bG3];rw [zpB n ks r,cP (fun δ=>∃ a b,δ=[a,b,some (.d (.int n))]) _ _ _ ⟨_,_,rfl⟩ ?_]
    ·have k2:=aV5 e;simp [szl,Function.comp_def,aB2]
    ·rintro p hp δ ⟨a,b,rfl⟩;obtain ⟨q,hq,rfl⟩:=List.mem_map.mp hp;refine ⟨[some (.d (kdD q.1)),some (.d q.2),_],by simp,⟨_,_,rfl⟩,?_⟩;simp [vZ]
   ·have:¬ ((r.length:Int)+1=1+ks.length):=by omega
    simp [hl,this,e]
end K30

namespace K30
open PySem PySem.Spec PyProof.Rows L2 DL CI SJ
def rgB (n:Int):PyData->Bool
 | .tuple [a,b,y]=>(aS a 0 (n - 1)&&aS b 0 (n - 1))&&rsB n y
 | _=>false
def bH3 (a b c:PyData):cut [a,b,c] none (some 2)=[a,b]:=rfl
def bV3 {x:PyData} (q:bG x 3=true):∃ a b y,x=.tuple [a,b,y]:=by
 cases x<;>simp [bG] at q;rename_i xs
 match xs,q with
 | [a,b,y],_=>exact ⟨a,b,y,rfl⟩
 | [],q=>simp at q
 | [_],q=>simp at q
 | [_,_],q=>simp at q
 | _::_::_::_::_,q=>simp at q;omega
def syR {x:Option (Fl×aA)} {k:DSt->Fl×aA->Option (Fl×aA)} {w:W} {h:aA} (e:x=some (.rt w,h)):YP x (YQ k)=some (.rt w,h):=by
 rw [e];rfl
def ypS {α β:Type} {x:Option α} {f:α->Option β} {R:Option β} (a:α) (e:x=some a) (k:f a=R):YP x f=R:=by
 rw [e];exact k
def sM (d:Nat) (h:aA) (x:PyData) (n:Int):aE T (d+6) "is_ring_step" [.d x,.d (.int n)] h=some (.bool (rgB n x),h):=by
 rw [show d+6=(d+5)+1 from rfl,lN];have e0:=gF (d+4) x h 3;have e0:aE T (d+5) (Str.ofString "is_tuple_of") [.d x,.d (.int 3)] h=some (.bool (bG x 3),h):=e0;cases q:bG x 3 with
 | false =>
  have:rgB n x=false:=by
   unfold rgB;split
   ·simp [bG] at q
   ·rfl
  simp [e0,q,this]
 | true =>
  obtain ⟨a,b,y,rfl⟩:=bV3 q;have e1:=aB1 (d+2) h [a,b] n;have e2:=qP d h y n;cases z:([a,b].all fun z=>aS z 0 (n - 1)) with
  | false =>
   have:rgB n (.tuple [a,b,y])=false:=by
    simp only [List.all_cons,List.all_nil,Bool.and_true] at z;simp [rgB,z]
   rw [z] at e1;simp [e0,q,bH3,e1,this]
  | true =>
   have:rgB n (.tuple [a,b,y])=rsB n y:=by
    simp only [List.all_cons,List.all_nil,Bool.and_true] at z;simp [rgB,z]
   rw [z] at e1;simp [e0,q,bH3,e1,e2,this]
theorem nG {g:XG} {tb:XS} {c:Cw} {all:List PyData} {h:aA} (hc:CI.condB c all h=true) (I:DSt->Prop) (w:W) {x:PyData} {post:List PyData}
  (hx:∀ δ,I δ->∃ δ1,g (.d x) δ h=some (δ1,h)/\tb δ1 h=some (.rt w,h)):∀ (pre:List PyData),(∀ y∈pre,∀ δ,I δ->∃ δ1,g (.d y) δ h=some (δ1,h)/\∃ δ2,tb δ1 h=some (.nx δ2,h)/\I δ2)->∀ δ,I δ->bR g tb c all (pre++x::post) δ h=some (.rt w,h)
 | [],_,δ,i=>by
  obtain ⟨δ1,e1,e2⟩:=hx δ i;rw [List.nil_append,bR,if_pos hc,e1];simp only [bs,e2]
 | y::pre,hp,δ,i=>by
  obtain ⟨δ1,e1,δ2,e2,i2⟩:=hp y List.mem_cons_self δ i;rw [List.cons_append,bR,if_pos hc,e1];simp only [bs,e2];exact nG hc I w hx pre (fun y hy=>hp y (List.mem_cons_of_mem _ hy)) δ2 i2
theorem nH:∀ (xs ys:List PyData) (k:Nat),enumF k (xs++ys)=enumF k xs++enumF (k+xs.length) ys
 | [],ys,k=>rfl
 | x::xs,ys,k=>by
  rw [List.cons_append,enumF,nH xs ys (k+1),enumF,List.cons_append,List.length_cons]
  congr 3
  omega
theorem nJ:∀ (xs:List PyData) (k:Nat),∀ z∈enumF k xs,∃ (i:Nat) (y:PyData),z=.tuple [.int i,y]/\y∈xs
 | [],k,z,h=>nomatch h
 | y::r,k,z,h=>by
  rcases List.mem_cons.mp h with rfl | h
  ·exact ⟨_,y,rfl,List.mem_cons_self⟩
  ·obtain ⟨i,x,e,hx⟩:=nJ r (k+1) z h;exact ⟨i,x,e,List.mem_cons_of_mem _ hx⟩
def Lst (H:aA) (w:W) (zs:List PyData):Prop:=(∃ t,ref H w=some t/\(isi t "list"||isi t "tuple")=true)/\∃ c,lU w H=some ((bB zs,c),H)/\CI.condB c (bB zs) H=true
def aH8 (d:Nat) (H:aA) {b:Pb} (hb:b.ok) {w:W} {pre post:List PyData} {z:PyData} (hl:Lst H w (pre++z::post)) (hp:∀ y∈pre,rgB b.its.length y=true) (hz:rgB b.its.length z=false) :
  aE T (d+14) "ring_fault" [.d b.dat,w] H=some (.tuple [.str (Str.ofString "form"),.int pre.length],H):=by
 have e0:=tZ d H hb;obtain ⟨⟨t,r1,r2⟩,c,r3,r4⟩:=hl;have e1:aE T (d+13) (Str.ofString "steps_fault") [.d b.dat,w] H=some (.tuple [.str (Str.ofString "form"),.int pre.length],H):=by
  rw [show d+13=(d+12)+1 from rfl,gE];have bd:b.dat=.tuple [.tuple (b.st.map .int),.tuple (b.its.map It.dat),.tuple (b.ps.map p2),.tuple (b.ts.map p3)]:=rfl;have q1:∀ k,xIx (.d b.dat) (.d (.int 1)) k=some (.d (.tuple (b.its.map It.dat)),k):=fun k=>by rw [bd];simp
  have cs:=fun x=>sM (d+6) H x b.its.length;obtain ⟨bt,hbt⟩:∃ bt,bt=b.dat:=⟨_,rfl⟩;rw [<- hbt] at q1 ⊢;have lp:bR (bU [YG 2,YG 3]) (bQ (d+12)) c (bB (pre++z::post)) (bB (pre++z::post)) [some (.d bt),some w,none,none,none,none] H=some (.rt (.d (.tuple [.str (Str.ofString "form"),.int pre.length])),H):=by
   obtain ⟨all,ha⟩:∃ all,all=bB (pre++z::post):=⟨_,rfl⟩;have hs:bB (pre++z::post)=enumF 0 pre++.tuple [.int pre.length,z]::enumF (pre.length+1) post:=by
    unfold bB;rw [nH,enumF,Nat.zero_add]
   rw [<- ha] at r4 ⊢;rw [show bR (bU [YG 2,YG 3]) (bQ (d+12)) c all all=bR (bU [YG 2,YG 3]) (bQ (d+12)) c all (enumF 0 pre++.tuple [.int pre.length,z]::enumF (pre.length+1) post) from by rw [<- hs,ha]];refine nG r4 (fun δ:DSt=>∃ u v:Option W,δ=[some (.d bt),some w,u,v,none,none]) _ ?_ _ ?_ _ ⟨_,_,rfl⟩
   ·rintro δ ⟨u,v,rfl⟩;refine ⟨[some (.d bt),some w,some (.d (.int pre.length)),some (.d z),none,none],by simp [bU,wT],?_⟩;simp [q1,cs,hz,szl]
   ·rintro y hy δ ⟨u,v,rfl⟩;obtain ⟨i,x,rfl,hx⟩:=nJ _ _ y hy;refine ⟨[some (.d bt),some w,some (.d (.int i)),some (.d x),none,none],by simp [bU,wT],[some (.d bt),some w,some (.d (.int i)),some (.d x),none,none],?_,_,_,rfl⟩;simp [q1,cs,hp x hx]
  refine sq (.rt (.d (.tuple [.str (Str.ofString "form"),.int pre.length])),H) ?_ (by simp);refine sy [some (.d bt),some w,none,none,none,none] H (by simp [r1,r2]) ?_;exact syR (ypS ((bB (pre++z::post),c),H) (by simp [r3]) lp)
 simp [iL,e0,e1]
end K30

namespace K30
open PySem PySem.Spec PyProof.Rows L2 DL CI SJ
noncomputable def whL (r n:Int):List PyData:=[.tuple [.str (Str.ofString "told")],.tuple [.str (Str.ofString "through"),.int (r / 256%n)],.tuple [.str (Str.ofString "only"),.int (r / 4096%8)],.tuple [.str (Str.ofString "first"),.int (r / 4096%8)],.tuple [.str (Str.ofString "late"),.int (r / 4096%8),.int (r / 256%n)],.tuple [.str (Str.ofString "early"),.int (r / 4096%8),.int (r / 256%n)],.tuple [.str (Str.ofString "apart"),.int (r / 256%n)]]
def qQ (r n:Int):PyData:=(whL r n).getD (r / 32768%7).toNat .none
def gG (r n:Int):PyData:=.tuple [.int (r%n),.int (r / 16%n),qQ r n]
def aV6 (r n:Int):atI (whL r n) (r / 32768%7)=some (qQ r n):=by
 have h:=dK (xs:=whL r n) (j:=(r / 32768%7).toNat) (v:=qQ r n) (by
  have:(r / 32768%7).toNat < (whL r n).length:=by show _ < 7;omega
  rw [List.getElem?_eq_getElem this,qQ,List.getD_eq_getElem?_getD,List.getElem?_eq_getElem this];rfl)
 rwa [Int.toNat_of_nonneg (by omega)] at h
def uD (r n:Int):qQ r n∈whL r n:=by
 have:(r / 32768%7).toNat < (whL r n).length:=by show _ < 7;omega
 rw [qQ,List.getD_eq_getElem?_getD,List.getElem?_eq_getElem this];exact List.getElem_mem this
def aB3 (d:Nat) (h:aA) (r:Int) {n:Int} (hn:0 < n):aE T (d+1) "_law_good" [.d (.int r),.d (.int n)] h=some (gG r n,h):=by
 have e1:aP 16=true:=by decide
 have e2:aP 256=true:=by decide
 have e3:aP 4096=true:=by decide
 have e4:aP 32768=true:=by decide
 have w:=aV6 r n;unfold whL at w;simp [qH,e1,e2,e3,e4,hn,aM,szl,w,gG]
def sN (r n:Int) (hn:0 < n):aS (.int (r%n)) 0 (n - 1)=true:=by
 have h1:=Int.emod_nonneg r (b:=n) (by omega);have h2:=Int.emod_lt_of_pos r hn;simp [aS,dZ];omega
def uE (r n:Int) (hn:0 < n):((whL r n).all fun y=>rsB n y&&aI 19 y)=true:=by
 have h:=sN (r / 256) n hn;have k:eB (.int (r / 4096%8))=true:=by
  have:=sN (r / 4096) 8 (by decide)
  simpa [eB] using this
 simp [whL,rsB,rk,tdB,h,k]
def aH9 (r n:Int) (hn:0 < n):rgB n (gG r n)=true/\aI 20 (gG r n)=true:=by
 have h:=List.all_eq_true.mp (uE r n hn) _ (uD r n);rw [Bool.and_eq_true] at h;exact ⟨by simp [gG,rgB,sN,hn,h.1],by simp [gG,h.2]⟩
abbrev wS (a:String):PyData:=.str (Str.ofString a)
section
variable (n x y:Int) (w:PyData)
abbrev xyT (z:PyData):PyData:=.tuple [.int x,.int y,z]
noncomputable def E0:List PyData:=[.none,.int 7,wS "told",.tuple [],.list [.int x,.int y,w],.tuple [.int x,.int y],.tuple [.int x,.int y,w,.int 0],.tuple [.int n,.int y,w],.tuple [.int x,.int n,w],.tuple [.int (-1),.int y,w]]
noncomputable def E1:List PyData:=[.tuple [.int x,.int (-1),w],.tuple [.bool true,.int y,w],.tuple [.int x,.none,w],xyT x y .none,xyT x y (.tuple []),xyT x y (wS "told")]
noncomputable def E2:List PyData:=[xyT x y (.list [wS "told"])]
noncomputable def E3:List PyData:=[xyT x y (.tuple [wS "told",.int 0]),xyT x y (.tuple [wS "through"]),xyT x y (.tuple [wS "through",.int n]),xyT x y (.tuple [wS "only",.int 8])]
noncomputable def E4:List PyData:=[xyT x y (.tuple [wS "only",.int (-1)]),xyT x y (.tuple [wS "first"]),xyT x y (.tuple [wS "first",.int 0,.int 0]),xyT x y (.tuple [wS "late",.int 0])]
noncomputable def E5:List PyData:=[xyT x y (.tuple [wS "late",.int 0,.int n]),xyT x y (.tuple [wS "late",.int 8,.int 0]),xyT x y (.tuple [wS "early",.int 0,.int (-1)])]
noncomputable def E6:List PyData:=[xyT x y (.tuple [wS "early",.int 0,.int 0,.int 0])]
noncomputable def E7:List PyData:=[xyT x y (.tuple [wS "apart"]),xyT x y (.tuple [wS "apart",.none]),xyT x y (.tuple [wS "Told"])]
noncomputable def W0:List PyData:=[.tuple [wS "through",.bool true],.tuple [wS "apart",.bool false],.tuple [wS "only",.bool true],.tuple [wS "first",.bool false],.tuple [wS "late",.bool true,.int 0],.tuple [wS "late",.int 0,.bool true]]
noncomputable def W1:List PyData:=[.tuple [wS "early",.int 0,.bool false]]
def iQ:List PyData:=E0 n x y w++E1 x y w++E2 x y++E3 n x y++E4 x y++E5 n x y++E6 x y++E7 x y++(W0++W1).map (xyT x y)
def aB4:(iQ n x y w).length=39:=rfl
variable {n x y w}
def aI0 (hn:0 < n) (hp:aI 19 w=true):((iQ n x y w).all fun z=>!rgB n z&&aI 20 z)=true:=by
 have b1:aS (.int n) 0 (n - 1)=false:=by simp [aS,dZ];omega
 have b2:aS (.int (-1)) 0 (n - 1)=false:=by simp [aS,dZ]
 have b3:∀ b,aS (.bool b) 0 (n - 1)=false:=fun b=>rfl;have b4:aS .none 0 (n - 1)=false:=rfl;have b5:∀ b,eB (.bool b)=false:=fun b=>rfl;have b6:eB (.int 8)=false:=by decide
 have b7:eB (.int (-1))=false:=by decide
 simp [iQ,E0,E1,E2,E3,E4,E5,E6,E7,W0,W1,rgB,rsB,rk,tdB,b1,b2,b3,b4,b5,b6,b7,hp]
end
end K30

namespace K30
open PySem PySem.Spec PyProof.Rows L2 DL CI SJ
noncomputable def dN (r n x y:Int) (g w:PyData) (s6 s7:Option W):DSt:=[some (.d (.int r)),some (.d (.int n)),some (.d g),some (.d (.int x)),some (.d (.int y)),some (.d w),s6,s7]
def ref_l (H:aA) (xs:List PyData):ref (H++[.l xs]) (.c H.length)=some (.list xs):=by simp [ref]
def RN (h:aA) (z:PyData) (x:Option (Fl×aA)):Prop:=x.bind (aO h)=some (z,h)
def aB5 (d:Nat) (h:aA) (r:Int) {n:Int} (hn:0 < n):∃ z,rgB n z=false/\aI 20 z=true/\aE T (d+2) "_law_none" [.d (.int r),.d (.int n)] h=some (z,h):=by
 have e39:aP 39=true:=by decide
 have g1:=fun H=>aB3 d H (r / 39) hn;have hw:aI 19 (qQ (r / 39) n)=true:=by
  have h:=List.all_eq_true.mp (uE (r / 39) n hn) _ (uD (r / 39) n);rw [Bool.and_eq_true] at h;exact h.2
 unfold gG at g1;generalize qQ (r / 39) n=w at g1 hw;generalize r / 39%n=x at g1;generalize r / 39 / 16%n=y at g1;obtain ⟨g,eg⟩:∃ g,g=PyData.tuple [.int x,.int y,w]:=⟨_,rfl⟩;rw [<- eg] at g1;obtain ⟨z,hz⟩:∃ z,z=(iQ n x y w).getD (r%39).toNat .none:=⟨_,rfl⟩;have zl:(r%39).toNat < (iQ n x y w).length:=by rw [aB4];omega
 have zat:atI (iQ n x y w) (r%39)=some z:=by
  have h:=dK (xs:=iQ n x y w) (j:=(r%39).toNat) (v:=z) (by
   rw [hz,List.getD_eq_getElem?_getD,List.getElem?_eq_getElem zl];rfl)
  rwa [Int.toNat_of_nonneg (by omega)] at h
 have zok:(!rgB n z&&aI 20 z)=true:=List.all_eq_true.mp (aI0 (x:=x) (y:=y) hn hw) z (by
  rw [hz,List.getD_eq_getElem?_getD,List.getElem?_eq_getElem zl];exact List.getElem_mem zl)
 rw [Bool.and_eq_true,Bool.not_eq_true'] at zok;refine ⟨z,zok.1,zok.2,?_⟩;rw [show d+2=(d+1)+1 from rfl,qI];show RN h z _;obtain ⟨N0,h0⟩:∃ N0,N0=E0 n x y w:=⟨_,rfl⟩;have l0:N0.length=10:=by rw [h0];rfl
 refine syP [some (.d (.int r)),some (.d (.int n)),some (.d g),none,none,none,none,none] h (by simp [e39,g1]) ?_;refine syP (dN r n x y g w none none) h (by simp [dN,eg,bU,wT]) ?_;refine syP (dN r n x y g w (some (.c h.length)) none) (h++[.l N0]) (by simp [dN,h0,E0,eg,aV,aM,ref,szl]) ?_;obtain ⟨N1,h1⟩:∃ N1,N1=N0++E1 x y w:=⟨_,rfl⟩;have l1:N1.length=16:=by rw [h1,List.length_append,l0];rfl
 obtain ⟨H1,hH1⟩:∃ H1,H1=h++[.l N0]:=⟨_,rfl⟩;have r1:=ref_l h N0;rw [<- hH1] at r1 ⊢;refine syP (dN r n x y g w (some (.c H1.length)) none) (H1++[.l N1]) (by simp [dN,h1,E1,aV,aM,r1,l0,szl]) ?_;obtain ⟨N2,h2⟩:∃ N2,N2=N1++E2 x y:=⟨_,rfl⟩;have l2:N2.length=17:=by rw [h2,List.length_append,l1];rfl
 refine syP (dN r n x y g w (some (.c H1.length)) none) (H1++[.l N2]) (by simp [dN,h2,E2,aM,l1,mpre_last,mD,fZ,szl]) ?_;obtain ⟨N3,h3⟩:∃ N3,N3=N2++E3 n x y:=⟨_,rfl⟩;have l3:N3.length=21:=by rw [h3,List.length_append,l2];rfl
 obtain ⟨H2,hH2⟩:∃ H2,H2=H1++[.l N2]:=⟨_,rfl⟩;have r2:=ref_l H1 N2;rw [<- hH2] at r2 ⊢;refine syP (dN r n x y g w (some (.c H2.length)) none) (H2++[.l N3]) (by simp [dN,h3,E3,aV,aM,r2,l2,szl]) ?_;obtain ⟨N4,h4⟩:∃ N4,N4=N3++E4 x y:=⟨_,rfl⟩;have l4:N4.length=25:=by rw [h4,List.length_append,l3];rfl
 obtain ⟨H3,hH3⟩:∃ H3,H3=H2++[.l N3]:=⟨_,rfl⟩;have r3:=ref_l H2 N3;rw [<- hH3] at r3 ⊢;refine syP (dN r n x y g w (some (.c H3.length)) none) (H3++[.l N4]) (by simp [dN,h4,E4,aV,aM,r3,l3,szl]) ?_;obtain ⟨N5,h5⟩:∃ N5,N5=N4++E5 n x y:=⟨_,rfl⟩;have l5:N5.length=28:=by rw [h5,List.length_append,l4];rfl
 obtain ⟨H4,hH4⟩:∃ H4,H4=H3++[.l N4]:=⟨_,rfl⟩;have r4:=ref_l H3 N4;rw [<- hH4] at r4 ⊢;refine syP (dN r n x y g w (some (.c H4.length)) none) (H4++[.l N5]) (by simp [dN,h5,E5,aV,aM,r4,l4,szl]) ?_;obtain ⟨N6,h6⟩:∃ N6,N6=N5++E6 x y:=⟨_,rfl⟩;have l6:N6.length=29:=by rw [h6,List.length_append,l5];rfl
 refine syP (dN r n x y g w (some (.c H4.length)) none) (H4++[.l N6]) (by simp [dN,h6,E6,l5,mpre_last,mD,fZ,szl]) ?_;obtain ⟨N7,h7⟩:∃ N7,N7=N6++E7 x y:=⟨_,rfl⟩;have l7:N7.length=32:=by rw [h7,List.length_append,l6];rfl
 obtain ⟨H5,hH5⟩:∃ H5,H5=H4++[.l N6]:=⟨_,rfl⟩;have r5:=ref_l H4 N6;rw [<- hH5] at r5 ⊢;refine syP (dN r n x y g w (some (.c H5.length)) none) (H5++[.l N7]) (by simp [dN,h7,E7,aV,aM,r5,l6,szl]) ?_;obtain ⟨H6,hH6⟩:∃ H6,H6=H5++[.l N7]:=⟨_,rfl⟩;have r6:=ref_l H5 N7;rw [<- hH6] at r6 ⊢;refine syP (dN r n x y g w (some (.c H5.length)) (some (.d (.list W0)))) H6 (by simp [dN,W0,aM,szl]) ?_;have ad:∀ ys:List PyData,ys.length=7->cW .Add (.c H5.length) (.d (.list ys)) H6=some (.d (.list (N7++ys)),H6):=fun ys hy=>by
  have q:ref H6 (.d (.list ys))=some (.list ys):=rfl;simp only [cW,aC2,r6,q,l7,hy,szl];rfl
 have fin:iQ n x y w=N7++(W0++W1).map (xyT x y):=by rw [h7,h6,h5,h4,h3,h2,h1,h0];rfl
 have okk:okP h H6/\H6.take h.length=h:=by
  have:∃ L,H6=h++L:=⟨_,by rw [hH6,hH5,hH4,hH3,hH2,hH1];simp only [List.append_assoc];rfl⟩;obtain ⟨L,rfl⟩:=this;exact ⟨gT L rfl (dM h),by simp⟩
 have fin':(.tuple [.int x,.int y,.tuple [wS "early",.int 0,.bool false]])=xyT x y (.tuple [wS "early",.int 0,.bool false]):=rfl;have mp:∀ L':List PyData,L'=W0++W1->∀ all,aR (YG 0) (aD true) (xb (xPl (Y3 (aB 1) (aB 2) (aB 0))) YT) none all L' [none,some (.d (.int x)),some (.d (.int y))] H6 []=some ((W0++W1).map (xyT x y),H6):=fun L' e all=>by
  subst e;refine lI (xyT x y) (fun δ=>∃ u,δ=[u,some (.d (.int x)),some (.d (.int y))]) _ _ ⟨_,rfl⟩ ?_;rintro v hv δ ⟨u,rfl⟩;refine ⟨_,rfl,⟨_,rfl⟩,by simp [szl]⟩
 have ml:((W0++W1).map (xyT x y)).length=7:=rfl;have ad7:=ad _ ml;rw [<- fin] at ad7;generalize (W0++W1).map (xyT x y)=M7 at mp ad7 ml;simp only [bG2] at mp;have w7:W0.length=6:=rfl;have mp':=fun all=>mp (W0++[.tuple [wS "early",.int 0,.bool false]]) rfl all;show Option.bind _ _=_;refine sq (.rt (.d z),H6) (ypS (.rt (.d z),H6) (ypS (.d z,H6) ?_ rfl) rfl) (by simp [okk]);rw [xba];refine sq (.d (.list (iQ n x y w)),H6) ?_ (by simp [dN,e39,zat]);simp [dN,aM,bK,szl,w7];refine sq (.d (.list M7),H6) (sq (M7,H6) (mp' _) rfl) ?_;exact ad7
end K30

namespace K30
open PySem PySem.Spec PyProof.Rows L2 DL CI SJ
section
variable (d:Nat) (h:aA)
def iD (its:List It) (x:PyData):PyData:=.tuple (its.map It.dat++[x])
theorem iR {α:Type}:∀ its:List α,dE (its.map (fun _=>PyData.bool true)++[.bool false])=some (its.map (fun _=>true)++[false])
 | []=>rfl
 | a::r=>by
  rw [List.map_cons,List.cons_append,dE,iR r];rfl
def bV4 {x:PyData} (hx:bG x 4=false):aE T (d+12) "is_problem" [.d x] h=some (.bool false,h):=by
 simp [bY,hx]
def wA {f i p a:PyData} (hf:∀ h,aE T (d+11) "is_stand" [.d f] h=some (.bool true,h)) (bi bp ba:Bool) (hi:∀ h,aE T (d+11) "are_items" [.d i] h=some (.bool bi,h))
  (hp:bi=true->∀ h,∃ n,bN [.d i] h=some (.d (.int n),h)/\aE T (d+11) "are_pairs" [.d p,.d (.int n)] h=some (.bool bp,h)) (ha:bi=true->bp=true->∀ h,aE T (d+11) "are_triples" [.d a,.d i] h=some (.bool ba,h)) (hb:(bi&&(bp&&ba))=false) :
  aE T (d+12) "is_problem" [.d (.tuple [f,i,p,a])] h=some (.bool false,h):=by
 cases bi with
 | false=>simp [bY,bG,hf,hi]
 | true =>
  obtain ⟨n,e1,e2⟩:=hp rfl h;cases bp with
  | false=>simp [bY,bG,hf,hi,e1,e2]
  | true =>
   have e3:=ha rfl rfl h;cases ba with
   | false=>simp [bY,bG,hf,hi,e1,e2,e3]
   | true=>simp at hb
def bH4 (xs:List PyData) (h:aA):bN [.d (.tuple xs)] h=some (.d (.int xs.length),h):=by simp [bN,ref]
def wB {its:List It} (hx:∀ x∈its,x.ok) (hl:its.length<=100) {z:PyData} (hz:∀ h,aE T (d+10) "is_item" [.d z] h=some (.bool false,h)):aE T (d+11) "are_items" [.d (iD its z)] h=some (.bool false,h):=by
 have hl':(its.length:Int)+1<=120:=by omega
 have e1:its.map It.dat++[z]=(its.map (fun x=>(x.dat,PyData.bool true))++[(z,PyData.bool false)]).map (·.1):=by simp
 have e2:(its.map (fun x=>(x.dat,PyData.bool true))++[(z,PyData.bool false)]).map (·.2)=its.map (fun _=>PyData.bool true)++[.bool false]:=by simp
 simp [eM,iD,isi,dG,hl',aM];rw [e1,cP (fun δ=>∃ a,δ=[a]) _ _ _ ⟨_,rfl⟩ (fun q hq δ ⟨a,e⟩=>by
  subst e;refine ⟨[some (.d q.1)],rfl,⟨_,rfl⟩,?_⟩;rcases List.mem_append.mp hq with hq | hq
  ·obtain ⟨x,hx',rfl⟩:=List.mem_map.mp hq;simp [nE d h (hx x hx')]
  ·rw [List.mem_singleton.mp hq];simp [hz]),List.nil_append,e2]
 simp [iR]
def aI1 (xs:List PyData):aE T (d+11) "are_items" [.d (.list xs)] h=some (.bool false,h):=by simp [eM,isi,dG]
def noP (d:Nat) (x:PyData):Prop:=∀ h,aE T (d+12) "is_problem" [.d x] h=some (.bool false,h)
def bH5 {p:Nat×Nat} {n:Nat} (hp:p.1 < n/\p.2 < n/\p.1≠p.2):aE T (d+4) "are_unlike" [.d (p2 p),.d (.int 2),.d (.int n)] h=some (.bool true,h):=by
 obtain ⟨h1,h2,h3⟩:=hp;exact iP d h (ns:=[(p.1:Int),(p.2:Int)]) (n:=n) (by simp;omega) (by simp;omega) (by simp)
def bH6 {p:Nat×Nat×Nat} {n:Nat} (hp:p.1 < n/\p.2.1 < n/\p.2.2 < n/\p.1≠p.2.1/\p.1≠p.2.2/\p.2.1≠p.2.2):aE T (d+4) "are_unlike" [.d (p3 p),.d (.int 3),.d (.int n)] h=some (.bool true,h):=by
 obtain ⟨h1,h2,h3,h4,h5,h6⟩:=hp;exact iP d h (ns:=[(p.1:Int),(p.2.1:Int),(p.2.2:Int)]) (n:=n) (by simp;omega) (by simp;omega) (by simp)
def nK {ps:List (Nat×Nat)} {n:Nat} (hl:ps.length<=100) (hp:∀ p∈ps,p.1 < n/\p.2 < n/\p.1≠p.2) {z:PyData} (hz:∀ h,aE T (d+4) "are_unlike" [.d z,.d (.int 2),.d (.int n)] h=some (.bool false,h)) :
  aE T (d+5) "are_pairs" [.d (.tuple (ps.map p2++[z])),.d (.int n)] h=some (.bool false,h):=by
 have hl':¬ (4000:Int) < (ps.length:Int)+1:=by omega
 have e1:ps.map p2++[z]=(ps.map (fun x=>(p2 x,PyData.bool true))++[(z,PyData.bool false)]).map (·.1):=by simp
 have e2:(ps.map (fun x=>(p2 x,PyData.bool true))++[(z,PyData.bool false)]).map (·.2)=ps.map (fun _=>PyData.bool true)++[.bool false]:=by simp
 simp [jQ,isi,dG,hl',aM];rw [e1,cP (fun δ=>∃ a,δ=[a,some (.d (.int n))]) _ _ _ ⟨_,rfl⟩ (fun q hq δ ⟨a,e⟩=>by
  subst e;refine ⟨[some (.d q.1),some (.d (.int n))],rfl,⟨_,rfl⟩,?_⟩;rcases List.mem_append.mp hq with hq | hq
  ·obtain ⟨x,hx',rfl⟩:=List.mem_map.mp hq;simp [bH5 d h (hp x hx')]
  ·rw [List.mem_singleton.mp hq];simp [hz]),List.nil_append,e2]
 simp [iR]
def qR {x:PyData} (hx:bG x 4=false):noP d x:=fun h=>bV4 d h hx
def bH7 {f i p a:PyData} (hf:∀ h,aE T (d+11) "is_stand" [.d f] h=some (.bool false,h)):noP d (.tuple [f,i,p,a]):=fun h=>by simp [bY,bG,hf]
def bH8 (n a b:Int) (hab:(([PyData.int a,.int b]).all fun x=>aS x 0 (n - 1))=false\/a=b):aE T (d+4) "are_unlike" [.d (.tuple [.int a,.int b]),.d (.int 2),.d (.int n)] h=some (.bool false,h):=by
 have e:=aB1 d h [.int a,.int b] n;cases q:([PyData.int a,.int b].all fun x=>aS x 0 (n - 1)) with
 | false =>
  rw [q] at e;simp [dT,bG,e]
 | true =>
  rw [q] at e;rcases hab with z | rfl
  ·rw [q] at z;cases z
  simp [dT,bG,e,xLS,cS,ST.dd,step_dedup]
noncomputable def zI (w:String) (k:Int) (t:PyData):PyData:=.tuple [.tuple [.str (Str.ofString "read"),.int k],t,.str (Str.ofString w)]
def bV5:aE T (d+10) "is_item" [.d (zI "must" 8 .none)] h=some (.bool false,h):=by
 have e1:=cQ (d+1) h (x:=.tuple [.str (Str.ofString "read"),.int 8]) (by decide);have ex:eT (.tuple [.str (Str.ofString "read"),.int 8])=false:=by decide
 rw [ex] at e1;simp [jH,zI,bG,e1,isi,dG]
def aB6 {its:List It} {ts:List (Nat×Nat×Nat)} (hl:ts.length<=100) (hp:∀ p∈ts,p.1 < its.length/\p.2.1 < its.length/\p.2.2 < its.length/\p.1≠p.2.1/\p.1≠p.2.2/\p.2.1≠p.2.2/\must its p.1/\must its p.2.1) {z:PyData} (hz:∀ h,aE T (d+4) "are_unlike" [.d z,.d (.int 3),.d (.int its.length)] h=some (.bool false,h)) :
  aE T (d+5) "are_triples" [.d (.tuple (ts.map p3++[z])),.d (.tuple (its.map It.dat))] h=some (.bool false,h):=by
 have hl':¬ (4000:Int) < (ts.length:Int)+1:=by omega
 have e1:ts.map p3++[z]=(ts.map (fun x=>(p3 x,PyData.bool true))++[(z,PyData.bool false)]).map (·.1):=by simp
 have e2:(ts.map (fun x=>(p3 x,PyData.bool true))++[(z,PyData.bool false)]).map (·.2)=ts.map (fun _=>PyData.bool true)++[.bool false]:=by simp
 simp [gD,isi,dG,hl',aM];rw [e1,cP (fun δ=>∃ a,δ=[a,some (.d (.tuple (its.map It.dat)))]) _ _ _ ⟨_,rfl⟩ (fun q hq δ ⟨a,e⟩=>by
  subst e;refine ⟨[some (.d q.1),_],rfl,⟨_,rfl⟩,?_⟩;rcases List.mem_append.mp hq with hq | hq
  ·obtain ⟨x,hx',rfl⟩:=List.mem_map.mp hq;obtain ⟨h1,h2,h3,h4,h5,h6,_⟩:=hp x hx';simp [bH6 d h ⟨h1,h2,h3,h4,h5,h6⟩]
  ·rw [List.mem_singleton.mp hq];simp [hz]),List.nil_append,e2]
 simp [iR]
end
noncomputable def sD (b:Pb):PyData:=.tuple (b.st.map .int)
def iT (b:Pb):PyData:=.tuple (b.its.map It.dat)
def pD (b:Pb):PyData:=.tuple (b.ps.map p2)
def tD (b:Pb):PyData:=.tuple (b.ts.map p3)
def A0 (b:Pb):List PyData:=[.none,.int 3,.tuple [],.list [sD b,iT b,pD b,tD b],.tuple [sD b,iT b,pD b],.tuple [.tuple ((b.st.map PyData.int).take 7),iT b,pD b,tD b]]
def A1 (b:Pb):List PyData:=[.tuple [sD b,.list (b.its.map It.dat),pD b,tD b],.tuple [sD b,iT b,.tuple (b.ps.map p2++[.tuple [.int 0,.int 0]]),tD b]]
def A2 (b:Pb):List PyData:=[.tuple [sD b,iT b,.tuple (b.ps.map p2++[.tuple [.int 0,.int b.its.length]]),tD b],.tuple [sD b,iT b,pD b,.tuple (b.ts.map p3++[.tuple [.int 0,.int 1]])]]
def A3 (b:Pb):List PyData:=[.tuple [sD b,iD b.its (zI "must" 8 .none),pD b,tD b],.tuple [sD b,.tuple (List.replicate 121 ((b.its.map It.dat).take 1)).flatten,.tuple [],.tuple []]]
def bdL (b:Pb):List PyData:=A0 b++A1 b++A2 b++A3 b
def bH9 (d:Nat) {b:Pb} (hb:b.ok) (h9:b.its.length<=9) (h1:1<=b.its.length):∀ z∈bdL b,noP d z:=by
 intro z hz;simp only [bdL,A0,A1,A2,A3,sD,pD,tD,iT,List.cons_append,List.nil_append,List.mem_cons,List.not_mem_nil,or_false] at hz;have sk:∀ h,aE T (d+11) "is_stand" [.d (.tuple (b.st.map .int))] h=some (.bool true,h):=fun h=>lS (d+8) h hb.st;have ik:∀ h,aE T (d+11) "are_items" [.d (.tuple (b.its.map It.dat))] h=some (.bool true,h):=fun h=>jS d h hb.its hb.il;have ln:∀ h,bN [.d (.tuple (b.its.map It.dat))] h=some (.d (.int b.its.length),h):=fun h=>by rw [bH4,List.length_map]
 have pk:∀ h,aE T (d+11) "are_pairs" [.d (.tuple (b.ps.map p2)),.d (.int b.its.length)] h=some (.bool true,h):=fun h=>jT (d+6) h hb.pl hb.ps;rcases hz with rfl | rfl | rfl | rfl | rfl | rfl | rfl | rfl | rfl | rfl | rfl | rfl
 ·exact qR d rfl
 ·exact qR d rfl
 ·exact qR d rfl
 ·exact qR d rfl
 ·exact qR d rfl
 ·exact bH7 d fun h=>by simp [lL,bG,hb.st]
 ·exact fun h=>wA d h sk false false false (fun h=>aI1 d h _) (fun z=>nomatch z) (fun z=>nomatch z) rfl
 ·exact fun h=>wA d h sk true false false ik (fun _ h=>⟨b.its.length,ln h,nK (d+6) h hb.pl hb.ps fun h=>bH8 (d+6) h _ _ _ (.inr rfl)⟩) (fun _ z=>nomatch z) rfl
 ·exact fun h=>wA d h sk true false false ik (fun _ h=>⟨b.its.length,ln h,nK (d+6) h hb.pl hb.ps fun h=>bH8 (d+6) h _ _ _ (.inl (by simp [aS];omega))⟩) (fun _ z=>nomatch z) rfl
 ·exact fun h=>wA d h sk true true false ik (fun _ h=>⟨b.its.length,ln h,pk h⟩) (fun _ _ h=>aB6 (d+6) h hb.tl hb.ts fun h=>by simp [dT,bG]) rfl
 ·exact fun h=>wA d h sk false false false (fun h=>wB d h hb.its (by omega) fun h=>bV5 d h) (fun z=>nomatch z) (fun z=>nomatch z) rfl
 ·refine fun h=>wA d h sk false false false (fun h=>?_) (fun z=>nomatch z) (fun z=>nomatch z) rfl;have l:(List.replicate 121 ((b.its.map It.dat).take 1)).flatten.length=121:=by
   rw [List.length_flatten,List.map_replicate,List.length_take,List.length_map,Nat.min_eq_left h1];rfl
  obtain ⟨xs,hxs⟩:∃ xs,xs=(List.replicate 121 ((b.its.map It.dat).take 1)).flatten:=⟨_,rfl⟩;rw [<- hxs] at l ⊢;simp [eM,isi,dG,l]
end K30

namespace K30
open PySem PySem.Spec PyProof.Rows L2 DL CI SJ
def aI2 (k:Nat) (ws:List W):Prop:=∃ (x:PyData) (y:Nat),ws=[.d (.int y),.d x]/\noP k x
open Classical in
noncomputable def jZ:Nat->XF
 | k+16=>fun ws h=>if aI2 (k+1) ws then some (.bool true,h) else none
 | _=>fun _ _=>none
def YLr (d:Nat):List W->XR W:=fun ws _ h=>(jZ d ws h).bind fun p=>some (.d p.1,p.2)
@[simp] theorem bX5 (d:Nat):YLr d=fun ws _ h=>(jZ d ws h).bind fun p=>some (.d p.1,p.2):=rfl
def npX (d:Nat):XF:=iI T d "_law_refused" (jZ d) "_law_no_problems"
def YLn (d:Nat):List W->XR W:=fun ws _ h=>(npX d ws h).bind fun p=>some (.d p.1,p.2)
@[simp] theorem bX6 (d:Nat):YLn d=fun ws _ h=>(npX d ws h).bind fun p=>some (.d p.1,p.2):=rfl
def bV6 (d:Nat) (w0 w1:W) (h:aA):npX d [w0,w1] h =
 YP
 (YP (YP (aB 0 [some w0,some w1,none,none,none,none,none,none] h) fun p=>YP (bU [YG 2,YG 3,YG 4,YG 5] p.1 [some w0,some w1,none,none,none,none,none,none] p.2) fun (q:DSt×aA)=>some (Fl.nx (q.1),q.2)) (YQ fun δ' p =>
 YP
 (aN 6
 (aM
 (xPl
 (Y6 (YZ) (YJ 3) (xb (xPl (aD [])) YT) (aM
 (xb (Y1 (aB 0)) fun (ws:List W) (x:DSt) (h:aA) =>
 match ws with
                | [w] =>
                 match ref h w with
                 | some (PyData.list xs)=>some (xs,h)
                 | some (PyData.tuple xs)=>some (xs,h)
                 | x=>none
                | x=>none)) (xb (xPl (Y3 (aB 2) (aB 3) (aB 4))) YT) (xb
 (xPl
 (Y4 (xb (aB 2) fun (x:W) =>
 xb (aD none) fun (l:Option Int) =>
 xb
 (xb (YJ 7) YU)
 (YS3 x l)) (aB 3) (aB 4) (aB 5)))
 YT))))
 δ' p.2)
 (YQ fun δ' p =>
 YP
 (aN 6
 (xb (aB 6) fun (u:W) =>
 xb
 (aM
 (xPl
 (Y2 (xb
 (xPl
 (Y4 (aB 2) (aM
 (xb (Y1 (aB 3)) fun (ws:List W) (x:DSt) (h:aA) =>
 match ws with
                   | [w] =>
                    match ref h w with
                    | some (PyData.list xs)=>some (xs,h)
                    | some (PyData.tuple xs)=>some (xs,h)
                    | x=>none
                   | x=>none)) (aB 4) (aB 5)))
 YT) (xb (xPl (Y4 (aB 2) (aB 3) (xb (aB 4) fun u=>xb (xb (xPl (Y1 (xb (xPl (Y2 (YJ 0) (YJ 0))) YT))) YT) (YO .Add u)) (aB 5))) YT))))
 (YO .Add u))
 δ' p.2)
 (YQ fun δ' p =>
 YP (aN 6 (xb (aB 6) fun u=>xb (aM (xPl (Y2 (xb (xPl (Y4 (aB 2) (aB 3) (xb (aB 4) fun u=>xb (xb (xPl (Y1 (xb (xPl (Y2 (YJ 0) (xb (Y1 (aB 3)) (YK bN)))) YT))) YT) (YO .Add u)) (aB 5))) YT) (xb (xPl (Y4 (aB 2) (aB 3) (aB 4) (xb (aB 5) fun u=>xb (xb (xPl (Y1 (xb (xPl (Y2 (YJ 0) (YJ 1))) YT))) YT) (YO .Add u)))) YT)))) (YO .Add u)) δ' p.2) (YQ fun δ' p =>
 YP
 (aN 6
 (xb (aB 6) fun (u:W) =>
 xb
 (aM
 (xPl
 (Y2 (xb (xPl (Y4 (aB 2) (xb (aB 3) fun u=>xb (xb (xPl (Y1 (xb (xPl (Y3 (xb (xPl (Y2 (YS "read") (YJ 8))) YT) (YZ) (YS "must"))) YT))) YT) (YO .Add u)) (aB 4) (aB 5))) YT) (xb
 (xPl
 (Y4 (aB 2) (xb
 (xb (aB 3) fun (x:W) =>
 xb (aD none) fun (l:Option Int) =>
 xb
 (xb (YJ 1) YU)
 (YS3 x l))
 (YB .Mult 121)) (xb (xPl (aD [])) YT) (xb (xPl (aD [])) YT)))
 YT))))
 (YO .Add u))
 δ' p.2)
 (YQ fun δ' p =>
 YP (aN 7 (xb (aB 6) fun x=>xb (xb (aB 1) (YB .Mod 12)) (YX x)) δ' p.2) (YQ fun δ' p =>
 YP
 (YP
 (xb (xb (Y2 (YJ 0) (aB 7)) (YLr d))
 (fun (w:W) =>
 match w with
                 | W.d (PyData.bool true) =>
                  xb (xb (Y2 (YJ 1) (aB 7)) (YLr d)) fun (w:W) =>
 match w with
                   | W.d (PyData.bool true)=>xb (Y2 (YJ 2) (aB 7)) (YLr d)
                   | W.d (PyData.bool false)=>aD (W.d (PyData.bool false))
                   | x=>xno
                 | W.d (PyData.bool false)=>aD (W.d (PyData.bool false))
                 | x=>xno)
 δ' p.2)
 YW)
 YE)))))))
 (aO h):=by kernel_rfl
def aV7 (d:Nat) (w0:W) (h:aA):iI T (d+1) "_law_no_problems" (npX d) "law" [w0] h =
 YP
 (YP (aN 1 (xb (Y2 (xb (aB 0) fun u=>xb (aM (xPl (Y2 (YJ 5) (YJ 6)))) (YO .Add u)) (YJ 9)) (YF (d+1) "_law_problem")) [some w0,none,none,none,none,none,none,none,none] h) (YQ fun δ' p =>
 YP (aN 2 (xb (Y1 (YV 1 1)) (YK bN)) δ' p.2) (YQ fun δ' p =>
 YP
 (YP (xC1 CmpOp.Lt (aB 2) (YJ 2) δ' p.2) fun p =>
 if p.1=true then
 YP (aN 1 (xb (xPl (Y4 (YV 1 0) (xb (xb (xPl (Y1 (xb (xPl (Y3 (xb (xPl (Y2 (YS "read") (YJ 0))) YT) (YZ) (YS "must"))) YT))) YT) (YB .Mult 2)) (xb (xPl (aD [])) YT) (xb (xPl (aD [])) YT))) YT) δ' p.2) (YQ fun δ' p =>
 YP (aN 2 (YJ 2) δ' p.2) YE)
 else some (Fl.nx δ',p.2))
 (YQ fun δ' p =>
 YP (aN 3 (xb (Y2 (aB 0) (xb (Y2 (YJ 12) (xb (Y2 (YJ 0) (xb (xb (Y1 (aB 0)) (YK bN)) (YB .Sub 1))) fun (ws:List W) (x:DSt) (h:aA)=>xMx ws h)) fun (ws:List W) (x:DSt) (h:aA)=>xMn ws h)) (YF (d+1) "_law_cell_at")) δ' p.2) (YQ fun δ' p =>
 YP (aN 4 (xb (Y3 (aB 3) (YJ 11) (xb (Y2 (aB 0) (YJ 0)) (YF (d+1) "_law_cell_at"))) (YF (d+1) "_law_draws")) δ' p.2) (YQ fun δ' p =>
 YP
 (aN 5
 (aV
 (xb
 (bK
 (xb (aB 4) fun (x:W) =>
 xb (aD none) fun (l:Option Int) =>
 xb
 (xb (xb (YJ 1) fun u=>xb (xb (YV 4 8) (YB .Mod 8)) (YO .Add u)) YU)
 (YS3 x l)))
 fun (p:List PyData×Cw) (δ:DSt) (h:aA)=>aR (YG 0) (aD true) (xb (Y2 (aB 0) (aB 1)) (YF (d+1) "_law_good")) p.2 p.1 p.1 (aU [none,some 2] δ) h []))
 δ' p.2)
 (YQ fun δ' p =>
 YP (aN 6 (xb (YV 4 9) fun u=>xb (xb (Y1 (aB 5)) (YK bN)) (YO .Mod u)) δ' p.2) (YQ fun δ' p =>
 YP
 (YP (xb (Y2 (YV 4 10) (aB 2)) ((YF (d+1) "_law_none")) δ' p.2) fun p =>
 YP
 (YP (aB 5 δ' p.2) fun (p_1:W×aA) =>
 YP (aB 6 δ' (p_1.2)) fun (q:W×aA) =>
 match p_1.1,q.1,p.1 with
                    | W.c j,W.d y,W.d x=>pI j y x δ' (q.2)
                    | x,x_1,x_2=>none)
 fun (q:DSt×aA)=>some (Fl.nx (q.1),q.2))
 (YQ fun δ' p =>
 YP
 (YP (xC1 CmpOp.Eq (xb (xb (YV 4 9) (YB .FloorDiv 8)) (YB .Mod 2)) (YJ 1) δ' p.2) fun p =>
 if p.1=true then
 YP (aN 7 (xb (xb (YV 4 9) (YB .FloorDiv 16)) fun u=>xb (xb (Y1 (aB 5)) (YK bN)) (YO .Mod u)) δ' p.2) (YQ fun δ' p =>
 YP
 (YP (xb (Y2 (xb (YV 4 10) (YB .FloorDiv 39)) (aB 2)) ((YF (d+1) "_law_none")) δ' p.2) fun p =>
 YP
 (YP (aB 5 δ' p.2) fun (p_1:W×aA) =>
 YP (aB 7 δ' (p_1.2)) fun (q:W×aA) =>
 match p_1.1,q.1,p.1 with
                           | W.c j,W.d y,W.d x=>pI j y x δ' (q.2)
                           | x,x_1,x_2=>none)
 fun (q:DSt×aA)=>some (Fl.nx (q.1),q.2))
 (YQ fun δ' p =>
 YP (aN 6 (xb (Y2 (aB 6) (aB 7)) fun (ws:List W) (x:DSt) (h:aA)=>xMn ws h) δ' p.2) YE))
 else some (Fl.nx δ',p.2))
 (YQ fun δ' p =>
 YP
 (YP (xb (xC1 CmpOp.NotEq (xb (Y2 (aB 1) (aB 5)) (YF (d+1) "ring_fault")) (xb (xPl (Y2 (YS "form") (aB 6))) YT)) (fun c=>if c=true then aD true else xC1 CmpOp.NotEq (xb (Y2 (aB 1) (xb (Y1 (aB 5)) (YK bS))) (YF (d+1) "ring_fault")) (xb (xPl (Y2 (YS "form") (aB 6))) YT)) δ' p.2) (YT2 false δ'))
 (YQ fun δ' p =>
 YP (aN 8 (xb (aM (xPl (Y5 (YZ) (YJ 3) (YS "told") (aD (W.d (PyData.bool true))) (aD (W.d (PyData.dict [])))))) fun x=>xb (xb (xb (YV 4 8) (YB .FloorDiv 8)) (YB .Mod 5)) (YX x)) δ' p.2) (YQ fun δ' p =>
 YP
 (YP
 (xb (cN (xC1 CmpOp.Eq (xb (Y2 (aB 1) (aB 8)) (YF (d+1) "ring_fault")) (xb (xPl (Y2 (YS "form") (YJ 0))) YT)))
 (fun (w:W) =>
 match w with
                           | W.d (PyData.bool true)=>xb (Y2 (aB 1) (xb (YV 4 8) (YB .FloorDiv 40))) (YLn d)
                           | W.d (PyData.bool false)=>aD (W.d (PyData.bool false))
                           | x=>xno)
 δ' p.2)
 YW)
 YE))))))))))))
 (aO h):=by kernel_rfl
end K30

namespace K30
open PySem PySem.Spec PyProof.Rows L2 DL CI SJ
def dQ (b:Pb) (r:Int) (s6 s7:Option W):DSt:=[some (.d b.dat),some (.d (.int r)),some (.d (sD b)),some (.d (iT b)),some (.d (pD b)),some (.d (tD b)),s6,s7]
def sP (d:Nat) (h:aA) {y:PyData} (hy:noP (d+1) y) (w:Nat):jZ (d+16) [.d (.int w),.d y] h=some (.bool true,h):=by
 have h1:aI2 (d+1) [.d (.int w),.d y]:=⟨y,w,rfl,hy⟩;show (open Classical in if aI2 (d+1) [.d (.int w),.d y] then some (PyData.bool true,h) else none)=_;rw [if_pos h1]
def bV7 (d:Nat) (h:aA) {b:Pb} (hb:b.ok) (h9:b.its.length<=9) (h1:1<=b.its.length) (r:Int):npX (d+16) [.d b.dat,.d (.int r)] h=some (.bool true,h):=by
 have e12:(0:Int) < 12:=by decide
 rw [bV6];obtain ⟨z,hz⟩:∃ z,z=(bdL b).getD (r%12).toNat .none:=⟨_,rfl⟩;have zl:(r%12).toNat < (bdL b).length:=by show _ < 12;omega
 have zat:atI (bdL b) (r%12)=some z:=by
  have h:=dK (xs:=bdL b) (j:=(r%12).toNat) (v:=z) (by
   rw [hz,List.getD_eq_getElem?_getD,List.getElem?_eq_getElem zl];rfl)
  rwa [Int.toNat_of_nonneg (by omega)] at h
 have zno:noP (d+1) z:=bH9 (d+1) hb h9 h1 z (by
  rw [hz,List.getD_eq_getElem?_getD,List.getElem?_eq_getElem zl];exact List.getElem_mem zl)
 have q0:jZ (d+16) [.d (.int 0),.d z] h=some (.bool true,h):=sP d h zno 0;have q1:jZ (d+16) [.d (.int 1),.d z] h=some (.bool true,h):=sP d h zno 1;have q2:jZ (d+16) [.d (.int 2),.d z] h=some (.bool true,h):=sP d h zno 2;have lp:=hb.pl;have lt:=hb.tl;obtain ⟨B0,hB0⟩:∃ B0,B0=A0 b:=⟨_,rfl⟩;obtain ⟨B1,hB1⟩:∃ B1,B1=B0++A1 b:=⟨_,rfl⟩;obtain ⟨B2,hB2⟩:∃ B2,B2=B1++A2 b:=⟨_,rfl⟩;have l0:B0.length=6:=by rw [hB0];rfl
 have l1:B1.length=8:=by rw [hB1,List.length_append,l0];rfl
 have l2:B2.length=10:=by rw [hB2,List.length_append,l1];rfl
 have hB3:bdL b=B2++A3 b:=by rw [hB2,hB1,hB0];rfl
 show RN h (.bool true) _;refine syP (dQ b r none none) h (by simp [dQ,Pb.dat,bU,wT,sD,iT,pD,tD]) ?_;have c7:cut (b.st.map PyData.int) none (some 7)=(b.st.map PyData.int).take 7:=by
  have:=oX (b.st.map PyData.int) (m:=7) (by rw [List.length_map,hb.st];decide);exact this
 have c1:cut (b.its.map It.dat) none (some 1)=(b.its.map It.dat).take 1:=by
  have:=oX (b.its.map It.dat) (m:=1) (by rw [List.length_map];exact h1);exact this
 refine syP (dQ b r (some (.d (.list B0))) none) h (by simp [dQ,hB0,A0,aM,ref,szl,sD,iT,pD,tD,c7,Pb.dat,-List.map_take]) ?_;refine syP (dQ b r (some (.d (.list B1))) none) h ?_ ?_
 ·have s1:b.its.length<=16777216:=by omega
  have s2:b.ps.length+1<=16777216:=by omega
  simp [dQ,hB1,A1,aM,ref,szl,sD,iT,pD,tD,l0,s1,s2]
 refine syP (dQ b r (some (.d (.list B2))) none) h ?_ ?_
 ·have s2:b.ps.length+1<=16777216:=by omega
  have s3:b.ts.length+1<=16777216:=by omega
  simp [dQ,hB2,A2,aM,ref,szl,sD,iT,pD,tD,l1,s2,s3]
 refine syP (dQ b r (some (.d (.list (bdL b)))) none) h ?_ ?_
 ·have s1:b.its.length+1<=16777216:=by omega
  obtain ⟨i0,hi0⟩:∃ i0,i0=(b.its.map It.dat).take 1:=⟨_,rfl⟩;have li:i0.length=1:=by rw [hi0,List.length_take,List.length_map,Nat.min_eq_left h1]
  have ne:i0≠[]:=fun z=>by rw [z] at li;cases li
  have mu:∀ H,cW .Mult (.d (.tuple i0)) (.d (.int 121)) H=some (.d (.tuple (List.replicate 121 i0).flatten),H):=fun H=>by
   simp only [cW,aC3];rw [if_pos ⟨ne,by decide,by decide,by rw [li];decide⟩];rfl
  have lf:(List.replicate 121 i0).flatten.length<=16777216:=by
   rw [List.length_flatten,List.map_replicate,li]
   decide
  rw [<- hi0] at c1;simp [dQ,hB3,A3,aM,ref,szl,sD,iT,pD,tD,l2,s1,c1,iD,zI,mu,<- hi0,-List.map_take,-List.flatten_replicate_replicate,-List.reduceReplicate]
 refine syP (dQ b r (some (.d (.list (bdL b)))) (some (.d z))) h (by simp [dQ,zat]) ?_;show Option.bind _ _=_;simp [dQ,q0,q1,q2]
end K30

namespace K30
open PySem PySem.Spec PyProof.Rows L2 DL CI SJ
structure GoodL (n:Int) (zs:List PyData) (a:Nat):Prop where
 lt:a < zs.length
 pre:∀ i,i < a->∃ y,zs[i]?=some y/\rgB n y=true
 bad:∃ z,zs[a]?=some z/\rgB n z=false
 pl:∀ z∈zs,aI 20 z=true
theorem mem_set {α:Type} {xs:List α} {i:Nat} {a z:α} (h:z∈xs.set i a):z∈xs\/z=a:=List.mem_or_eq_of_mem_set h
def aV8 {n:Int} {zs:List PyData} {a:Nat} {z:PyData} (ha:a < zs.length) (hg:∀ y∈zs,rgB n y=true/\aI 20 y=true) (hz:rgB n z=false) (hp:aI 20 z=true):GoodL n (zs.set a z) a where
 lt:=by simpa using ha
 pre:=fun i hi=>by
  have hl:i < zs.length:=by omega
  exact ⟨zs[i],by rw [List.getElem?_set_ne (by omega)];exact List.getElem?_eq_getElem hl,(hg _ (List.getElem_mem hl)).1⟩
 bad:=⟨z,by rw [List.getElem?_set_self ha],hz⟩
 pl:=fun y hy=>by
  rcases mem_set hy with h | rfl
  ·exact (hg y h).2
  ·exact hp
def aV9 {n:Int} {zs:List PyData} {a o:Nat} {z z2:PyData} (ha:a < zs.length) (ho:o < zs.length) (hg:∀ y∈zs,rgB n y=true/\aI 20 y=true) (hz:rgB n z=false) (hp:aI 20 z=true) (hz2:rgB n z2=false) (hp2:aI 20 z2=true):GoodL n ((zs.set a z).set o z2) (min a o) where
 lt:=by simp;omega
 pre:=fun i hi=>by
  have hl:i < zs.length:=by omega
  exact ⟨zs[i],by rw [List.getElem?_set_ne (by omega),List.getElem?_set_ne (by omega)];exact List.getElem?_eq_getElem hl,(hg _ (List.getElem_mem hl)).1⟩
 bad:=by
  by_cases h:o<=a
  ·rw [Nat.min_eq_right h];exact ⟨z2,by rw [List.getElem?_set_self (by simpa using ho)],hz2⟩
  ·rw [Nat.min_eq_left (by omega)];exact ⟨z,by rw [List.getElem?_set_ne (by omega),List.getElem?_set_self ha],hz⟩
 pl:=fun y hy=>by
  rcases mem_set hy with h | rfl
  ·rcases mem_set h with h | rfl
   ·exact (hg y h).2
   ·exact hp
  ·exact hp2
def aB7 {n:Int} {zs:List PyData} {a:Nat} (g:GoodL n zs a):∃ pre z post,zs=pre++z::post/\pre.length=a/\(∀ y∈pre,rgB n y=true)/\rgB n z=false:=by
 obtain ⟨z,e,hz⟩:=g.bad;have hl:=g.lt;refine ⟨zs.take a,z,zs.drop (a+1),?_,by simp;omega,fun y hy=>?_,hz⟩
 ·rw [List.getElem?_eq_getElem hl] at e;cases e;rw [<- List.drop_eq_getElem_cons hl,List.take_append_drop]
 ·obtain ⟨i,hi,rfl⟩:=List.mem_iff_getElem.mp hy;have hi':i < a:=by simp at hi;omega
  obtain ⟨y,e,h⟩:=g.pre i hi';rw [List.getElem_take];rw [List.getElem?_eq_getElem (by omega)] at e;cases e;exact h
def pqI (i:Int):CI.peq (.int i) (.int i)=true:=by show (i==i)=true;simp
mutual
theorem aB8:∀ (n:Nat) (d:PyData),aI n d=true->CI.peq d d=true
 | n,.none,_=>rfl
 | n,.bool a,_=>by show (a==a)=true;simp
 | n,.int a,_=>pqI a
 | n,.str a,_=>by show (a==a)=true;simp
 | n+1,.list xs,h=>peqs_pl n xs h
 | n+1,.tuple xs,h=>peqs_pl n xs h
 | 0,.list _,h=>by cases h
 | 0,.tuple _,h=>by cases h
 | n,.dict _,h=>by cases n<;>cases h
theorem peqs_pl:∀ (n:Nat) (d:List PyData),plainsB n d=true->CI.peqs d d=true
 | n,[],_=>rfl
 | n,x::r,h=>by
  replace h:(aI n x&&plainsB n r)=true:=h
  rw [Bool.and_eq_true] at h;show (CI.peq x x&&CI.peqs r r)=true;rw [aB8 n x h.1,peqs_pl n r h.2];rfl
end
theorem uF:∀ (zs:List PyData) (k:Nat),(∀ z∈zs,aI 20 z=true)->CI.peqs (enumF k zs) (enumF k zs)=true
 | [],k,_=>rfl
 | z::zs,k,h=>by
  have ih:=uF zs (k+1) fun y hy=>h y (List.mem_cons_of_mem _ hy);have hz:=aB8 20 z (h z List.mem_cons_self);show ((CI.peq (.int k) (.int k)&&(CI.peq z z&&true))&&CI.peqs (enumF (k+1) zs) (enumF (k+1) zs))=true;rw [pqI,hz,ih];rfl
theorem bI0 (H:aA) (zs:List PyData):Lst H (.d (.tuple zs)) zs:=⟨⟨_,rfl,rfl⟩,none,rfl,rfl⟩
def bI1 {H:aA} {j:Nat} {zs:List PyData} (e:H[j]?=some (.l zs)) (h:∀ z∈zs,aI 20 z=true):Lst H (.c j) zs:=by
 refine ⟨⟨.list zs,by simp [ref,e],rfl⟩,some (j,true),by simp [lU,gX,e],?_⟩;unfold CI.condB;simp only [e];exact uF zs 0 h
def aB9 (d:Nat) (H:aA) {b:Pb} (hb:b.ok) {w:W} {zs:List PyData} {a:Nat} (hl:Lst H w zs) (g:GoodL b.its.length zs a):aE T (d+14) "ring_fault" [.d b.dat,w] H=some (.tuple [.str (Str.ofString "form"),.int a],H):=by
 obtain ⟨pre,z,post,rfl,rfl,h1,h2⟩:=aB7 g;exact aH8 d H hb hl h1 h2
def aI3 (d:Nat) (H:aA) {b:Pb} (hb:b.ok) {z:PyData} (hz:(isi z "list"||isi z "tuple")=false):aE T (d+14) "ring_fault" [.d b.dat,.d z] H=some (.tuple [.str (Str.ofString "form"),.int 0],H):=by
 have e0:=tZ d H hb;have e1:aE T (d+13) (Str.ofString "steps_fault") [.d b.dat,.d z] H=some (.tuple [.str (Str.ofString "form"),.int 0],H):=by
  simp only [Bool.or_eq_false_iff] at hz;simp [gE,ref,hz,szl]
 simp [iL,e0,e1]
end K30

namespace K30
open PySem PySem.Spec PyProof.Rows L2 DL CI SJ
noncomputable def gdI:It:=⟨.call (.one (.read 0)),.none,"must"⟩
def bI2:gdI.ok:=⟨show (0:Nat) < 8 by decide,.inl rfl,.inl rfl,.inl rfl⟩
def pbF (b:Pb):Pb:=if b.its.length < 2 then ⟨b.st,[gdI,gdI],[],[]⟩ else b
def aW0 {b:Pb} (hb:b.ok) (h9:b.its.length<=9):(pbF b).ok/\2<=(pbF b).its.length/\(pbF b).its.length<=9:=by
 unfold pbF;split
 ·refine ⟨⟨hb.st,by simp,fun x hx=>?_,by simp,(fun _ z=>nomatch z),by simp,(fun _ z=>nomatch z)⟩,by simp,by simp⟩;simp only [List.mem_cons,List.not_mem_nil,or_false] at hx;rcases hx with rfl | rfl<;>exact bI2
 ·exact ⟨hb,by omega,h9⟩
def eqF (a:Int):∀ H,xEq (.d (.tuple [.str (Str.ofString "form"),.int a])) (.d (.tuple [.str (Str.ofString "form"),.int a])) H=some true:=fun H=>by
 simp [xEq,ref,PyData.eqv,PyData.eqvAll]
def dL (sd:PyData) (b:Pb) (s3 s4 s5 s6 s7 s8:Option W):DSt:=[some (.d sd),some (.d b.dat),some (.d (.int b.its.length)),s3,s4,s5,s6,s7,s8]
def RT (x:Option (Fl×aA)):Prop:=∃ h',x.bind (aO [])=some (.bool true,h')
def aW1 (S:List Int) (hS:S.length<=63) (d:Nat):∃ h',iI T (d+17) "_law_no_problems" (npX (d+16)) "law" [.d (.list (S.map .int))] []=some (.bool true,h'):=by
 obtain ⟨b0,hb0,hb9,g1⟩:=vY (d+10) [] (S++[5,6]);obtain ⟨s2,es2⟩:∃ s2,s2=PyData.list ((S++[5,6]).map .int):=⟨_,rfl⟩;have g1:aE T (d+17) (Str.ofString "_law_problem") [.d s2,.d (.int 9)] []=some (b0.dat,[]):=by rw [es2];exact g1
 obtain ⟨hb,h2,h9⟩:=aW0 hb0 hb9;obtain ⟨w,g2⟩:=lT (d+16) S 0;have g2:∀ h,aE T (d+17) (Str.ofString "_law_cell_at") [.d (.list (S.map .int)),.d (.int 0)] h=some (.int w,h):=g2;obtain ⟨c,g3⟩:=lT (d+16) S (min 12 (S.length - 1));have ek:((min 12 (S.length - 1):Nat):Int)=min 12 (max 0 ((S.length:Int) - 1)):=by omega
 rw [ek] at g3;obtain ⟨D,hD,g4⟩:=uA (d+15) [] c 11 w (by decide);have g4:aE T (d+17) (Str.ofString "_law_draws") [.d (.int c),.d (.int 11),.d (.int w)] []=some (.list (D.map .int),[]):=g4;have s65:S.length+2<=16777216:=by omega
 obtain ⟨sd,esd⟩:∃ sd,sd=PyData.list (S.map .int):=⟨_,rfl⟩;have ad:∀ H,cW .Add (.d sd) (.d (.list [.int 5,.int 6])) H=some (.d s2,H):=fun H=>by
  rw [esd,es2,vI,if_pos (by rw [List.length_map,szl];exact s65)];simp
 have ls:∀ H,bN [.d sd] H=some (.d (.int S.length),H):=fun H=>by rw [esd];simp
 rw [<- esd] at g2 g3;rw [<- esd,aV7];show RT _;generalize hb':pbF b0=b at hb h2 h9;have n0:(0:Int) < b.its.length:=by omega
 refine syP [some (.d sd),some (.d b0.dat),none,none,none,none,none,none,none] [] (by simp [ad,g1,aM,szl]) ?_;refine syP [some (.d sd),some (.d b0.dat),some (.d (.int b0.its.length)),none,none,none,none,none,none] [] (by simp [Pb.dat]) ?_;refine syP (dL sd b none none none none none none) [] ?_ ?_
 ·by_cases hl:b0.its.length < 2
  ·have hl':(b0.its.length:Int) < 2:=by omega
   have mu:∀ z H,cW .Mult (.d (.tuple [z])) (.d (.int 2)) H=some (.d (.tuple [z,z]),H):=fun z H=>by
    simp only [cW,aC3];rw [if_pos ⟨by simp,by decide,by decide,(show 1*2<=16777216 by decide)⟩];rfl
   rw [<- hb',pbF,if_pos hl];simp [hl',dL,mu,Pb.dat,It.dat,gdI,Stp.dat,Call.dat,One.dat,szl]
  ·have hl':¬ (b0.its.length:Int) < 2:=by omega
   rw [<- hb',pbF,if_neg hl];simp [hl',dL]
 refine syP (dL sd b (some (.d (.int c))) none none none none none) [] (by simp [dL,ls,xMx,xMn,g3]) ?_;have e8:∀ k:Nat,k < 11->atI (D.map PyData.int) (k:Int)=some (.int (D.getD k 0)):=fun k hk=>iM (by omega);obtain ⟨D8,q8⟩:∃ D8,atI (D.map PyData.int) 8=some (.int D8):=⟨_,e8 8 (by decide)⟩;obtain ⟨D9,q9⟩:∃ D9,atI (D.map PyData.int) 9=some (.int D9):=⟨_,e8 9 (by decide)⟩;obtain ⟨D10,q10⟩:∃ D10,atI (D.map PyData.int) 10=some (.int D10):=⟨_,e8 10 (by decide)⟩;obtain ⟨dd,edd⟩:∃ dd,dd=PyData.list (D.map .int):=⟨_,rfl⟩;have p8:∀ H,xIx (.d dd) (.d (.int 8)) H=some (.d (.int D8),H):=fun H=>by rw [edd];simp [q8]
 have p9:∀ H,xIx (.d dd) (.d (.int 9)) H=some (.d (.int D9),H):=fun H=>by rw [edd];simp [q9]
 have p10:∀ H,xIx (.d dd) (.d (.int 10)) H=some (.d (.int D10),H):=fun H=>by rw [edd];simp [q10]
 rw [<- edd] at g4;refine syP (dL sd b (some (.d (.int c))) (some (.d dd)) none none none none) [] (by simp [dL,g2,g4]) ?_;obtain ⟨m,hm,em⟩:∃ m:Nat,m < 8/\D8%8=m:=⟨(D8%8).toNat,by omega,by omega⟩;obtain ⟨zs,ezs⟩:∃ zs,zs=(D.take (1+m)).map fun r=>gG r b.its.length:=⟨_,rfl⟩;have lz:zs.length=1+m:=by rw [ezs,List.length_map,List.length_take];omega
 have gz:∀ y∈zs,rgB b.its.length y=true/\aI 20 y=true:=fun y hy=>by
  rw [ezs] at hy;obtain ⟨r,_,rfl⟩:=List.mem_map.mp hy;exact aH9 r _ n0
 have sl:∀ H,xSl (.d dd) none (some (1+(m:Int))) H=some (.d (.list ((D.take (1+m)).map .int)),H):=fun H=>by
  have e:=oX (D.map PyData.int) (m:=1+m) (by rw [List.length_map];omega);rw [<- List.map_take] at e;rw [edd,<- e];rfl
 refine syP (dL sd b (some (.d (.int c))) (some (.d dd)) (some (.c 0)) none none none) [.l zs] ?_ ?_
 ·simp [dL,aV,bK,p8,em,sl];rw [lI (fun x=>gG (cK x) b.its.length) (fun δ=>∃ u,δ=[u,some (.d (.int b.its.length))]) _ _ ⟨_,rfl⟩ ?_]
  ·have e:List.take (1+m) (List.map ((fun x=>gG (cK x) b.its.length) ∘ PyData.int) D)=zs:=by
    rw [ezs,<- List.map_take];rfl
   simp [e]
  ·rintro x hx δ ⟨u,rfl⟩;have hx':x∈(D.take (1+m)).map PyData.int:=by simpa using hx
   obtain ⟨r,_,rfl⟩:=List.mem_map.mp hx';have g:=aB3 (d+16) [] r n0;exact ⟨_,rfl,⟨_,rfl⟩,by simp [g,cK]⟩
 have hl0:(0:Int) < zs.length:=by omega
 have hl1:0 < zs.length:=by omega
 obtain ⟨a,ea⟩:∃ a:Nat,(a:Int)=D9%zs.length:=⟨(D9%zs.length).toNat,by have:=Int.emod_nonneg D9 (b:=(zs.length:Int)) (by omega);omega⟩;have la:a < zs.length:=by have:=Int.emod_lt_of_pos D9 hl0;omega
 refine syP (dL sd b (some (.d (.int c))) (some (.d dd)) (some (.c 0)) (some (.d (.int a))) none none) [.l zs] (by simp [dL,p9,bN,ref,hl1,<- ea]) ?_;obtain ⟨z1,z1b,z1p,g5⟩:=aB5 (d+15) [.l zs] D10 n0;have g5:aE T (d+17) (Str.ofString "_law_none") [.d (.int D10),.d (.int b.its.length)] [.l zs]=some (z1,[.l zs]):=g5;have ixn:∀ (xs:List PyData) (i:Nat),i < xs.length->ixN xs.length (i:Int)=some i:=fun xs i hi=>ix_nat hi;refine syP (dL sd b (some (.d (.int c))) (some (.d dd)) (some (.c 0)) (some (.d (.int a))) none none) [.l (zs.set a z1)] (by simp [dL,p10,g5,pI,ixn zs a la]) ?_;refine syE (fun δ H=>∃ zs' a' s7,zs'.length<=8/\GoodL b.its.length zs' a'/\δ=dL sd b (some (.d (.int c))) (some (.d dd)) (some (.c 0)) (some (.d (.int (a':Nat)))) s7 none/\H=[.l zs']) ?_ ?_
 ·have e8':aP 8=true:=by decide
  have e2':aP 2=true:=by decide
  have e16:aP 16=true:=by decide
  have e39:aP 39=true:=by decide
  by_cases q:D9 / 8%2=1
  ·obtain ⟨o,eo⟩:∃ o:Nat,(o:Int)=D9 / 16%zs.length:=⟨(D9 / 16%zs.length).toNat,by have:=Int.emod_nonneg (D9 / 16) (b:=(zs.length:Int)) (by omega);omega⟩;have lo:o < zs.length:=by have:=Int.emod_lt_of_pos (D9 / 16) hl0;omega
   obtain ⟨z2,z2b,z2p,g6⟩:=aB5 (d+15) [.l (zs.set a z1)] (D10 / 39) n0;have g6:aE T (d+17) (Str.ofString "_law_none") [.d (.int (D10 / 39)),.d (.int b.its.length)] [.l (zs.set a z1)]=some (z2,[.l (zs.set a z1)]):=g6;have mn:min (a:Int) (o:Int)=((min a o:Nat):Int):=by omega
   refine ⟨dL sd b (some (.d (.int c))) (some (.d dd)) (some (.c 0)) (some (.d (.int (min a o:Nat)))) (some (.d (.int o))) none,[.l ((zs.set a z1).set o z2)],?_,_,_,_,by simp;omega,aV9 la lo gz z1b z1p z2b z2p,rfl,rfl⟩;have ix2:ixN zs.length (o:Int)=some o:=ixn zs o lo;simp [dL,p9,p10,q,e8',e2',e16,e39,bN,ref,hl1,<- eo,g6,pI,ix2,xMn,mn]
  ·refine ⟨dL sd b (some (.d (.int c))) (some (.d dd)) (some (.c 0)) (some (.d (.int a))) none none,[.l (zs.set a z1)],?_,_,_,_,by simp;omega,aV8 la gz z1b z1p,rfl,rfl⟩;simp [dL,p9,q,e8',e2']
 rintro _ _ ⟨zs',a',s7,l8,gl,rfl,rfl⟩;have r1:=aB9 (d+3) [.l zs'] hb (bI1 (H:=[.l zs']) (j:=0) rfl gl.pl) gl;have r1:aE T (d+17) (Str.ofString "ring_fault") [.d b.dat,.c 0] [.l zs']=some (.tuple [.str (Str.ofString "form"),.int a'],[.l zs']):=r1;have r2:=aB9 (d+3) [.l zs'] hb (bI0 [.l zs'] zs') gl;have r2:aE T (d+17) (Str.ofString "ring_fault") [.d b.dat,.d (.tuple zs')] [.l zs']=some (.tuple [.str (Str.ofString "form"),.int a'],[.l zs']):=r2;have lz':zs'.length<=16777216:=by omega
 refine syP (dL sd b (some (.d (.int c))) (some (.d dd)) (some (.c 0)) (some (.d (.int a'))) s7 none) [.l zs'] (by simp [dL,r1,r2,eqF,bS,ref,szl,lz']) ?_;obtain ⟨zb,hzb,ezb⟩:∃ zb,(isi zb "list"||isi zb "tuple")=false/\atI [PyData.none,.int 3,.str (Str.ofString "told"),.bool true,.dict []] (D8 / 8%5)=some zb:=by
  have:D8 / 8%5=0\/D8 / 8%5=1\/D8 / 8%5=2\/D8 / 8%5=3\/D8 / 8%5=4:=by omega
  rcases this with z | z | z | z | z<;>rw [z]
  ·exact ⟨PyData.none,by decide,by simp⟩
  ·exact ⟨.int 3,by decide,by simp⟩
  ·exact ⟨.str (Str.ofString "told"),by decide,by simp⟩
  ·exact ⟨.bool true,by decide,by simp⟩
  ·exact ⟨.dict [],by decide,by simp⟩
 refine syP (dL sd b (some (.d (.int c))) (some (.d dd)) (some (.c 0)) (some (.d (.int a'))) s7 (some (.d zb))) [.l zs'] (by
  have e8':aP 8=true:=by decide
  simp [dL,p8,e8',aM,ezb,szl]) ?_
 have r3:=aI3 (d+3) [.l zs'] hb hzb;have r3:aE T (d+17) (Str.ofString "ring_fault") [.d b.dat,.d zb] [.l zs']=some (.tuple [.str (Str.ofString "form"),.int 0],[.l zs']):=r3;have r4:=bV7 d [.l zs'] hb h9 (by omega) (D8 / 40);have e40:aP 40=true:=by decide
 have ok:okP [] [Cell.l zs']:=fun i c hi e'=>absurd hi (by simp);refine ⟨[],?_⟩;show Option.bind _ _=_;simp [dL,r3,eqF,p8,e40,r4,ok,szl,asW]
end K30

namespace K30
open PySem PySem.Spec PyProof.Rows L2 DL CI SJ
def top (k:Nat):Stmt:=PySem.Challenge.pw_storejudge_k30_what_is_no_step.main.body.getD k (.Pass ⟨0,0,0,0⟩)
abbrev sC:Stmt:=top 57
abbrev sF:Stmt:=top 69
abbrev sO:Stmt:=top 80
abbrev sR:Stmt:=top 101
abbrev bmV:List Value:=[.type "ValueError",.type "Exception",.type "BaseException",.type "object"]
structure Er (S:Sx) (C J h1 h2 h3 h4 h5:Addr):Prop where
 O:OwnCls "NoProblem" C bmV "ValueError.__new__" S.mg S.base
 mC:S.mg "NoProblem"=some (.ref C)
 mJ:S.mg "JudgeError"=some (.ref J)
 hJ:PySem.W.exmOne S.K (.ref C) (.ref J)=some true
 Z:XCls S.K C
 m1:S.mg "NoHistory"=some (.ref h1)
 m2:S.mg "NoLine"=some (.ref h2)
 m3:S.mg "NoPromise"=some (.ref h3)
 m4:S.mg "NoStore"=some (.ref h4)
 m5:S.mg "NoText"=some (.ref h5)
 mV:S.mg "ValueError"=none
 k1:PySem.W.kitOne S.K (.ref C) (.ref C)=some true
 k2:PySem.W.kitOne S.K (.ref C) (.type "ValueError")=some true
 k3:PySem.W.kitAny S.K (.ref C) [.ref h1,.ref h2,.ref h3,.ref h4,.ref h5]=some false
def noQ (k:Nat) (x:PyData):Prop:=∀ h,aE T k "is_problem" [.d x] h=some (.bool false,h)
def bI3 (k:Nat) (ws:List W) (_:aA):Prop:=∃ x,ws=[.d x]/\noQ k x
def bV8 (k:Nat) (ws:List W) (_:aA):Prop:=∃ x w,ws=[.d x,w]/\noQ k x
def uG {S:Sx} {st:Stmt} {q:Str} {L f:Addr} {cd:Value} {A:Around} {κ:Kp} {M:Mp} {δ:DSt} (F:Fra (cxF S st q L f cd A) κ M δ):∃ l,(cxF S st q L f cd A).A.frames=some ((cxF S st q L f cd A).env::l):=by
 obtain ⟨l,e,_⟩:=F.frs;have e:(A.deeper (cxF S st q L f cd A).env).frames=some l:=e;cases h:A.frames with
 | none=>simp [Around.deeper,h] at e
 | some l'=>exact ⟨l',show (A.deeper (cxF S st q L f cd A).env).frames=_ by simp [Around.deeper,h]⟩
def aW2 {K:PySem.W.Frag} {h:Heap} {x:Str} {C:Addr} {mg:Str->Option Value} {bmB:List Value} {newId:String} (X:K.In h) (hm:mg x=some (.ref C)) (q:PySem.W.excIn K C bmB newId=true):OwnCls x C bmB newId mg h:=by
 refine ⟨hm,?_⟩;unfold PySem.W.excIn at q;split at q
 ·rename_i d0 c0 s0 lk;split at q
  ·rename_i D tl r0 r1 r2 r3 ni r5 em es;obtain ⟨q5,q6⟩:=Bool.and_eq_true_iff.mp q;obtain ⟨q4,q7⟩:=Bool.and_eq_true_iff.mp q5;obtain ⟨q3,q8⟩:=Bool.and_eq_true_iff.mp q4;obtain ⟨q2,q9⟩:=Bool.and_eq_true_iff.mp q3;obtain ⟨q1,q0⟩:=Bool.and_eq_true_iff.mp q2;have e1:D=C:=eq_of_beq q1;have e2:ni=newId:=eq_of_beq q0;subst e1 e2;obtain ⟨v1,v2,v3,v4,v5,v6,v7,v8,v9,v10,v11⟩:=c0;simp only [Bool.not_eq_true'] at q9;dsimp only at em q7 q6 q9;subst em q9;have e3:s0=#[r0,r1,r2,r3,some (.builtin ni),r5]:=by
    obtain ⟨ll⟩:=s0;dsimp only at es;rw [es]
   subst e3;exact ⟨tl,v4,v1,v5,v2,v6,v7,v8,v9,v10,d0,r0,r1,r2,r3,r5,_,X _ _ lk,.of_isNs (PySem.W.isNs_of_in X q7),PySem.W.nsMap_none_of_in X q7 (eq_of_beq q6),PySem.W.tail_of_in X q8⟩
  ·cases q
 ·cases q
def bC:∃ p1 p2 p3 p4 p5 p6 p7 p8 p9,aX sC=[.If (.UnaryOp .Not (.Call (.Name "is_problem" p1) [.Name "problem" p2] [] p3) p4) [.Raise (some (.Call (.Name "NoProblem" p5) [.Constant (.str "this is no problem") 0 p6] [] p7)) none p8] [] p9]:=⟨_,_,_,_,_,_,_,_,_,rfl⟩
def bF:∃ p1 p2 p3 p4 r,aX sF=.Expr (.Call (.Name "check_problem" p1) [.Name "problem" p2] [] p3) p4::r:=⟨_,_,_,_,_,rfl⟩
def bO:∃ p1 p2 p3 p4 r,aX sO=.Expr (.Call (.Name "check_problem" p1) [.Name "problem" p2] [] p3) p4::r:=⟨_,_,_,_,_,rfl⟩
def bRf:∃ p1 p2 p3 p4 p5 p6 p7 p8 p9 q1 q2 q3 q4 q5 q6 q7 q8 q9 r1 r2 r3 r4 t1 t2 t3 t4 t5 t6 u1 u2 u3 u4 u5 u6 u7 u8 u9 kk v1 v2 v3 v4 w1 w2 w3 w4 x1 x2 x3 z1 z2,aX sR=[
 .Try [.If (.Compare (.Name "_law_ask" p1) [.Eq] [.Constant (.int 0) 0 p2] p3) [.Expr (.Call (.Name "ring_fault" p4) [.Name "_law_problem_here" p5,.List [] p6] [] p7) p8]
  [.If (.Compare (.Name "_law_ask" q1) [.Eq] [.Constant (.int 1) 0 q2] q3) [.Expr (.Call (.Name "ring_fault" q4) [.Name "_law_problem_here" q5,.Constant .none 0 q6] [] q7) q8]
   [.Expr (.Call (.Name "forced" r1) [.Name "_law_problem_here" r2] [] r3) r4] q9] p9]
  [.ExceptHandler (some (.Name "JudgeError" t1)) (some "e") [.Assign [.Name "_law_others" t2] (.Call (.Name "isinstance" u1) [.Name "e" u2,.Tuple [.Name "NoHistory" u3,.Name "NoLine" u4,.Name "NoPromise" u5,.Name "NoStore" u6,.Name "NoText" u7] kk u8] [] u9) t3,
   .Return (some (.BoolOp .And [.Call (.Name "isinstance" v1) [.Name "e" v2,.Name "NoProblem" v3] [] v4,.Call (.Name "isinstance" w1) [.Name "e" w2,.Name "ValueError" w3] [] w4,.UnaryOp .Not (.Name "_law_others" x1) x2] x3)) t4] t5] [] [] t6,
 .Return (some (.Constant (.bool false) 0 z1)) z2]:=⟨_,_,_,_,_,_,_,_,_,_,_,_,_,_,_,_,_,_,_,_,_,_,_,_,_,_,_,_,_,_,_,_,_,_,_,_,_,_,_,_,_,_,_,_,_,_,_,_,_,_,_,rfl⟩
def dC:T.defs "check_problem"=some sC:=by kernel_rfl
def dF:T.defs "ring_fault"=some sF:=by kernel_rfl
def dO:T.defs "forced"=some sO:=by kernel_rfl
def dR:T.defs "_law_refused"=some sR:=by kernel_rfl
def dN':T.defs "_law_no_problems"=some (top 102):=by kernel_rfl
section
variable {S:Sx} {C J h1 h2 h3 h4 h5:Addr} {k:Nat} (TT:TopOk T S) (XE:Er S C J h1 h2 h3 h4 h5)
abbrev stA (d:Nat) (x:Str) (s:Stmt):Sta:=T.sta (fnT T fun y=>aE T d y) (obT T (fun y=>callW T d y) (fun y=>callI T d y) fun y=>callM T d y) x s
include TT XE
def qS {f:Addr} {fd:FuncData} (F:Fun S.K "check_problem" "check_problem" sC f fd):FnR S (k+1) f fd (parsOf sC) C (bI3 k):=by
 refine lH F (by kernel_rfl) (fun ws h ⟨x,e,_⟩=>by subst e;kernel_rfl) fun {A κ M h s L cd ws} hr hp R Fr=>?_;obtain ⟨x,rfl,hx⟩:=hp;obtain ⟨l,hA⟩:=uG Fr;have G:=iC (st:=sC) (q:="check_problem") (L:=L) (f:=f) (cd:=cd) (x:="check_problem") TT (gR TT k) hr (fun _ z=>nomatch z);obtain ⟨p1,p2,p3,p4,p5,p6,p7,p8,p9,eb⟩:=bC;rw [eb];refine cJ (bE3 (cI 60) G R Fr (b:=true) (h1:=h) ?_ fun R1 F1=>?_)
 ·have e:(evs 60).T (stA k "check_problem" sC) (.UnaryOp .Not (.Call (.Name "is_problem" p1) [.Name "problem" p2] [] p3) p4) (cF (bL sC) [.d x]) h=xb (xb (xb (Y1 (aB 0)) (YF k "is_problem")) YD) (fun (b:Bool)=>aD !b) [some (.d x)] h:=by kernel_rfl
  refine e.trans ?_;simp [hx h]
 ·refine cJ (zA (ws:=[.d (.str "this is no problem")]) XE.O PySem.F.excBase_ValueError (bP (cI 60) G _) G.rm.hd (by decide) (show Env.kindOf _ _=_ by kernel_rfl) hA (by kernel_rfl) R1 F1 (by kernel_rfl) (by decide))
def aK2 {f:Addr} {fd:FuncData} (F:Fun S.K "ring_fault" "ring_fault" sF f fd):FnR S (k+2) f fd (parsOf sF) C (bV8 k):=by
 refine lH F (by kernel_rfl) (fun ws h ⟨x,w,e,_⟩=>by subst e;kernel_rfl) fun {A κ M h s L cd ws} hr hp R Fr=>?_;obtain ⟨x,w,rfl,hx⟩:=hp;obtain ⟨l,hA⟩:=uG Fr;have G:=iC (st:=sF) (q:="ring_fault") (L:=L) (f:=f) (cd:=cd) (x:="ring_fault") TT (gR TT (k+1)) hr (fun _ z=>nomatch z);obtain ⟨p1,p2,p3,p4,r,eb⟩:=bF;obtain ⟨fc,fdc,Fc,mc,bc⟩:=TT.defs _ _ dC;rw [eb];exact cJ (iH Fr (cH rfl _ _ _) (wpAny_mono (iG (qS TT XE Fc) G.rm mc Fc.kp bc (bP (cI 60) G _) (by decide) (show Env.kindOf _ _=_ by kernel_rfl) hA (by kernel_rfl) R Fr (show _=some ([.d x],h) by kernel_rfl) ⟨x,rfl,hx⟩) (fun _ _ z=>z) fun _ _ z=>z.rz Fr))
def bI4 {f:Addr} {fd:FuncData} (F:Fun S.K "forced" "forced" sO f fd):FnR S (k+2) f fd (parsOf sO) C (bI3 k):=by
 refine lH F (by kernel_rfl) (fun ws h ⟨x,e,_⟩=>by subst e;kernel_rfl) fun {A κ M h s L cd ws} hr hp R Fr=>?_;obtain ⟨x,rfl,hx⟩:=hp;obtain ⟨l,hA⟩:=uG Fr;have G:=iC (st:=sO) (q:="forced") (L:=L) (f:=f) (cd:=cd) (x:="forced") TT (gR TT (k+1)) hr (fun _ z=>nomatch z);obtain ⟨p1,p2,p3,p4,r,eb⟩:=bO;obtain ⟨fc,fdc,Fc,mc,bc⟩:=TT.defs _ _ dC;rw [eb];exact cJ (iH Fr (cH rfl _ _ _) (wpAny_mono (iG (qS TT XE Fc) G.rm mc Fc.kp bc (bP (cI 60) G _) (by decide) (show Env.kindOf _ _=_ by kernel_rfl) hA (by kernel_rfl) R Fr (show _=some ([.d x],h) by kernel_rfl) ⟨x,rfl,hx⟩) (fun _ _ z=>z) fun _ _ z=>z.rz Fr))
def aW3 {f:Addr} {fd:FuncData} (F:Fun S.K "_law_refused" "_law_refused" sR f fd):FnS S (k+16) f fd (parsOf sR) (toW (jZ (k+16))):=by
 have hR:∀ ws h w h',toW (jZ (k+16)) ws h=some (w,h')->aI2 (k+1) ws/\w=.d (.bool true)/\h=h':=fun ws h w h' e=>by
  obtain ⟨⟨z,h2⟩,e0,e⟩:=bind_some e;cases e;unfold jZ at e0;dsimp only at e0;split at e0
  ·rename_i hp;cases e0;exact ⟨hp,rfl,rfl⟩
  ·cases e0
 refine bE4 F (by kernel_rfl) (fun ws h ⟨w,h'⟩ e=>by obtain ⟨⟨x,y,rfl,_⟩,_⟩:=hR _ _ _ _ e;kernel_rfl) fun {A κ M h h' s L cd ws w} hr e R Fr=>?_;obtain ⟨⟨x,y,rfl,hx⟩,rfl,rfl⟩:=hR _ _ _ _ e;have hx:noQ (k+13) x:=hx;have G:=iC (st:=sR) (q:="_law_refused") (L:=L) (f:=f) (cd:=cd) (x:="_law_refused") TT (gR TT (k+15)) hr (fun _ z=>nomatch z);obtain ⟨p1,p2,p3,p4,p5,p6,p7,p8,p9,q1,q2,q3,q4,q5,q6,q7,q8,q9,r1,r2,r3,r4,t1,t2,t3,t4,t5,t6,u1,u2,u3,u4,u5,u6,u7,u8,u9,kk,v1,v2,v3,v4,w1,w2,w3,w4,x1,x2,x3,z1,z2,eb⟩:=bRf;rw [eb];have g1:Gl (cxF S sR "_law_refused" L f cd A) "ring_fault":=show Env.kindOf _ _=_ by kernel_rfl
 have g3:Gl (cxF S sR "_law_refused" L f cd A) "forced":=show Env.kindOf _ _=_ by kernel_rfl
 have g4:Gl (cxF S sR "_law_refused" L f cd A) "JudgeError":=show Env.kindOf _ _=_ by kernel_rfl
 have ci:Cn (cxF S sR "_law_refused" L f cd A) "isinstance" (.builtin "isinstance"):=⟨show Env.kindOf _ _=_ by kernel_rfl,by decide,.inr ⟨TT.bl _ (by decide +kernel),by decide +kernel⟩⟩;have cV:Cn (cxF S sR "_law_refused" L f cd A) "ValueError" (.type "ValueError"):=⟨show Env.kindOf _ _=_ by kernel_rfl,by decide,.inr ⟨XE.mV,by decide +kernel⟩⟩;have cC:Cn (cxF S sR "_law_refused" L f cd A) "NoProblem" (.ref C):=⟨show Env.kindOf _ _=_ by kernel_rfl,by decide,.inl XE.mC⟩;have c1:Cn (cxF S sR "_law_refused" L f cd A) "NoHistory" (.ref h1):=⟨show Env.kindOf _ _=_ by kernel_rfl,by decide,.inl XE.m1⟩;have c2:Cn (cxF S sR "_law_refused" L f cd A) "NoLine" (.ref h2):=⟨show Env.kindOf _ _=_ by kernel_rfl,by decide,.inl XE.m2⟩;have c3:Cn (cxF S sR "_law_refused" L f cd A) "NoPromise" (.ref h3):=⟨show Env.kindOf _ _=_ by kernel_rfl,by decide,.inl XE.m3⟩;have c4:Cn (cxF S sR "_law_refused" L f cd A) "NoStore" (.ref h4):=⟨show Env.kindOf _ _=_ by kernel_rfl,by decide,.inl XE.m4⟩;have c5:Cn (cxF S sR "_law_refused" L f cd A) "NoText" (.ref h5):=⟨show Env.kindOf _ _=_ by kernel_rfl,by decide,.inl XE.m5⟩;have Fr:Fra (cxF S sR "_law_refused" L f cd A) κ M [some (.d (.int y)),some (.d x),none,none]:=Fr;obtain ⟨l,hA⟩:=uG Fr;refine wpAny_execs_cons (wpAny_mono (aF1 (Q:=fun fl s'=>∃ u κ' M',fl=.ret u/\Own (cxF S sR "_law_refused" L f cd A) κ κ'/\Le M M'/\Mem S κ' M' h s'/\RepW S M' (.d (.bool true)) u) (C:=C) (CJ:=J) (h':=h) (h2:=h) (i:=2) Fr ?_ XE.mJ XE.hJ (by decide) g4 rfl (by kernel_rfl) (by kernel_rfl) fun {κ1 M1 s1 ea} o1 l1 R1 F1 U=>?_) (fun fl s1 z=>?_) fun _ _ z=>z)
 ·obtain ⟨f1,fd1,E1,m1,b1⟩:=TT.defs _ _ dF;obtain ⟨f3,fd3,E3,m3,b3⟩:=TT.defs _ _ dO;refine cJ (aJ6 (cI 60) G R Fr (b:=decide ((y:Int)=0)) (h1:=h) (by kernel_rfl) fun R3 F3=>?_)
  by_cases c0:(y:Int)=0
  ·rw [if_pos (decide_eq_true c0)];exact cJ (iH F3 (cH rfl _ _ _) (iG (aK2 TT XE E1) G.rm m1 E1.kp b1 (bP (cI 60) G _) (by decide) g1 hA rfl R3 F3 (show _=some ([.d x,.d (.list [])],h) by kernel_rfl) ⟨x,_,rfl,hx⟩))
  rw [if_neg (by simpa using c0)];refine cJ (aJ6 (cI 60) G R3 F3 (b:=decide ((y:Int)=1)) (h1:=h) (by kernel_rfl) fun R4 F4=>?_)
  by_cases c1:(y:Int)=1
  ·rw [if_pos (decide_eq_true c1)];exact cJ (iH F4 (cH rfl _ _ _) (iG (aK2 TT XE E1) G.rm m1 E1.kp b1 (bP (cI 60) G _) (by decide) g1 hA rfl R4 F4 (show _=some ([.d x,.d .none],h) by kernel_rfl) ⟨x,_,rfl,hx⟩))
  rw [if_neg (by simpa using c1)];exact cJ (iH F4 (cH rfl _ _ _) (iG (bI4 TT XE E3) G.rm m3 E3.kp b3 (bP (cI 60) G _) (by decide) g3 hA rfl R4 F4 (show _=some ([.d x],h) by kernel_rfl) ⟨x,rfl,hx⟩))
 ·refine aS6 (j:=3) (b:=false) F1 (by kernel_rfl) (by kernel_rfl) (by decide) (cH rfl _ _ _) (aF0 (cs:=[("NoHistory",u3),("NoLine",u4),("NoPromise",u5),("NoStore",u6),("NoText",u7)]) F1 R1 U XE.Z ci (by kernel_rfl) (by decide) (.cons c1 (.cons c2 (.cons c3 (.cons c4 (.cons c5 .nil))))) (show 5<=16777216 by decide) XE.k3) fun {κ2 s2} o2 R2 F2 U2=>?_;refine wpAny_execs_cons (wpAny_Return_some (wpAny_mono (zG [(.Call (.Name "isinstance" v1) [.Name "e" v2,.Name "NoProblem" v3] [] v4,true),(.Call (.Name "isinstance" w1) [.Name "e" w2,.Name "ValueError" w3] [] w4,true),(.UnaryOp .Not (.Name "_law_others" x1) x2,true)] (by simp) R2 U2 fun q hq s R U=>?_) (fun u s3 ⟨e3,R3,U3⟩=>?_) fun _ _ z=>z))
  ·simp only [List.mem_cons,List.not_mem_nil,or_false] at hq;rcases hq with rfl | rfl | rfl
   ·exact zF F2 R U XE.Z ci (by kernel_rfl) (by decide) cC XE.k1
   ·exact zF F2 R U XE.Z ci (by kernel_rfl) (by decide) cV XE.k2
   ·exact aS5 (b:=false) (aS4 (j:=3) F2 R U (by kernel_rfl) rfl (.inl (by kernel_rfl)) (by decide))
  ·subst e3;exact ⟨κ2,M1,_,o1.trans o2,l1,R3,F2,fun {κ3 s3} o3 R3 _=>⟨_,κ3,M1,rfl,o3,l1,R3,wb.mpr rfl⟩⟩
 ·obtain ⟨u,κ',M',rfl,rest⟩:=z;exact ⟨u,κ',M',rfl,rest⟩
def aW4:FnG S (k+16) "_law_refused" (toW (jZ (k+16))):=by
 obtain ⟨f,fd,F,mf,bf⟩:=TT.defs _ _ dR;exact .inr ⟨f,fd,_,mf,F.kp,bf,aW3 TT XE F⟩
def bI5:FnG S (k+17) "_law_no_problems" (toW (npX (k+16))):=by
 obtain ⟨f,fd,F,mf,bf⟩:=TT.defs _ _ dN';exact .inr ⟨f,fd,_,mf,F.kp,bf,tN (k:=k+16) (m:=jZ (k+16)) TT dN' F (aW4 TT XE)⟩
end
end K30

namespace K30
open PySem PySem.Spec PyProof.Rows L2 DL CI
abbrev s_0:Stmt:=top 1
abbrev s_1:Stmt:=top 2
abbrev s_2:Stmt:=top 3
abbrev s_3:Stmt:=top 4
abbrev s_4:Stmt:=top 5
abbrev s_5:Stmt:=top 11
abbrev s_6:Stmt:=top 12
abbrev s_7:Stmt:=top 13
abbrev s_8:Stmt:=top 14
abbrev s_9:Stmt:=top 15
abbrev bI6:Stmt:=top 16
abbrev bI7:Stmt:=top 17
abbrev bI8:Stmt:=top 18
abbrev bI9:Stmt:=top 19
abbrev bJ0:Stmt:=top 20
abbrev bJ1:Stmt:=top 21
abbrev bJ2:Stmt:=top 22
abbrev bJ3:Stmt:=top 23
abbrev bJ4:Stmt:=top 24
abbrev bJ5:Stmt:=top 25
abbrev bJ6:Stmt:=top 26
abbrev bJ7:Stmt:=top 27
abbrev bJ8:Stmt:=top 38
abbrev bJ9:Stmt:=top 39
abbrev bK0:Stmt:=top 40
abbrev bK1:Stmt:=top 41
abbrev bK2:Stmt:=top 42
abbrev bK3:Stmt:=top 43
abbrev bK4:Stmt:=top 49
abbrev bK5:Stmt:=top 50
abbrev bK6:Stmt:=top 51
abbrev bK7:Stmt:=top 52
abbrev bK8:Stmt:=top 53
abbrev bK9:Stmt:=top 54
abbrev bL0:Stmt:=top 55
abbrev bL1:Stmt:=top 56
abbrev bL2:Stmt:=top 57
abbrev bL3:Stmt:=top 60
abbrev bL4:Stmt:=top 61
abbrev bL5:Stmt:=top 62
abbrev bL6:Stmt:=top 63
abbrev bL7:Stmt:=top 64
abbrev bL8:Stmt:=top 69
abbrev bL9:Stmt:=top 70
abbrev bM0:Stmt:=top 71
abbrev bM1:Stmt:=top 72
abbrev bM2:Stmt:=top 73
abbrev bM3:Stmt:=top 74
abbrev bM4:Stmt:=top 75
abbrev bM5:Stmt:=top 76
abbrev bM6:Stmt:=top 77
abbrev bM7:Stmt:=top 80
abbrev bM8:Stmt:=top 81
abbrev bM9:Stmt:=top 82
abbrev bN0:Stmt:=top 83
abbrev bN1:Stmt:=top 84
abbrev bN2:Stmt:=top 85
abbrev bN3:Stmt:=top 86
abbrev bN4:Stmt:=top 87
abbrev bN5:Stmt:=top 88
abbrev bN6:Stmt:=top 90
abbrev bN7:Stmt:=top 91
abbrev bN8:Stmt:=top 92
abbrev bN9:Stmt:=top 93
abbrev bO0:Stmt:=top 94
abbrev bO1:Stmt:=top 95
abbrev bO2:Stmt:=top 96
abbrev bO3:Stmt:=top 97
abbrev bO4:Stmt:=top 98
abbrev bO5:Stmt:=top 99
abbrev bO6:Stmt:=top 100
abbrev bO7:Stmt:=top 101
abbrev bO8:Stmt:=top 102
abbrev qT:Stmt:=top 103
def bO9:gcl body=([(Str.ofString "LAST_KEY",PyData.int 7),(Str.ofString "MOST_PARTS",PyData.int 4),(Str.ofString "REFUSED",PyData.tuple [PyData.str (Str.ofString "refused")]),(Str.ofString "FIRST",PyData.tuple [PyData.int 0,PyData.int 0,PyData.int 0,PyData.int 0,PyData.int 0,PyData.int 0,PyData.int 0,PyData.int 0]),(Str.ofString "WORDS",PyData.tuple [PyData.str (Str.ofString "must"),PyData.str (Str.ofString "may"),PyData.str (Str.ofString "out")]),(Str.ofString "MOST_ITEMS",PyData.int 120),(Str.ofString "MOST_PAIRS",PyData.int 4000),(Str.ofString "MOST_TRIPLES",PyData.int 4000),(Str.ofString "NOTHING",PyData.tuple [PyData.str (Str.ofString "none")])]:List (Str×PyData)):=by kernel_rfl
def bP0:tkl body=([(Str.ofString "NUMBERS_BEHIND",[(Str.ofString "read",PyData.int 0),(Str.ofString "write",PyData.int 1),(Str.ofString "add",PyData.int 1),(Str.ofString "swap",PyData.int 2)]),(Str.ofString "REASONS",[(Str.ofString "told",PyData.tuple []),(Str.ofString "through",PyData.tuple [PyData.str (Str.ofString "item")]),(Str.ofString "only",PyData.tuple [PyData.str (Str.ofString "key")]),(Str.ofString "first",PyData.tuple [PyData.str (Str.ofString "key")]),(Str.ofString "late",PyData.tuple [PyData.str (Str.ofString "key"),PyData.str (Str.ofString "item")]),(Str.ofString "early",PyData.tuple [PyData.str (Str.ofString "key"),PyData.str (Str.ofString "item")]),(Str.ofString "apart",PyData.tuple [PyData.str (Str.ofString "item")])])]:List (Str×List (Str×PyData))):=by kernel_rfl
abbrev DFL:List (Str×Stmt):=[(Str.ofString "is_whole",s_0),(Str.ofString "is_between",s_1),(Str.ofString "is_tuple_of",s_2),(Str.ofString "are_whole",s_3),(Str.ofString "are_rising",s_4),(Str.ofString "is_key",s_5),(Str.ofString "word_of",s_6),(Str.ofString "is_worded",s_7),(Str.ofString "is_single",s_8),(Str.ofString "is_span",s_9),(Str.ofString "is_deal",bI6),(Str.ofString "is_call",bI7),(Str.ofString "is_look",bI8),(Str.ofString "is_value_pair",bI9),(Str.ofString "is_lay",bJ0),(Str.ofString "is_step",bJ1),(Str.ofString "is_answer",bJ2),(Str.ofString "is_own_answer",bJ3),(Str.ofString "keys_of",bJ4),(Str.ofString "parts_of",bJ5),(Str.ofString "value_left",bJ6),(Str.ofString "part_on",bJ7),(Str.ofString "is_stand",bJ8),(Str.ofString "with_value",bJ9),(Str.ofString "done",bK0),(Str.ofString "single_done",bK1),(Str.ofString "deal_done",bK2),(Str.ofString "laid",bK3),(Str.ofString "is_item",bK4),(Str.ofString "are_items",bK5),(Str.ofString "are_numbers",bK6),(Str.ofString "are_unlike",bK7),(Str.ofString "are_pairs",bK8),(Str.ofString "are_triples",bK9),(Str.ofString "is_problem",bL0),(Str.ofString "marked",bL1),(Str.ofString "check_problem",bL2),(Str.ofString "touch",bL3),(Str.ofString "left_as",bL4),(Str.ofString "needed_first",bL5),(Str.ofString "left_answered",bL6),(Str.ofString "left_unanswered",bL7),(Str.ofString "ring_fault",bL8),(Str.ofString "steps_fault",bL9),(Str.ofString "is_ring_step",bM0),(Str.ofString "is_reason",bM1),(Str.ofString "is_told",bM2),(Str.ofString "is_right",bM3),(Str.ofString "is_apart",bM4),(Str.ofString "needing",bM5),(Str.ofString "is_right_on_key",bM6),(Str.ofString "forced",bM7),(Str.ofString "forced_by",bM8),(Str.ofString "narrow_wants",bM9),(Str.ofString "lead_told",bN0),(Str.ofString "lead_apart",bN1),(Str.ofString "lead_want",bN2),(Str.ofString "lead_first",bN3),(Str.ofString "lead_late",bN4),(Str.ofString "lead_early",bN5),(Str.ofString "_law_cell_at",bN6),(Str.ofString "_law_drawn",bN7),(Str.ofString "_law_draws",bN8),(Str.ofString "_law_value",bN9),(Str.ofString "_law_one",bO0),(Str.ofString "_law_step",bO1),(Str.ofString "_law_bent",bO2),(Str.ofString "_law_items",bO3),(Str.ofString "_law_problem",bO4),(Str.ofString "_law_good",bO5),(Str.ofString "_law_none",bO6),(Str.ofString "_law_refused",bO7),(Str.ofString "_law_no_problems",bO8),(Str.ofString "law",qT)]
def bP1:dfl body=DFL:=by kernel_rfl
def aI4:T.defs "law"=some qT:=by kernel_rfl
def bP2:parsOf qT=([Str.ofString "_law_script"]:List Str):=by kernel_rfl
def all_mk {l:PySem.W.OpenLaw} {w:World} {os:OsState} {K:PySem.W.Frag} {h:Heap} {mg:Str->Option Value} {fa:Addr} (X:K.In h) (G:h.Ns mainGlobals mg) (hfa:mg "law"=some (.ref fa))
  (a0:FI K "is_whole" s_0)
  (a1:FI K "is_between" s_1)
  (a2:FI K "is_tuple_of" s_2)
  (a3:FI K "are_whole" s_3)
  (a4:FI K "are_rising" s_4)
  (a5:FI K "is_key" s_5)
  (a6:FI K "word_of" s_6)
  (a7:FI K "is_worded" s_7)
  (a8:FI K "is_single" s_8)
  (a9:FI K "is_span" s_9)
  (a10:FI K "is_deal" bI6)
  (a11:FI K "is_call" bI7)
  (a12:FI K "is_look" bI8)
  (a13:FI K "is_value_pair" bI9)
  (a14:FI K "is_lay" bJ0)
  (a15:FI K "is_step" bJ1)
  (a16:FI K "is_answer" bJ2)
  (a17:FI K "is_own_answer" bJ3)
  (a18:FI K "keys_of" bJ4)
  (a19:FI K "parts_of" bJ5)
  (a20:FI K "value_left" bJ6)
  (a21:FI K "part_on" bJ7)
  (a22:FI K "is_stand" bJ8)
  (a23:FI K "with_value" bJ9)
  (a24:FI K "done" bK0)
  (a25:FI K "single_done" bK1)
  (a26:FI K "deal_done" bK2)
  (a27:FI K "laid" bK3)
  (a28:FI K "is_item" bK4)
  (a29:FI K "are_items" bK5)
  (a30:FI K "are_numbers" bK6)
  (a31:FI K "are_unlike" bK7)
  (a32:FI K "are_pairs" bK8)
  (a33:FI K "are_triples" bK9)
  (a34:FI K "is_problem" bL0)
  (a35:FI K "marked" bL1)
  (a36:FI K "check_problem" bL2)
  (a37:FI K "touch" bL3)
  (a38:FI K "left_as" bL4)
  (a39:FI K "needed_first" bL5)
  (a40:FI K "left_answered" bL6)
  (a41:FI K "left_unanswered" bL7)
  (a42:FI K "ring_fault" bL8)
  (a43:FI K "steps_fault" bL9)
  (a44:FI K "is_ring_step" bM0)
  (a45:FI K "is_reason" bM1)
  (a46:FI K "is_told" bM2)
  (a47:FI K "is_right" bM3)
  (a48:FI K "is_apart" bM4)
  (a49:FI K "needing" bM5)
  (a50:FI K "is_right_on_key" bM6)
  (a51:FI K "forced" bM7)
  (a52:FI K "forced_by" bM8)
  (a53:FI K "narrow_wants" bM9)
  (a54:FI K "lead_told" bN0)
  (a55:FI K "lead_apart" bN1)
  (a56:FI K "lead_want" bN2)
  (a57:FI K "lead_first" bN3)
  (a58:FI K "lead_late" bN4)
  (a59:FI K "lead_early" bN5)
  (a60:FI K "_law_cell_at" bN6)
  (a61:FI K "_law_drawn" bN7)
  (a62:FI K "_law_draws" bN8)
  (a63:FI K "_law_value" bN9)
  (a64:FI K "_law_one" bO0)
  (a65:FI K "_law_step" bO1)
  (a66:FI K "_law_bent" bO2)
  (a67:FI K "_law_items" bO3)
  (a68:FI K "_law_problem" bO4)
  (a69:FI K "_law_good" bO5)
  (a70:FI K "_law_none" bO6)
  (a71:FI K "_law_refused" bO7)
  (a72:FI K "_law_no_problems" bO8)
  (a73:FI K "law" qT)
  {tg0:Tok} (cg0:PySem.W.nsIn K mainGlobals "LAST_KEY"=some (some (.int 7 tg0)))
  {tg1:Tok} (cg1:PySem.W.nsIn K mainGlobals "MOST_PARTS"=some (some (.int 4 tg1)))
  {q2:Addr} {nq2:Nat} {tq2_0:Tok} (aQ2:PySem.W.nsIn K mainGlobals "REFUSED"=some (some (.ref q2))) (lQ2:K.lookup q2=some ⟨.type "tuple",none,.seq #[.str "refused" tq2_0] nq2,#[]⟩)
  {q3:Addr} {nq3:Nat} {tq3_0 tq3_1 tq3_2 tq3_3 tq3_4 tq3_5 tq3_6 tq3_7:Tok} (aQ3:PySem.W.nsIn K mainGlobals "FIRST"=some (some (.ref q3))) (lQ3:K.lookup q3=some ⟨.type "tuple",none,.seq #[.int 0 tq3_0,.int 0 tq3_1,.int 0 tq3_2,.int 0 tq3_3,.int 0 tq3_4,.int 0 tq3_5,.int 0 tq3_6,.int 0 tq3_7] nq3,#[]⟩)
  {q4:Addr} {nq4:Nat} {tq4_0 tq4_1 tq4_2:Tok} (aQ4:PySem.W.nsIn K mainGlobals "WORDS"=some (some (.ref q4))) (lQ4:K.lookup q4=some ⟨.type "tuple",none,.seq #[.str "must" tq4_0,.str "may" tq4_1,.str "out" tq4_2] nq4,#[]⟩)
  {tg5:Tok} (cg5:PySem.W.nsIn K mainGlobals "MOST_ITEMS"=some (some (.int 120 tg5)))
  {tg6:Tok} (cg6:PySem.W.nsIn K mainGlobals "MOST_PAIRS"=some (some (.int 4000 tg6)))
  {tg7:Tok} (cg7:PySem.W.nsIn K mainGlobals "MOST_TRIPLES"=some (some (.int 4000 tg7)))
  {q8:Addr} {nq8:Nat} {tq8_0:Tok} (aQ8:PySem.W.nsIn K mainGlobals "NOTHING"=some (some (.ref q8))) (lQ8:K.lookup q8=some ⟨.type "tuple",none,.seq #[.str "none" tq8_0] nq8,#[]⟩)
  {p0:Addr} {n0:Nat} {hh0_0 hh0_1 hh0_2 hh0_3:Int} {tk0_0 tv0_0 tk0_1 tv0_1 tk0_2 tv0_2 tk0_3 tv0_3:Tok} (aT0:PySem.W.nsIn K mainGlobals "NUMBERS_BEHIND"=some (some (.ref p0))) (lT0:K.lookup p0=some ⟨.type "dict",none,.dict #[⟨hh0_0,.str "read" tk0_0,.int 0 tv0_0⟩,⟨hh0_1,.str "write" tk0_1,.int 1 tv0_1⟩,⟨hh0_2,.str "add" tk0_2,.int 1 tv0_2⟩,⟨hh0_3,.str "swap" tk0_3,.int 2 tv0_3⟩] n0,#[]⟩) (kT0:PySem.W.KeysLit w.params [⟨hh0_0,.str "read" tk0_0,.int 0 tv0_0⟩,⟨hh0_1,.str "write" tk0_1,.int 1 tv0_1⟩,⟨hh0_2,.str "add" tk0_2,.int 1 tv0_2⟩,⟨hh0_3,.str "swap" tk0_3,.int 2 tv0_3⟩]) (sT0:(p0==sysModules)=false)
  {r0 r1 r2 r3 r4 r5 r6:Addr}
  {p1:Addr} {n1:Nat} {hh1_0 hh1_1 hh1_2 hh1_3 hh1_4 hh1_5 hh1_6:Int} {tk1_0 tk1_1 tk1_2 tk1_3 tk1_4 tk1_5 tk1_6:Tok} (aT1:PySem.W.nsIn K mainGlobals "REASONS"=some (some (.ref p1))) (lT1:K.lookup p1=some ⟨.type "dict",none,.dict #[⟨hh1_0,.str "told" tk1_0,.ref r0⟩,⟨hh1_1,.str "through" tk1_1,.ref r1⟩,⟨hh1_2,.str "only" tk1_2,.ref r2⟩,⟨hh1_3,.str "first" tk1_3,.ref r3⟩,⟨hh1_4,.str "late" tk1_4,.ref r4⟩,⟨hh1_5,.str "early" tk1_5,.ref r5⟩,⟨hh1_6,.str "apart" tk1_6,.ref r6⟩] n1,#[]⟩) (kT1:PySem.W.KeysLit w.params [⟨hh1_0,.str "told" tk1_0,.ref r0⟩,⟨hh1_1,.str "through" tk1_1,.ref r1⟩,⟨hh1_2,.str "only" tk1_2,.ref r2⟩,⟨hh1_3,.str "first" tk1_3,.ref r3⟩,⟨hh1_4,.str "late" tk1_4,.ref r4⟩,⟨hh1_5,.str "early" tk1_5,.ref r5⟩,⟨hh1_6,.str "apart" tk1_6,.ref r6⟩]) (sT1:(p1==sysModules)=false)
  {nr0:Nat} (lR0:K.lookup r0=some ⟨.type "tuple",none,.seq #[] nr0,#[]⟩)
  {nr1:Nat} {tr1_0:Tok} (lR1:K.lookup r1=some ⟨.type "tuple",none,.seq #[.str "item" tr1_0] nr1,#[]⟩)
  {nr2:Nat} {tr2_0:Tok} (lR2:K.lookup r2=some ⟨.type "tuple",none,.seq #[.str "key" tr2_0] nr2,#[]⟩)
  {nr3:Nat} {tr3_0:Tok} (lR3:K.lookup r3=some ⟨.type "tuple",none,.seq #[.str "key" tr3_0] nr3,#[]⟩)
  {nr4:Nat} {tr4_0 tr4_1:Tok} (lR4:K.lookup r4=some ⟨.type "tuple",none,.seq #[.str "key" tr4_0,.str "item" tr4_1] nr4,#[]⟩)
  {nr5:Nat} {tr5_0 tr5_1:Tok} (lR5:K.lookup r5=some ⟨.type "tuple",none,.seq #[.str "key" tr5_0,.str "item" tr5_1] nr5,#[]⟩)
  {nr6:Nat} {tr6_0:Tok} (lR6:K.lookup r6=some ⟨.type "tuple",none,.seq #[.str "item" tr6_0] nr6,#[]⟩)
  {C J h1 h2 h3 h4 h5:Addr} (aC:PySem.W.nsIn K mainGlobals "NoProblem"=some (some (.ref C))) (aJ:PySem.W.nsIn K mainGlobals "JudgeError"=some (some (.ref J)))
  (e1:PySem.W.nsIn K mainGlobals "NoHistory"=some (some (.ref h1))) (e2:PySem.W.nsIn K mainGlobals "NoLine"=some (some (.ref h2))) (e3:PySem.W.nsIn K mainGlobals "NoPromise"=some (some (.ref h3))) (e4:PySem.W.nsIn K mainGlobals "NoStore"=some (some (.ref h4))) (e5:PySem.W.nsIn K mainGlobals "NoText"=some (some (.ref h5))) (eV:PySem.W.nsIn K mainGlobals "ValueError"=some none)
  (qX:PySem.W.excIn K C bmV "ValueError.__new__"=true) (hJ:PySem.W.exmOne K (.ref C) (.ref J)=some true) (k1:PySem.W.kitOne K (.ref C) (.ref C)=some true) (k2:PySem.W.kitOne K (.ref C) (.type "ValueError")=some true) (k3:PySem.W.kitAny K (.ref C) [.ref h1,.ref h2,.ref h3,.ref h4,.ref h5]=some false)
  (x1:PySem.W.findIn K (.ref C) "__getattribute__"=some (some (.builtin "BaseException.__getattribute__"))) (x2:PySem.W.findIn K (.ref C) "__getattr__"=some none) (x3:PySem.W.findIn K (.ref C) "__class__"=some (some (.builtin "object.__class__"))) (x4:PySem.W.mroIn K C (.type "BaseException")=some true) (x5:PySem.W.mroIn K C (.type "object")=some true)
  (zb:∀ b∈blAll,PySem.W.nsIn K mainGlobals b=some none) :
  ∃ fd:FuncData,(∀ (s:Shared) (v:Value),BindsTo s fd ⟨[v],[]⟩ [("_law_script",v)])/\FnS ⟨l.prog,w,K,mg,h,os,#[],0⟩ 18 fa fd ["_law_script"] (toW (iI T 17 "_law_no_problems" (npX 16) "law")):=by
 have aL:=a73;obtain ⟨f73,od73,an73,sl73,oc73,kV73,dc73,pm73,cd73,ct73,b73,l73,c73,kk73⟩:=aL;have e:=hfa.symm.trans (PySem.W.mg_of X G b73);cases e;have F73:=yX (st:=qT) l73 c73 kk73;refine ⟨PySem.W.fnOf "law" "law" (eD qT) (aX qT) (defScope qT) .none kV73 dc73 pm73 an73 cd73 ct73,fun s v=>.of_eq rfl,?_⟩;have TT:TopOk T ⟨l.prog,w,K,mg,h,os,#[],0⟩:=by
  refine ⟨fun x hx=>?_,fun x z hz=>?_,fun x f hf=>?_,fun x s hs=>?_,fun x C s hs=>?_,fun x C s hs=>?_,fun C f hf=>?_,fun x q hs=>?_⟩
  ·have hx:blAll.contains x=true:=hx;rw [List.contains_iff_mem] at hx;exact PySem.W.mg_none_of X G (zb x hx)
  ·have hm:=aR6 (show aR3 body x=some z from hz);rw [bO9] at hm;simp only [List.mem_cons,List.not_mem_nil,or_false,Prod.mk.injEq] at hm;rcases hm with ⟨rfl,rfl⟩ | ⟨rfl,rfl⟩ | ⟨rfl,rfl⟩ | ⟨rfl,rfl⟩ | ⟨rfl,rfl⟩ | ⟨rfl,rfl⟩ | ⟨rfl,rfl⟩ | ⟨rfl,rfl⟩ | ⟨rfl,rfl⟩
   ·exact ⟨_,PySem.W.mg_of X G cg0,rep_i.mpr ⟨tg0,rfl⟩⟩
   ·exact ⟨_,PySem.W.mg_of X G cg1,rep_i.mpr ⟨tg1,rfl⟩⟩
   ·exact ⟨_,PySem.W.mg_of X G aQ2,eR (ws:=["refused"]) X lQ2 (.cons ⟨⟨_,rfl⟩,by decide +kernel⟩ .nil) (show 1<=16777216 by decide)⟩
   ·exact ⟨_,PySem.W.mg_of X G aQ3,aR9 (ws:=[0,0,0,0,0,0,0,0]) X lQ3 (.cons ⟨_,rfl⟩ (.cons ⟨_,rfl⟩ (.cons ⟨_,rfl⟩ (.cons ⟨_,rfl⟩ (.cons ⟨_,rfl⟩ (.cons ⟨_,rfl⟩ (.cons ⟨_,rfl⟩ (.cons ⟨_,rfl⟩ .nil)))))))) (show 8<=16777216 by decide)⟩
   ·exact ⟨_,PySem.W.mg_of X G aQ4,eR (ws:=["must","may","out"]) X lQ4 (.cons ⟨⟨_,rfl⟩,by decide +kernel⟩ (.cons ⟨⟨_,rfl⟩,by decide +kernel⟩ (.cons ⟨⟨_,rfl⟩,by decide +kernel⟩ .nil))) (show 3<=16777216 by decide)⟩
   ·exact ⟨_,PySem.W.mg_of X G cg5,rep_i.mpr ⟨tg5,rfl⟩⟩
   ·exact ⟨_,PySem.W.mg_of X G cg6,rep_i.mpr ⟨tg6,rfl⟩⟩
   ·exact ⟨_,PySem.W.mg_of X G cg7,rep_i.mpr ⟨tg7,rfl⟩⟩
   ·exact ⟨_,PySem.W.mg_of X G aQ8,eR (ws:=["none"]) X lQ8 (.cons ⟨⟨_,rfl⟩,by decide +kernel⟩ .nil) (show 1<=16777216 by decide)⟩
  ·obtain ⟨t,hm,rfl⟩:=aR7 (show aR5 body x=some f from hf);rw [bP0] at hm;simp only [List.mem_cons,List.not_mem_nil,or_false,Prod.mk.injEq] at hm;rcases hm with ⟨rfl,rfl⟩ | ⟨rfl,rfl⟩
   ·refine ⟨p0,PySem.W.mg_of X G aT0,⟨⟨_,n0,lT0,kT0,fun y i hy=>?_,fun y hy=>?_⟩,sT0⟩⟩
    ·repeat rw [iE]
     simp only [List.lookup] at hy;split at hy
     ·rename_i q;rw [if_pos (eq_of_beq q).symm];cases hy;exact ⟨_,rfl,rep_i.mpr ⟨_,rfl⟩⟩
     rename_i q;rw [if_neg (fun z=>(beq_eq_false_iff_ne.mp q) z.symm)];clear q;split at hy
     ·rename_i q;rw [if_pos (eq_of_beq q).symm];cases hy;exact ⟨_,rfl,rep_i.mpr ⟨_,rfl⟩⟩
     rename_i q;rw [if_neg (fun z=>(beq_eq_false_iff_ne.mp q) z.symm)];clear q;split at hy
     ·rename_i q;rw [if_pos (eq_of_beq q).symm];cases hy;exact ⟨_,rfl,rep_i.mpr ⟨_,rfl⟩⟩
     rename_i q;rw [if_neg (fun z=>(beq_eq_false_iff_ne.mp q) z.symm)];clear q;split at hy
     ·rename_i q;rw [if_pos (eq_of_beq q).symm];cases hy;exact ⟨_,rfl,rep_i.mpr ⟨_,rfl⟩⟩
     rename_i q;rw [if_neg (fun z=>(beq_eq_false_iff_ne.mp q) z.symm)];clear q;cases hy
    ·repeat rw [iE]
     simp only [List.lookup] at hy
     repeat (split at hy;(cases hy);(rename_i q;rw [if_neg (fun z=>(beq_eq_false_iff_ne.mp q) z.symm)]))
     rfl
   ·refine ⟨p1,PySem.W.mg_of X G aT1,⟨⟨_,n1,lT1,kT1,fun y i hy=>?_,fun y hy=>?_⟩,sT1⟩⟩
    ·repeat rw [iE]
     simp only [List.lookup] at hy;split at hy
     ·rename_i q;rw [if_pos (eq_of_beq q).symm];cases hy;exact ⟨_,rfl,eR (ws:=[]) X lR0 (.nil) (show 0<=16777216 by decide)⟩
     rename_i q;rw [if_neg (fun z=>(beq_eq_false_iff_ne.mp q) z.symm)];clear q;split at hy
     ·rename_i q;rw [if_pos (eq_of_beq q).symm];cases hy;exact ⟨_,rfl,eR (ws:=["item"]) X lR1 (.cons ⟨⟨_,rfl⟩,by decide +kernel⟩ .nil) (show 1<=16777216 by decide)⟩
     rename_i q;rw [if_neg (fun z=>(beq_eq_false_iff_ne.mp q) z.symm)];clear q;split at hy
     ·rename_i q;rw [if_pos (eq_of_beq q).symm];cases hy;exact ⟨_,rfl,eR (ws:=["key"]) X lR2 (.cons ⟨⟨_,rfl⟩,by decide +kernel⟩ .nil) (show 1<=16777216 by decide)⟩
     rename_i q;rw [if_neg (fun z=>(beq_eq_false_iff_ne.mp q) z.symm)];clear q;split at hy
     ·rename_i q;rw [if_pos (eq_of_beq q).symm];cases hy;exact ⟨_,rfl,eR (ws:=["key"]) X lR3 (.cons ⟨⟨_,rfl⟩,by decide +kernel⟩ .nil) (show 1<=16777216 by decide)⟩
     rename_i q;rw [if_neg (fun z=>(beq_eq_false_iff_ne.mp q) z.symm)];clear q;split at hy
     ·rename_i q;rw [if_pos (eq_of_beq q).symm];cases hy;exact ⟨_,rfl,eR (ws:=["key","item"]) X lR4 (.cons ⟨⟨_,rfl⟩,by decide +kernel⟩ (.cons ⟨⟨_,rfl⟩,by decide +kernel⟩ .nil)) (show 2<=16777216 by decide)⟩
     rename_i q;rw [if_neg (fun z=>(beq_eq_false_iff_ne.mp q) z.symm)];clear q;split at hy
     ·rename_i q;rw [if_pos (eq_of_beq q).symm];cases hy;exact ⟨_,rfl,eR (ws:=["key","item"]) X lR5 (.cons ⟨⟨_,rfl⟩,by decide +kernel⟩ (.cons ⟨⟨_,rfl⟩,by decide +kernel⟩ .nil)) (show 2<=16777216 by decide)⟩
     rename_i q;rw [if_neg (fun z=>(beq_eq_false_iff_ne.mp q) z.symm)];clear q;split at hy
     ·rename_i q;rw [if_pos (eq_of_beq q).symm];cases hy;exact ⟨_,rfl,eR (ws:=["item"]) X lR6 (.cons ⟨⟨_,rfl⟩,by decide +kernel⟩ .nil) (show 1<=16777216 by decide)⟩
     rename_i q;rw [if_neg (fun z=>(beq_eq_false_iff_ne.mp q) z.symm)];clear q;cases hy
    ·repeat rw [iE]
     simp only [List.lookup] at hy
     repeat (split at hy;(cases hy);(rename_i q;rw [if_neg (fun z=>(beq_eq_false_iff_ne.mp q) z.symm)]))
     rfl
  ·have hm:=aR8 (show rV body x=some s from hs);rw [bP1] at hm;have key:∀ p∈DFL,FR K mg p.1 p.2:=by
    repeat (refine bS1 (P:=FR K mg) ?_ ?_;(first | exact FI.ok1 (by assumption) X G (by kernel_rfl) (fun _=>fun _ _ _ _ _ _=>rfl) | exact FI.ok2 (by assumption) X G (by kernel_rfl) (fun _ _=>fun _ _ _ _ _ _=>rfl) | exact FI.ok3 (by assumption) X G (by kernel_rfl) (fun _ _ _=>fun _ _ _ _ _ _=>rfl) | exact FI.ok4 (by assumption) X G (by kernel_rfl) (fun _ _ _ _=>fun _ _ _ _ _ _=>rfl) | exact FI.ok5 (by assumption) X G (by kernel_rfl) (fun _ _ _ _ _=>fun _ _ _ _ _ _=>rfl)))
    exact bS0
   exact key _ hm
  ·have h:(none:Option (Addr×Stmt))=some (C,s):=hs;cases h
  ·have h:(none:Option (Addr×Stmt))=some (C,s):=hs;cases h
  ·have h:false=true:=hf;cases h
  ·have h:(none:Option (Str×Pos))=some q:=hs;cases h
 have XE:Er ⟨l.prog,w,K,mg,h,os,#[],0⟩ C J h1 h2 h3 h4 h5:=⟨aW2 X (PySem.W.mg_of X G aC) qX,PySem.W.mg_of X G aC,PySem.W.mg_of X G aJ,hJ,⟨x1,x2,x3,x4,x5⟩,PySem.W.mg_of X G e1,PySem.W.mg_of X G e2,PySem.W.mg_of X G e3,PySem.W.mg_of X G e4,PySem.W.mg_of X G e5,PySem.W.mg_none_of X G eV,k1,k2,k3⟩;have q:=tN (k:=17) (m:=npX 16) TT aI4 F73 (bI5 (k:=0) TT XE);rw [bP2] at q;exact q
def walk {l:PySem.W.OpenLaw} {q:Program} {loose:List Str} {XP:(Str->Option Value)->Heap->Prop} {YP:World->Heap->Prop} {d:DefRec} {K:Params->PySem.W.Frag} (hn:l.most=some 63) (hdf:d.params.defaults=[])
  (hY:∀ (w:World) (h:Heap),YP w h->(K w.params).In h)
  (F:∀ (w:World) (mg:Str->Option Value) (fa:Addr) (h:Heap) (os:OsState),(K w.params).In h->h.Ns mainGlobals mg->mg d.name=some (.ref fa) ->
   ∃ fd:FuncData,(∀ (s:Shared) (u:Value),BindsTo s fd ⟨[u],[]⟩ [("_law_script",u)])/\FnS ⟨l.prog,w,K w.params,mg,h,os,#[],0⟩ 18 fa fd ["_law_script"] (toW (iI T 17 "_law_no_problems" (npX 16) "law"))) :
  PySem.W.WalkO q loose XP YP l.row.toRowW d [] (fun f vs=>PySem.call f vs) :=
 aE7 (n:=63) (k:=18) (x:="_law_script") (m:=iI T 17 "_law_no_problems" (npX 16) "law") hn (by decide) hdf ⟨rfl,by decide,by decide⟩ hY F fun ns hns=>aW1 ns hns 0
end K30

open PySem PySem.W PyProof.Rows
theorem PySem.Challenge.cw_storejudge_k30_what_is_no_step_holds : PySem.Challenge.rw_storejudge_k30_what_is_no_step.Holds := by
 refine hd ?_
 k_fill
 refine K30.walk (l:=PySem.Challenge.rw_storejudge_k30_what_is_no_step) rfl rfl (fun w h Y=>PySem.W.kIn_of Y) ?F
 case F =>
  intro w mg fa h os KX G hmg;refine' K30.all_mk KX G hmg ?a0 ?a1 ?a2 ?a3 ?a4 ?a5 ?a6 ?a7 ?a8 ?a9 ?a10 ?a11 ?a12 ?a13 ?a14 ?a15 ?a16 ?a17 ?a18 ?a19 ?a20 ?a21 ?a22 ?a23 ?a24 ?a25 ?a26 ?a27 ?a28 ?a29 ?a30 ?a31 ?a32 ?a33 ?a34 ?a35 ?a36 ?a37 ?a38 ?a39 ?a40 ?a41 ?a42 ?a43 ?a44 ?a45 ?a46 ?a47 ?a48 ?a49 ?a50 ?a51 ?a52 ?a53 ?a54 ?a55 ?a56 ?a57 ?a58 ?a59 ?a60 ?a61 ?a62 ?a63 ?a64 ?a65 ?a66 ?a67 ?a68 ?a69 ?a70 ?a71 ?a72 ?a73 ?cg0 ?cg1 ?aQ2 ?lQ2 ?aQ3 ?lQ3 ?aQ4 ?lQ4 ?cg5 ?cg6 ?cg7 ?aQ8 ?lQ8 ?aT0 ?lT0 ?kT0 ?sT0 ?aT1 ?lT1 ?kT1 ?sT1 ?lR0 ?lR1 ?lR2 ?lR3 ?lR4 ?lR5 ?lR6 ?aC ?aJ ?e1 ?e2 ?e3 ?e4 ?e5 ?eV ?qX ?hJ ?k1 ?k2 ?k3 ?x1 ?x2 ?x3 ?x4 ?x5 ?zb
  all_goals try (refine' CI.fi_mk ?a ?l ?c ?k;(case a=>k_is);(case l=>k_is);(case c=>k_is);(case k=>k_is))
  (case cg0=>k_is)
  (case cg1=>k_is)
  (case aQ2=>k_is);(case lQ2=>k_is)
  (case aQ3=>k_is);(case lQ3=>k_is)
  (case aQ4=>k_is);(case lQ4=>k_is)
  (case cg5=>k_is)
  (case cg6=>k_is)
  (case cg7=>k_is)
  (case aQ8=>k_is);(case lQ8=>k_is)
  (case aT0=>k_is);(case lT0=>k_is);(case kT0=>k_keys);(case sT0=>first | rfl | decide | k_is)
  (case aT1=>k_is);(case lT1=>k_is);(case kT1=>k_keys);(case sT1=>first | rfl | decide | k_is)
  (case lR0=>k_is);(case lR1=>k_is);(case lR2=>k_is);(case lR3=>k_is);(case lR4=>k_is);(case lR5=>k_is);(case lR6=>k_is)
  (case aC=>k_is);(case aJ=>k_is);(case e1=>k_is);(case e2=>k_is);(case e3=>k_is);(case e4=>k_is);(case e5=>k_is);(case eV=>k_is)
  (case qX=>k_exc);(case hJ=>kts_exm);(case k1=>kit_is);(case k2=>kit_is);(case k3=>kernel_rfl)
  (case x1=>k_is);(case x2=>k_is);(case x3=>k_is);(case x4=>k_is);(case x5=>k_is)
  (case zb=>intro b hb;simp only [CI.blAll,List.mem_cons,List.not_mem_nil,or_false] at hb;rcases hb with rfl | rfl | rfl | rfl | rfl | rfl | rfl | rfl | rfl | rfl | rfl | rfl | rfl | rfl | rfl | rfl | rfl | rfl | rfl | rfl<;>k_is)
